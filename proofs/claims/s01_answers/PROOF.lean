import PyProof.Rows.All
import Wide.All
import OpenK.AllK
import Wide.FinOn
import PyProof.EqAt
import PyProof.EqKinds
import PyProof.TupleCall
import KE.BitLaws
import Open.SpecLaws
import KE.OsHead
import KE.OsGo
import PySem.Challenge.RW_albumkinds_s01_answers
set_option Elab.async false
set_option linter.all false
set_option maxRecDepth 100000
namespace L2
open PySem PySem.Spec PyProof.Rows
abbrev Key := Sum Int Str
def keyIs : Key → Value → Bool
  | .inl k, v => Value.isInt k v
  | .inr x, v => Value.isStrOf x v
def keyH (w : World) : Key → Int
  | .inl k => hashInt k
  | .inr x => hashStr w x
theorem keyIs_shape : ∀ {k : Key} {v : Value}, keyIs k v = true → (∃ i t, k = Sum.inl i ∧ v = Value.int i t) ∨ (∃ x t, k = Sum.inr x ∧ v = Value.str x t)
  | .inl i, v, h => by
    obtain ⟨t, e⟩ := Value.isInt_shape (k := i) (v := v) h
    exact .inl ⟨i, t, rfl, e⟩
  | .inr x, v, h => by
    obtain ⟨t, e⟩ := Value.isStrOf_shape (x := x) (v := v) h
    exact .inr ⟨x, t, rfl, e⟩
theorem keyIs_int (i : Int) (t : Tok) : keyIs (.inl i) (.int i t) = true := by simp [keyIs, Value.isInt]
theorem key_ll (a b : Int) : decide ((Sum.inl a : Key) = Sum.inl b) = (a == b) := by
  by_cases e : a = b
  · subst e; simp
  · have h : ¬ (Sum.inl a : Key) = Sum.inl b := fun q => e (Sum.inl.inj q)
    rw [decide_eq_false h]
    exact (beq_eq_false_iff_ne.mpr e).symm
theorem key_rr (a b : Str) : decide ((Sum.inr a : Key) = Sum.inr b) = decide (a = b) := by
  by_cases e : a = b
  · subst e; simp
  · have h : ¬ (Sum.inr a : Key) = Sum.inr b := fun q => e (Sum.inr.inj q)
    rw [decide_eq_false h, decide_eq_false e]
theorem key_lr (a : Int) (b : Str) : decide ((Sum.inl a : Key) = Sum.inr b) = false := decide_eq_false (fun q => nomatch q)
theorem key_rl (a : Str) (b : Int) : decide ((Sum.inr a : Key) = Sum.inl b) = false := decide_eq_false (fun q => nomatch q)
def mixKind (prog : Program) (w : World) : PySem.KeyKind prog w Key where
  is := keyIs
  hash := keyH w
  inj := fun v a b ha hb => by
    rcases keyIs_shape ha with ⟨i, t, rfl, rfl⟩ | ⟨x, t, rfl, rfl⟩
    · rcases keyIs_shape hb with ⟨j, u, rfl, e⟩ | ⟨y, u, rfl, e⟩
      · injection e with e1 _; rw [e1]
      · exact nomatch e
    · rcases keyIs_shape hb with ⟨j, u, rfl, e⟩ | ⟨y, u, rfl, e⟩
      · exact nomatch e
      · injection e with e1 _; rw [e1]
  byValue := fun k v h => by
    rcases keyIs_shape h with ⟨i, t, rfl, rfl⟩ | ⟨x, t, rfl, rfl⟩ <;> rfl
  pyHash := fun hv h => by
    rcases keyIs_shape hv with ⟨i, t, rfl, rfl⟩ | ⟨x, t, rfl, rfl⟩
    · exact wpAny_pyHash_int h
    · exact wpAny_pyHash_str h
  eqBool := fun hu hv h => by
    rcases keyIs_shape hu with ⟨i, t, rfl, rfl⟩ | ⟨x, t, rfl, rfl⟩
    · rcases keyIs_shape hv with ⟨j, u, rfl, rfl⟩ | ⟨y, u, rfl, rfl⟩
      · rw [key_ll] at h; exact wpAny_eqBool_int h
      · rw [key_lr] at h; exact SeqAt.EqAt.int_str i t y u _ _ _ _ h
    · rcases keyIs_shape hv with ⟨j, u, rfl, rfl⟩ | ⟨y, u, rfl, rfl⟩
      · rw [key_rl] at h; exact SeqAt.EqAt.str_int x t j u _ _ _ _ h
      · rw [key_rr] at h; exact wpAny_eqBool_str h
  «strs» := fun k x t v h => by
    rcases keyIs_shape h with ⟨i, u, rfl, e⟩ | ⟨y, u, rfl, e⟩
    · exact nomatch e
    · injection e with e1 _
      subst e1
      cases v <;> rfl
end L2
namespace L2
open PySem PySem.Spec PyProof.Rows
inductive V where
  | non | bl (b : Bool) | int (i : Int) | str (x : Str) | byt (b : Array UInt8) | flt (b : UInt64) | ref (a : Addr) | ty (n : String)
  deriving DecidableEq
def RelV : V → Value → Prop
  | .non, u => u = Value.none
  | .bl b, u => u = Value.bool b
  | .int i, u => ∃ t, u = Value.int i t
  | .str x, u => ∃ t, u = Value.str x t
  | .byt b, u => ∃ t, u = Value.bytes b t
  | .flt b, u => ∃ t, u = Value.float b t
  | .ref a, u => u = Value.ref a
  | .ty n, u => u = Value.type n
abbrev Vals : List V → List Value → Prop := Paired RelV
theorem Vals.length {xs : List V} {us : List Value} (r : Vals xs us) : xs.length = us.length := Paired.length r
theorem Vals.get : ∀ {xs : List V} {us : List Value} {i : Nat} {x : V}, Vals xs us → xs[i]? = some x → ∃ u, us[i]? = some u ∧ RelV x u
  | _, _, _, _, .nil, e => by simp at e
  | _, _, 0, _, .cons r _, e => by simp at e; subst e; exact ⟨_, rfl, r⟩
  | _, _, i + 1, x, .cons _ t, e => by
    obtain ⟨u, h1, h2⟩ := Vals.get (i := i) (x := x) t (by simpa using e)
    exact ⟨u, by simpa using h1, h2⟩
theorem Vals.set {x : V} {u : Value} (r : RelV x u) : ∀ {xs : List V} {us : List Value} (i : Nat), Vals xs us → Vals (xs.set i x) (us.set i u)
  | _, _, _, .nil => .nil
  | _, _, 0, .cons _ t => .cons r t
  | _, _, i + 1, .cons q t => .cons q (Vals.set r i t)
theorem Vals.append : ∀ {xs ys : List V} {us ws : List Value}, Vals xs us → Vals ys ws → Vals (xs ++ ys) (us ++ ws)
  | _, _, _, _, .nil, s => s
  | _, _, _, _, .cons r t, s => .cons r (Vals.append t s)
theorem Vals.take : ∀ {xs : List V} {us : List Value} (n : Nat), Vals xs us → Vals (xs.take n) (us.take n)
  | _, _, 0, _ => .nil
  | _, _, _ + 1, .nil => .nil
  | _, _, n + 1, .cons r t => .cons r (Vals.take n t)
theorem Vals.drop : ∀ {xs : List V} {us : List Value} (n : Nat), Vals xs us → Vals (xs.drop n) (us.drop n)
  | _, _, 0, r => r
  | _, _, _ + 1, .nil => .nil
  | _, _, n + 1, .cons _ t => Vals.drop n t
def RelO : Option V → Option Value → Prop
  | some v, some u => RelV v u
  | none, none => True
  | _, _ => False
def KV {κ : Type} : List (κ × V) → List (κ × Value) → Prop := Paired fun (p : κ × V) (q : κ × Value) => p.1 = q.1 ∧ RelV p.2 q.2
def kV : Key → V
  | .inl i => .int i
  | .inr x => .str x
inductive HO where
  | lst (xs : List V)
  | tup (xs : List V)
  | dK (kvs : List (Key × V)) | dT (kvs : List (List Key × V))
  | set (S : Int → Bool) (n : Nat)
  | ins (C dx : Addr) (fs : List (Str × V))
  | own (x : Addr)
  | xd (fs : List (Str × V))
  | met (f x : Addr)
  | rng (lo hi : Int)
  | frz (o : Obj) (u : HO)
  | tbl (ps : Array Value)
  | ext (φ : Heap → Prop)
abbrev Hp := Addr → Option HO
def upd (H : Hp) (a : Addr) (o : HO) : Hp := fun b => if b = a then some o else H b
theorem upd_same {H : Hp} {a : Addr} {o : HO} : upd H a o a = some o := by unfold upd; rw [if_pos rfl]
theorem upd_ne {H : Hp} {a b : Addr} {o : HO} (h : b ≠ a) : upd H a o b = H b := by unfold upd; rw [if_neg h]
theorem upd_upd {H : Hp} {a : Addr} {o u : HO} : upd (upd H a o) a u = upd H a u := by
  funext b; unfold upd; split <;> rfl
theorem ne_of {H : Hp} {a b : Addr} {o u : HO} (h : H a = some o) (h' : H b = some u) (d : o ≠ u) : a ≠ b := by
  intro e; subst e; rw [h] at h'; exact d (Option.some.inj h')
theorem ne_of_none {H : Hp} {a b : Addr} {o : HO} (h : H a = some o) (h' : H b = none) : a ≠ b := by
  intro e; subst e; rw [h] at h'; cases h'
section
variable (P : Program) (w : World)
def ObjOk (H : Hp) (h : Heap) (a : Addr) : HO → Prop
  | .lst xs => xs.length ≤ sizeLine ∧ ∃ (its : List Value) (n : Nat), Vals xs its ∧ h.get? a = some { cls := .type "list", data := .seq its.toArray n }
  | .tup xs => xs.length ≤ sizeLine ∧ ∃ its : List Value, Vals xs its ∧ IsTup h a its.toArray
  | .dK kvs => kvs.length ≤ sizeLine ∧ (a == sysModules) = false ∧ ∃ vs, KV kvs vs ∧ h.DictOf (mixKind P w) a vs
  | .dT kvs => kvs.length ≤ sizeLine ∧ (a == sysModules) = false ∧ ∃ xs : List (List Key × Addr × Value),
      Paired (fun (p : List Key × V) (q : List Key × Addr × Value) => p.1 = q.1 ∧ H q.2.1 = some (.tup (p.1.map kV)) ∧ RelV p.2 q.2.2) kvs xs ∧
      ∃ o es ep, h.get? a = some o ∧ o.ExactDict ∧ o.data = .dict es ep ∧ es.toList = xs.map (entryOfKey (tupleKind (mixKind P w))) ∧ (xs.map (·.1)).Nodup
  | .set S n => h.SetOf (intKind P w) a S n
  | .ins C dx fs => H dx = some (.own a) ∧ fs.length ≤ 1000 ∧ dx ≠ a ∧ h.get? a = some (PySem.W.instObj C dx) ∧
      ∃ mA, h.Ns1 dx mA ∧ (∀ f, RelO (fs.lookup f) (mA f)) ∧ PySem.Within mA (fs.map (·.1))
  | .own _ => ∃ o, h.get? a = some o
  | .xd fs => ∃ mA, h.Ns1 a mA ∧ ∀ f, RelO (fs.lookup f) (mA f)
  | .rng lo hi => ∃ t u v, h.get? a = some { cls := .type "range", data := .fields #[.int lo t, .int hi u, .int 1 v] }
  | .frz o u => h.get? a = some o ∧ ObjOk H h a u
  | .tbl ps => h.get? a = some { cls := .none, data := .fields ps }
  | .met f x => h.get? a = some (PySem.W.methodObj (.ref f) (.ref x))
  | .ext φ => φ h ∧ (∃ o, h.get? a = some o) ∧ ∀ h1 h2 : Heap, φ h1 → (∀ o, h1.get? a = some o → h2.get? a = some o) → φ h2
def HOk (H : Hp) (h : Heap) : Prop := ∀ a o, H a = some o → ObjOk P w H h a o
end
section
variable {P : Program} {w : World} {H H' : Hp} {h h' : Heap} {a : Addr} {o : HO}
theorem ObjOk.lt (x : ObjOk P w H h a o) : a < h.objs.size := by
  cases o with
  | lst xs => obtain ⟨_, _, _, _, e⟩ := x; exact Heap.lt_size e
  | tup xs => obtain ⟨_, _, _, p⟩ := x; exact p.lt
  | dK kvs => obtain ⟨_, _, _, _, o, _, _, e, _⟩ := x; exact Heap.lt_size e
  | dT kvs => obtain ⟨_, _, _, _, o, _, _, e, _⟩ := x; exact Heap.lt_size e
  | set S n => obtain ⟨o, _, _, _, e, _⟩ := x; exact Heap.lt_size e
  | ins C dx fs => obtain ⟨_, _, _, e, _⟩ := x; exact Heap.lt_size e
  | own y => obtain ⟨_, e⟩ := x; exact Heap.lt_size e
  | xd fs => obtain ⟨_, ⟨_, _, _, e, _⟩, _⟩ := x; exact Heap.lt_size e
  | rng lo hi => obtain ⟨_, _, _, e⟩ := x; exact Heap.lt_size e
  | frz ob u => obtain ⟨e, _⟩ := x; exact Heap.lt_size e
  | tbl ps => exact Heap.lt_size (show h.get? a = some _ from x)
  | met f y => exact Heap.lt_size (show h.get? a = some _ from x)
  | ext φ => obtain ⟨_, ⟨_, e⟩, _⟩ := x; exact Heap.lt_size e
theorem Paired.mapP {α β : Type} {F G : α → β → Prop} : ∀ {l₁ : List α} {l₂ : List β}, Paired F l₁ l₂ → (∀ a b, F a b → G a b) → Paired G l₁ l₂
  | _, _, .nil, _ => .nil
  | _, _, .cons r t, f => .cons (f _ _ r) (Paired.mapP t f)
theorem ObjOk.stay (x : ObjOk P w H h a o) (k : ∀ b u, (b = a ∨ H b = some (.own a)) → h.get? b = some u → h'.get? b = some u)
    (ho : ∀ b, H b = some (.own a) → H' b = some (.own a)) (ht : ∀ b xs, H b = some (.tup xs) → H' b = some (.tup xs)) : ObjOk P w H' h' a o := by
  induction o with
  | lst xs => obtain ⟨z, its, n, r, e⟩ := x; exact ⟨z, its, n, r, k _ _ (.inl rfl) e⟩
  | tup xs => obtain ⟨z, its, r, ob, e, c⟩ := x; exact ⟨z, its, r, ob, k _ _ (.inl rfl) e, c⟩
  | dK kvs => obtain ⟨z, y, vs, r, ob, es, ep, e, c⟩ := x; exact ⟨z, y, vs, r, ob, es, ep, k _ _ (.inl rfl) e, c⟩
  | dT kvs =>
    obtain ⟨z, y, xs, r, ob, es, ep, e, c⟩ := x
    exact ⟨z, y, xs, Paired.mapP r fun p q z => ⟨z.1, ht _ _ z.2.1, z.2.2⟩, ob, es, ep, k _ _ (.inl rfl) e, c⟩
  | set S n => obtain ⟨ob, es, ep, t, e, c⟩ := x; exact ⟨ob, es, ep, t, k _ _ (.inl rfl) e, c⟩
  | ins C dx fs =>
    obtain ⟨d, z, ne, e, mA, ⟨od, es, ep, e2, c⟩, r⟩ := x
    exact ⟨ho _ d, z, ne, k _ _ (.inl rfl) e, mA, ⟨od, es, ep, k _ _ (.inr d) e2, c⟩, r⟩
  | own y => obtain ⟨ob, e⟩ := x; exact ⟨ob, k _ _ (.inl rfl) e⟩
  | xd fs => obtain ⟨mA, ⟨od, es, ep, e, c⟩, r⟩ := x; exact ⟨mA, ⟨od, es, ep, k _ _ (.inl rfl) e, c⟩, r⟩
  | rng lo hi => obtain ⟨t, u, v, e⟩ := x; exact ⟨t, u, v, k _ _ (.inl rfl) e⟩
  | frz ob u ih => obtain ⟨e, q⟩ := x; exact ⟨k _ _ (.inl rfl) e, ih q⟩
  | tbl ps =>
    have e : h.get? a = some { cls := .none, data := .fields ps } := x
    show h'.get? a = some { cls := .none, data := .fields ps }
    exact k a _ (.inl rfl) e
  | met f y =>
    have e : h.get? a = some (PySem.W.methodObj (.ref f) (.ref y)) := x
    show h'.get? a = some (PySem.W.methodObj (.ref f) (.ref y))
    exact k a _ (.inl rfl) e
  | ext φ => obtain ⟨p, ⟨o, e⟩, st⟩ := x; exact ⟨st _ _ p fun o q => k _ _ (.inl rfl) q, ⟨o, k _ _ (.inl rfl) e⟩, st⟩
theorem HOk.lt (x : HOk P w H h) (e : H a = some o) : a < h.objs.size := (x a o e).lt
theorem HOk.fresh (x : HOk P w H h) (e : h.objs.size ≤ a) : H a = none := by
  cases q : H a with
  | none => rfl
  | some u => exact absurd (Nat.lt_of_lt_of_le (x.lt q) e) (Nat.lt_irrefl _)
theorem HOk.kept (x : HOk P w H h) (k : ∀ b u, h.get? b = some u → h'.get? b = some u) : HOk P w H h' := fun a o e =>
  (x a o e).stay (fun b u _ q => k b u q) (fun _ q => q) fun _ _ q => q
theorem HOk.laid (x : HOk P w H h) (k : ∀ b u, h.get? b = some u → h'.get? b = some u) (hp : h.objs.size ≤ a) (new : ObjOk P w (upd H a o) h' a o) : HOk P w (upd H a o) h' := fun b u e => by
  have hn := x.fresh hp
  by_cases hb : b = a
  · subst hb; rw [upd_same] at e; cases e; exact new
  · rw [upd_ne hb] at e
    exact (x b u e).stay (fun c v _ q => k c v q) (fun c q => by rw [upd_ne (ne_of_none q hn)]; exact q) fun c xs q => by rw [upd_ne (ne_of_none q hn)]; exact q
end
def Rd (H : Hp) (a : Addr) (u : HO) : Prop := H a = some u ∨ ∃ o, H a = some (.frz o u)
theorem Rd.of {H : Hp} {a : Addr} {u : HO} (h : H a = some u) : Rd H a u := .inl h
theorem Rd.ok {P : Program} {w : World} {H : Hp} {h : Heap} {a : Addr} {u : HO} (r : Rd H a u) (x : HOk P w H h) : ObjOk P w H h a u := by
  rcases r with r | ⟨o, r⟩
  · exact x a u r
  · obtain ⟨_, q⟩ := x a _ r
    exact q
def Mut : Option HO → Prop
  | some (.lst _) => True
  | some (.dK _) => True
  | some (.dT _) => True
  | some (.set _ _) => True
  | some (.ins _ _ _) => True
  | some (.ext _) => True
  | _ => False
section
variable {P : Program} {w : World} {H : Hp} {h h' : Heap} {x e : Addr} {o' : HO}
theorem HOk.write (ok : HOk P w H h) (mu : Mut (H x)) (he : e = x ∨ H e = some (.own x)) (k : ∀ b u, b ≠ e → h.get? b = some u → h'.get? b = some u) (heo : ∃ u, h'.get? e = some u)
    (new : ObjOk P w (upd H x o') h' x o') : HOk P w (upd H x o') h' := fun b u q => by
  have nown : ∀ c y, H c = some (.own y) → c ≠ x := fun c y r z => by subst z; rw [r] at mu; exact mu
  have ntup : ∀ c xs, H c = some (.tup xs) → c ≠ x := fun c xs r z => by subst z; rw [r] at mu; exact mu
  by_cases hb : b = x
  · subst hb; rw [upd_same] at q; cases q; exact new
  · rw [upd_ne hb] at q
    by_cases hbe : b = e
    · have q' : H b = some (.own x) := by
        rcases he with z | z
        · exact absurd (hbe.trans z) hb
        · rw [hbe]; exact z
      rw [q] at q'; cases q'
      obtain ⟨v, hv⟩ := heo
      exact ⟨v, by rw [hbe]; exact hv⟩
    · refine (ok b u q).stay (fun c v hc r => k c v ?_ r) (fun c r => by rw [upd_ne (nown c b r)]; exact r) fun c xs r => by rw [upd_ne (ntup c xs r)]; exact r
      rcases hc with rfl | hc
      · exact hbe
      · rintro rfl
        rcases he with z | z
        · exact nown c b hc z
        · rw [hc] at z; cases z; exact hb rfl
end
structure Un (fs ex : List Addr) (H H' : Hp) (h h' : Heap) : Prop where
  keep : ∀ b o, h.get? b = some o → H b = none → b ∉ fs → b ∉ ex → h'.get? b = some o
  slot : ∀ b o, h.get? b = some o → H b = none → b ∈ fs → b ∉ ex → ∃ sl, h'.get? b = some { o with slots := sl }
  free : ∀ b o, h.get? b = some o → H b = none → b ∉ ex → H' b = none
  there : ∀ b o, h.get? b = some o → b ∉ ex → ∃ o', h'.get? b = some o'
  tups : ∀ b xs, H b = some (.tup xs) → H' b = some (.tup xs)
  frzs : ∀ b o u, H b = some (.frz o u) → H' b = some (.frz o u)
  tbls : ∀ b ps, H b = some (.tbl ps) → ∃ more, H' b = some (.tbl (ps ++ more))
section
variable {fs fs' ex ex' : List Addr} {H H1 H2 : Hp} {h h1 h2 h' : Heap} {a x e : Addr} {o : HO}
theorem Un.any (u : Un fs ex H H1 h h1) {b : Addr} {ob : Obj} (q : h.get? b = some ob) (n : H b = none) (hx : b ∉ ex) : ∃ sl, h1.get? b = some { ob with slots := sl } := by
  by_cases hb : b ∈ fs
  · exact u.slot b ob q n hb hx
  · exact ⟨ob.slots, u.keep b ob q n hb hx⟩
theorem Un.trans (a : Un fs ex H H1 h h1) (b : Un fs ex H1 H2 h1 h2) : Un fs ex H H2 h h2 where
  keep := fun c ob q n hc hx => b.keep c ob (a.keep c ob q n hc hx) (a.free c ob q n hx) hc hx
  slot := fun c ob q n hc hx => by
    obtain ⟨sl, e1⟩ := a.slot c ob q n hc hx
    obtain ⟨sl', e2⟩ := b.slot c _ e1 (a.free c ob q n hx) hc hx
    exact ⟨sl', e2⟩
  free := fun c ob q n hx => by
    obtain ⟨o', e1⟩ := a.there c ob q hx
    exact b.free c o' e1 (a.free c ob q n hx) hx
  there := fun c ob q hx => by
    obtain ⟨o', e1⟩ := a.there c ob q hx
    exact b.there c o' e1 hx
  tups := fun c xs q => b.tups c xs (a.tups c xs q)
  frzs := fun c ob xs q => b.frzs c ob xs (a.frzs c ob xs q)
  tbls := fun c ps q => by
    obtain ⟨m1, e1⟩ := a.tbls c ps q
    obtain ⟨m2, e2⟩ := b.tbls c _ e1
    exact ⟨m1 ++ m2, by rw [e2, Array.append_assoc]⟩
theorem Un.kept (k : ∀ b u, h.get? b = some u → h'.get? b = some u) : Un fs ex H H h h' :=
  ⟨fun b ob q _ _ _ => k b ob q, fun b ob q _ _ _ => ⟨ob.slots, k b ob q⟩, fun _ _ _ n _ => n, fun b ob q _ => ⟨ob, k b ob q⟩, fun _ _ q => q, fun _ _ _ q => q, fun _ ps q => ⟨#[], by rw [q]; simp⟩⟩
theorem Un.refl : Un fs ex H H h h := Un.kept fun _ _ q => q
theorem Un.laid (k : ∀ b u, h.get? b = some u → h'.get? b = some u) (hp : h.objs.size ≤ a) (hn : H a = none) : Un fs ex H (upd H a o) h h' where
  keep := fun b u q _ _ _ => k b u q
  slot := fun b u q _ _ _ => ⟨u.slots, k b u q⟩
  free := fun b u q n _ => by rw [upd_ne (Nat.ne_of_lt (Nat.lt_of_lt_of_le (Heap.lt_size q) hp))]; exact n
  there := fun b u q _ => ⟨u, k b u q⟩
  tups := fun b xs q => by rw [upd_ne (ne_of_none q hn)]; exact q
  frzs := fun b u xs q => by rw [upd_ne (ne_of_none q hn)]; exact q
  tbls := fun b ps q => ⟨#[], by rw [upd_ne (ne_of_none q hn), q]; simp⟩
theorem Un.write (mu : Mut (H x)) (he : e = x ∨ H e = some (.own x)) (k : ∀ b u, b ≠ e → h.get? b = some u → h'.get? b = some u) (heo : ∃ u, h'.get? e = some u) : Un fs ex H (upd H x o) h h' := by
  have hx : ∀ b, H b = none → b ≠ x := fun b n z => by subst z; rw [n] at mu; exact mu
  have hb : ∀ b, H b = none → b ≠ e := fun b n z => by
    subst z
    rcases he with r | r
    · exact hx b n r
    · rw [n] at r; cases r
  have hm : ∀ b u, H b = some u → ¬ Mut (some u) → b ≠ x := fun b u q nm z => by subst z; rw [q] at mu; exact nm mu
  refine ⟨fun b u q n _ _ => k b u (hb b n) q, fun b u q n _ _ => ⟨u.slots, k b u (hb b n) q⟩, fun b u q n _ => by rw [upd_ne (hx b n)]; exact n, fun b u q _ => ?_,
    fun b xs q => by rw [upd_ne (hm b _ q fun z => z)]; exact q, fun b u xs q => by rw [upd_ne (hm b _ q fun z => z)]; exact q, fun b ps q => ⟨#[], by rw [upd_ne (hm b _ q fun z => z), q]; simp⟩⟩
  by_cases hbe : b = e
  · subst hbe; exact heo
  · exact ⟨u, k b u hbe q⟩
theorem Un.mono (u : Un fs ex H H1 h h1) (hs : ∀ b ∈ fs, b ∈ fs') (hx : ∀ b ∈ ex, b ∈ ex') : Un fs' ex' H H1 h h1 :=
  ⟨fun b ob q n hb he => u.keep b ob q n (fun z => hb (hs b z)) fun z => he (hx b z), fun _ _ q n _ he => u.any q n fun z => he (hx _ z), fun b ob q n he => u.free b ob q n fun z => he (hx b z), fun b ob q he => u.there b ob q fun z => he (hx b z), u.tups, u.frzs, u.tbls⟩
end
def trk (h : Heap) (H : Hp) : List Addr := (List.range h.objs.size).filter fun a => (H a).isSome
def hidT (h : Heap) (H : Hp) : Heap := PySem.W.hideAll h (trk h H)
theorem hidT_size (h : Heap) (H : Hp) : (hidT h H).objs.size = h.objs.size := PySem.W.hideAll_size _ _
theorem hidT_get {h : Heap} {H : Hp} {b : Addr} {o : Obj} (e : h.get? b = some o) (n : H b = none) : (hidT h H).get? b = some o :=
  PySem.W.hideAll_get _ e fun hm => by
    have q : (H b).isSome = true := (List.mem_filter.mp hm).2
    rw [n] at q; simp at q
theorem of_hidT {h : Heap} {H : Hp} {b : Addr} {o : Obj} (e : (hidT h H).get? b = some o) : h.get? b = some o ∧ H b = none := by
  have e' : h.get? b = some o := PySem.W.of_hideAll (trk h H) e
  refine ⟨e', ?_⟩
  cases q : H b with
  | none => rfl
  | some x =>
    have hm : b ∈ trk h H := List.mem_filter.mpr ⟨List.mem_range.mpr (Heap.lt_size e'), by simp [q]⟩
    have z : (hidT h H).get? b = none := PySem.W.hideAll_none (trk h H) hm
    rw [z] at e; cases e
def allNews (g h : Heap) (L : Addr) : List (Addr × Obj) := (List.range h.objs.size).filterMap fun a => if a = L ∨ (g.get? a).isSome = true then none else (h.get? a).map fun o => (a, o)
def rest (g h : Heap) (L d : Addr) : List (Addr × Obj) := (allNews g h L).filter fun p => decide (p.1 ≠ d)
end L2
namespace L2
open PySem PySem.Spec PyProof.Rows
structure Mod (K : PySem.W.Frag) (mg : Str → Option Value) (base : Heap) : Prop where
  kin : K.In base
  glob : base.Ns mainGlobals mg
  blt : ∃ mb, base.Ns builtinsNs mb ∧ ∀ x : Str, x ≠ "__name__" → mb x = bootBuiltins x
  nolimit : base.NoLimit
structure Cx where
  prog : Program
  w : World
  K : PySem.W.Frag
  mg : Str → Option Value
  base : Heap
  A : Around
  N : List Str
  s_0 : Shared
  H_0 : Hp
  env : Env
  outer : List Env
  stack : List Env
  ex : List Addr
  fn : Str → Bool
  calm : Bool
  pn : List (Addr × Obj)
  xe : Value → Shared → Prop
def frs (l : List Env) : List Addr := l.filterMap (·.frame)
abbrev Cx.fs (X : Cx) : List Addr := frs X.outer
def Vis (sc : Scope) (x : Str) : Prop := sc.names.lookup x = some .local ∨ sc.names.lookup x = some .cell ∨ sc.names.lookup x = some .free
def Loc (sc : Scope) (x : Str) : Prop := sc.names.lookup x = some .local ∨ sc.names.lookup x = some .cell
def Look (env : Env) (h : Heap) (m : Str → Option Value) (x : Str) (u : Value) : Prop :=
  (env.kindOf x = some .local ∧ m x = some u) ∨ ((env.kindOf x = some .cell ∨ env.kindOf x = some .free) ∧ ∃ c, env.cells.lookup x = some c ∧ h.IsCell c (some u))
structure Cx.Ok (X : Cx) : Prop where
  mod : Mod X.K X.mg X.base
  kind : X.env.scope.kind = .function
  glob : X.env.globals = mainGlobals
  blt : X.env.builtins = builtinsNs
  above : X.s_0.heap.objs.size ≤ X.env.locals
  inj : ∀ x y c, X.env.cells.lookup x = some c → X.env.cells.lookup y = some c → x = y
  has : ∀ x, (X.env.kindOf x = some .cell ∨ X.env.kindOf x = some .free) → ∃ c, X.env.cells.lookup x = some c
  cab : ∀ x c, X.fn x = true → X.env.cells.lookup x = some c → X.s_0.heap.objs.size ≤ c
  hd : X.calm = true → X.A.handled = none
  frames : X.A.frames = some X.stack
  stk : X.stack = X.outer ∨ (X.stack = X.env :: X.outer ∧ X.env.frame = some X.env.locals)
  exf : ∀ b ∈ X.ex, b ≠ X.env.locals ∧ ∀ x c, X.env.cells.lookup x = some c → c ≠ b
  bs : ∀ b o, X.base.get? b = some o → X.s_0.heap.get? b = some o ∧ X.H_0 b = none
  bsz : X.base.objs.size ≤ X.s_0.heap.objs.size
  noex : ∀ b o, X.base.get? b = some o → b ∉ X.ex
  exfs : ∀ b ∈ X.ex, b ∉ X.fs
  funs : X.s_0.heap.FunFrames X.base X.outer
  frf : ∀ b ∈ X.fs, X.H_0 b = none
structure Inv (X : Cx) (pins : List (Addr × Obj)) (σ : List (Option V)) (H : Hp) (s : Shared) : Prop where
  ok : X.Ok
  os : s.os = X.s_0.os
  bare : AllBare s.gens
  base : Un X.fs X.ex X.H_0 H X.s_0.heap s.heap
  loc : ∃ m, s.heap.Ns X.env.locals m ∧ ∀ (i : Nat) (x : Str) (v : V), X.N[i]? = some x → σ[i]? = some (some v) → Vis X.env.scope x → ∃ u, RelV v u ∧ Look X.env s.heap m x u
  cell : ∀ x c, X.env.cells.lookup x = some c → ∃ v, s.heap.IsCell c v
  free : H X.env.locals = none
  freeC : ∀ x c, X.env.cells.lookup x = some c → H c = none
  pin : ∀ p ∈ X.pn ++ pins, s.heap.get? p.1 = some p.2 ∧ H p.1 = none ∧ p.1 ≠ X.env.locals ∧ p.1 ∉ X.fs ∧ ∀ v, p.2.data ≠ .cell v
  hok : HOk X.prog X.w H s.heap
  len : σ.length = X.N.length
section
variable {X : Cx} {pins : List (Addr × Obj)} {σ : List (Option V)} {H H' : Hp} {s : Shared} {h' : Heap}
theorem Cx.Ok.nofr (ok : X.Ok) {b : Addr} {o : Obj} (e : X.base.get? b = some o) : b ∉ X.fs := fun hb => by
  have := (ok.funs.mem hb).1
  rw [e] at this; cases this
theorem Inv.bs (I : Inv X pins σ H s) : ∀ b o, X.base.get? b = some o → s.heap.get? b = some o ∧ H b = none := fun b o e =>
  ⟨I.base.keep b o (I.ok.bs b o e).1 (I.ok.bs b o e).2 (I.ok.nofr e) (I.ok.noex b o e), I.base.free b o (I.ok.bs b o e).1 (I.ok.bs b o e).2 (I.ok.noex b o e)⟩
theorem Inv.bk (I : Inv X pins σ H s) : ∀ b o, X.base.get? b = some o → s.heap.get? b = some o := fun b o e => (I.bs b o e).1
theorem Inv.mod (I : Inv X pins σ H s) : Mod X.K X.mg X.base := I.ok.mod
theorem Inv.kIn (I : Inv X pins σ H s) : X.K.In s.heap := I.ok.mod.kin.keeps I.bk
theorem Inv.nolimit (I : Inv X pins σ H s) : s.heap.NoLimit := I.ok.mod.nolimit.keeps I.bk
theorem Inv.fr (I : Inv X pins σ H s) : ∃ m, Fr X.base X.env.locals s.heap m :=
  let ⟨m, hn, _⟩ := I.loc
  ⟨m, hn, I.bk, Nat.le_trans I.ok.bsz I.ok.above⟩
theorem Inv.lt (I : Inv X pins σ H s) : X.env.locals < s.heap.objs.size := let ⟨_, hn, _⟩ := I.loc; hn.lt
theorem Inv.sz (I : Inv X pins σ H s) : X.s_0.heap.objs.size ≤ s.heap.objs.size := Nat.le_trans I.ok.above (Nat.le_of_lt I.lt)
theorem Inv.nofs (I : Inv X pins σ H s) {a : Addr} (h : s.heap.objs.size ≤ a) : a ∉ X.fs := fun hb => by
  obtain ⟨_, o, ho, _⟩ := I.ok.funs.mem hb
  exact absurd (Nat.lt_of_lt_of_le (Heap.lt_size ho) (Nat.le_trans I.sz h)) (Nat.lt_irrefl _)
theorem Inv.cne (I : Inv X pins σ H s) : ∀ x c, X.env.cells.lookup x = some c → c ≠ X.env.locals := fun x c e z => by
  obtain ⟨v, o, ho, hd⟩ := I.cell x c e
  obtain ⟨m, ⟨o', es, ep, ho', hd', _⟩, _⟩ := I.loc
  rw [z, ho'] at ho; cases ho; rw [hd'] at hd; cases hd
theorem Inv.funs (I : Inv X pins σ H s) : s.heap.FunFrames X.base X.outer := by
  have all : ∀ (l : List Env), (∀ b ∈ frs l, b ∈ X.fs) → X.s_0.heap.FunFrames X.base l → s.heap.FunFrames X.base l := by
    intro l
    induction l with
    | nil => intro _ _; trivial
    | cons env r ih =>
      intro hs hl
      obtain ⟨hk, ⟨L, o, hf, hn, ho, hd⟩, hr⟩ := hl
      have hL : L ∈ X.fs := hs L (by unfold frs; rw [List.filterMap_cons, hf]; exact List.mem_cons_self)
      obtain ⟨sl, e⟩ := I.base.slot L o ho (I.ok.frf L hL) hL fun z => I.ok.exfs L z hL
      exact ⟨hk, ⟨L, _, hf, hn, e, hd⟩, ih (fun b hb => hs b (by unfold frs; rw [List.filterMap_cons, hf]; exact List.mem_cons_of_mem _ hb)) hr⟩
  exact all X.outer (fun _ hb => hb) I.ok.funs
theorem Inv.stack (I : Inv X pins σ H s) : s.heap.FunFrames X.base X.stack := by
  rcases I.ok.stk with e | ⟨e, hf⟩
  · rw [e]; exact I.funs
  · rw [e]
    obtain ⟨m, hn, _⟩ := I.loc
    refine .cons (by rw [I.ok.kind]; decide) hf hn ?_ I.funs
    exact Heap.get?_none_of_le (Nat.le_trans I.ok.bsz I.ok.above)
theorem Inv.stkSub (I : Inv X pins σ H s) : ∀ b ∈ frs X.stack, b ∈ X.env.locals :: X.fs := fun b hb => by
  rcases I.ok.stk with e | ⟨e, hf⟩
  · rw [e] at hb; exact List.mem_cons_of_mem _ hb
  · rw [e] at hb
    unfold frs at hb
    rw [List.filterMap_cons, hf] at hb
    exact hb
theorem Inv.stkFree (I : Inv X pins σ H s) : ∀ b ∈ frs X.stack, H b = none := fun b hb => by
  rcases List.mem_cons.mp (I.stkSub b hb) with e | hb
  · rw [e]; exact I.free
  · obtain ⟨_, o, ho, _⟩ := I.ok.funs.mem hb
    exact I.base.free b o ho (I.ok.frf b hb) fun z => I.ok.exfs b z hb
theorem Inv.step {g' : Array GenState} {t' : Nat} {d' : Drawn} {ch : List Addr} (I : Inv X pins σ H s)
    (hch : ∀ b ∈ ch, (b ∈ X.ex ∨ X.s_0.heap.objs.size ≤ b) ∧ b ≠ X.env.locals ∧ (∀ x c, X.env.cells.lookup x = some c → c ≠ b) ∧ ∀ p ∈ X.pn ++ pins, p.1 ≠ b)
    (keep : ∀ b o, b ≠ X.env.locals → b ∉ X.fs → b ∉ ch → s.heap.get? b = some o → H b = none → h'.get? b = some o)
    (slot : ∀ b o, b ≠ X.env.locals → b ∈ X.fs → b ∉ ch → s.heap.get? b = some o → H b = none → ∃ sl, h'.get? b = some { o with slots := sl }) (free : ∀ b o, b ∉ ch → s.heap.get? b = some o → H b = none → H' b = none)
    (there : ∀ b o, b ∉ ch → s.heap.get? b = some o → ∃ o', h'.get? b = some o')
    (tups : ∀ b xs, H b = some (.tup xs) → H' b = some (.tup xs)) (frzs : ∀ b o u, H b = some (.frz o u) → H' b = some (.frz o u)) (tbls : ∀ b ps, H b = some (.tbl ps) → ∃ more, H' b = some (.tbl (ps ++ more)))
    (ns : ∀ m, s.heap.Ns X.env.locals m → h'.Ns X.env.locals m) (hok : HOk X.prog X.w H' h') (hg : AllBare g') :
    Inv X pins σ H' { s with heap := h', gens := g', drawn := d', toks := t' } := by
  have neL : ∀ b o, X.s_0.heap.get? b = some o → b ≠ X.env.locals := fun b o e => Nat.ne_of_lt (Nat.lt_of_lt_of_le (Heap.lt_size e) I.ok.above)
  have neC : ∀ b o, X.s_0.heap.get? b = some o → b ∉ X.ex → b ∉ ch := fun b o e hx hb => by
    rcases (hch b hb).1 with z | z
    · exact hx z
    · exact absurd (Nat.lt_of_lt_of_le (Heap.lt_size e) z) (Nat.lt_irrefl _)
  have cellK : ∀ x c, X.env.cells.lookup x = some c → ∀ v, s.heap.IsCell c v → h'.IsCell c v := fun x c e v ⟨o, ho, hd⟩ => by
    have nch : c ∉ ch := fun z => (hch c z).2.2.1 x c e rfl
    by_cases hc : c ∈ X.fs
    · obtain ⟨sl, q⟩ := slot c o (I.cne x c e) hc nch ho (I.freeC x c e)
      exact ⟨_, q, hd⟩
    · exact ⟨o, keep c o (I.cne x c e) hc nch ho (I.freeC x c e), hd⟩
  refine ⟨I.ok, I.os, hg, ⟨fun b o e n hb hx => ?_, fun b o e n hb hx => ?_, fun b o e n hx => ?_, fun b o e hx => ?_, fun b xs e => tups b xs (I.base.tups b xs e), fun b o xs e => frzs b o xs (I.base.frzs b o xs e), fun b ps e => ?_⟩, ?_, fun x c e => ?_, ?_, fun x c e => ?_, fun p hp => ?_, hok, I.len⟩
  · exact keep b o (neL b o e) hb (neC b o e hx) (I.base.keep b o e n hb hx) (I.base.free b o e n hx)
  · obtain ⟨sl, e1⟩ := I.base.slot b o e n hb hx
    obtain ⟨sl', e2⟩ := slot b _ (neL b o e) hb (neC b o e hx) e1 (I.base.free b o e n hx)
    exact ⟨sl', e2⟩
  · obtain ⟨o', e1⟩ := I.base.there b o e hx
    exact free b o' (neC b o e hx) e1 (I.base.free b o e n hx)
  · obtain ⟨o', e1⟩ := I.base.there b o e hx
    exact there b o' (neC b o e hx) e1
  · obtain ⟨m1, e1⟩ := I.base.tbls b ps e
    obtain ⟨m2, e2⟩ := tbls b _ e1
    exact ⟨m1 ++ m2, by rw [e2, Array.append_assoc]⟩
  · obtain ⟨m, hn, hl⟩ := I.loc
    refine ⟨m, ns m hn, fun i x v e1 e2 e3 => ?_⟩
    obtain ⟨u, r, l⟩ := hl i x v e1 e2 e3
    refine ⟨u, r, ?_⟩
    rcases l with l | ⟨k, c, e, z⟩
    · exact .inl l
    · exact .inr ⟨k, c, e, cellK x c e _ z⟩
  · obtain ⟨v, z⟩ := I.cell x c e
    exact ⟨v, cellK x c e v z⟩
  · obtain ⟨m, ⟨o, _, _, ho, _⟩, _⟩ := I.loc
    exact free _ o (fun z => (hch _ z).2.1 rfl) ho I.free
  · obtain ⟨v, o, ho, hd⟩ := I.cell x c e
    exact free c o (fun z => (hch c z).2.2.1 x c e rfl) ho (I.freeC x c e)
  · obtain ⟨e, n, ne, nf, d⟩ := I.pin p hp
    have nch : p.1 ∉ ch := fun z => (hch p.1 z).2.2.2 p hp rfl
    exact ⟨keep p.1 p.2 ne nf nch e n, free p.1 p.2 nch e n, ne, nf, d⟩
theorem Inv.un {t' : Nat} (I : Inv X pins σ H s) (u : Un X.fs [] H H' s.heap h') (hok : HOk X.prog X.w H' h') : Inv X pins σ H' { s with heap := h', toks := t' } := by
  obtain ⟨m, ⟨o, es, ep, ho, r⟩, _⟩ := id I.loc
  obtain ⟨sl, hL⟩ := u.any ho I.free (by simp)
  exact I.step (g' := s.gens) (d' := s.drawn) (ch := []) (fun _ z => nomatch z) (fun b o _ hb _ e n => u.keep b o e n hb (by simp)) (fun b o _ hb _ e n => u.slot b o e n hb (by simp)) (fun b o _ e n => u.free b o e n (by simp)) (fun b o _ e => u.there b o e (by simp)) u.tups u.frzs u.tbls (fun m' hm => by
    obtain ⟨o', es', ep', ho', r'⟩ := hm
    rw [ho] at ho'; cases ho'
    exact ⟨_, es', ep', hL, r'⟩) hok I.bare
theorem Inv.call {g' : Array GenState} {t' : Nat} {d' : Drawn} {ch : List Addr} (I : Inv X pins σ H s) (u : Un (frs X.stack) ch H H' s.heap h') (hok : HOk X.prog X.w H' h') (hg : AllBare g')
    (hch : ∀ b ∈ ch, (b ∈ X.ex ∨ X.s_0.heap.objs.size ≤ b) ∧ b ≠ X.env.locals ∧ (∀ x c, X.env.cells.lookup x = some c → c ≠ b) ∧ ∀ p ∈ X.pn ++ pins, p.1 ≠ b) :
    Inv X pins σ H' { s with heap := h', gens := g', drawn := d', toks := t' } := by
  obtain ⟨m, ⟨o, es, ep, ho, r⟩, _⟩ := id I.loc
  obtain ⟨sl, hL⟩ := u.any ho I.free fun z => (hch _ z).2.1 rfl
  exact I.step (ch := ch) hch (fun b o hL hb hc e n => u.keep b o e n (fun z => (List.mem_cons.mp (I.stkSub b z)).elim hL hb) hc) (fun b o _ _ hc e n => u.any e n hc) (fun b o hc e n => u.free b o e n hc) (fun b o hc e => u.there b o e hc) u.tups u.frzs u.tbls (fun m' hm => by
    obtain ⟨o', es', ep', ho', r'⟩ := hm
    rw [ho] at ho'; cases ho'
    exact ⟨_, es', ep', hL, r'⟩) hok hg
theorem Inv.turned {t' : Nat} {it : Addr} (I : Inv X pins σ H s) (k : ∀ b o, b ≠ it → s.heap.get? b = some o → h'.get? b = some o) (hn : H it = none) (hL : it ≠ X.env.locals)
    (h1 : it ∈ X.ex ∨ X.s_0.heap.objs.size ≤ it) (h2 : ∀ x c, X.env.cells.lookup x = some c → c ≠ it) (h3 : ∀ p ∈ X.pn ++ pins, p.1 ≠ it) : Inv X pins σ H { s with heap := h', toks := t' } := by
  have nit : ∀ b u, H b = some u → b ≠ it := fun b u e z => by rw [z, hn] at e; cases e
  refine I.step (g' := s.gens) (d' := s.drawn) (ch := [it]) (fun b hb => ?_) (fun b o _ _ hc e _ => k b o (fun z => hc (by simp [z])) e) (fun b o _ _ hc e _ => ⟨o.slots, k b o (fun z => hc (by simp [z])) e⟩) (fun _ _ _ _ n => n)
    (fun b o hc e => ⟨o, k b o (fun z => hc (by simp [z])) e⟩) (fun _ _ e => e) (fun _ _ _ e => e) (fun b ps e => ⟨#[], by rw [e]; simp⟩) (fun m hm => ?_) (fun b u e => ?_) I.bare
  · have e : b = it := by simpa using hb
    subst e
    exact ⟨h1, hL, h2, h3⟩
  · obtain ⟨o, es, ep, ho, r⟩ := hm
    exact ⟨o, es, ep, k _ o (Ne.symm hL) ho, r⟩
  · refine (I.hok b u e).stay (fun c v hc q => k c v ?_ q) (fun _ q => q) fun _ _ q => q
    rcases hc with z | z
    · rw [z]; exact nit b u e
    · exact nit c _ z
theorem Inv.tok (I : Inv X pins σ H s) (t : Nat) : Inv X pins σ H { s with toks := t } := I.un (h' := s.heap) (t' := t) Un.refl I.hok
theorem Inv.kept {t' : Nat} (I : Inv X pins σ H s) (k : ∀ b u, s.heap.get? b = some u → h'.get? b = some u) : Inv X pins σ H { s with heap := h', toks := t' } := I.un (Un.kept k) (I.hok.kept k)
theorem Inv.laid {a : Addr} {o : HO} {t' : Nat} (I : Inv X pins σ H s) (k : ∀ b u, s.heap.get? b = some u → h'.get? b = some u) (hp : s.heap.objs.size ≤ a) (new : ObjOk X.prog X.w (upd H a o) h' a o) :
    Inv X pins σ (upd H a o) { s with heap := h', toks := t' } := I.un (Un.laid k hp (I.hok.fresh hp)) (I.hok.laid k hp new)
theorem Inv.write {x e : Addr} {o : HO} {t' : Nat} (I : Inv X pins σ H s) (mu : Mut (H x)) (he : e = x ∨ H e = some (.own x)) (k : ∀ b u, b ≠ e → s.heap.get? b = some u → h'.get? b = some u) (heo : ∃ u, h'.get? e = some u)
    (new : ObjOk X.prog X.w (upd H x o) h' x o) : Inv X pins σ (upd H x o) { s with heap := h', toks := t' } := I.un (Un.write mu he k heo) (I.hok.write mu he k heo new)
theorem Inv.weak {σ' : List (Option V)} (I : Inv X pins σ H s) (hl : σ'.length = σ.length) (w : ∀ (i : Nat) v, σ'[i]? = some (some v) → σ[i]? = some (some v)) : Inv X pins σ' H s :=
  ⟨I.ok, I.os, I.bare, I.base, let ⟨m, hn, hl'⟩ := I.loc; ⟨m, hn, fun i x v e1 e2 e3 => hl' i x v e1 (w i v e2) e3⟩, I.cell, I.free, I.freeC, I.pin, I.hok, hl.trans I.len⟩
theorem Inv.pins_of {pins' : List (Addr × Obj)} (I : Inv X pins σ H s) (h : ∀ p ∈ pins', s.heap.get? p.1 = some p.2 ∧ H p.1 = none ∧ p.1 ≠ X.env.locals ∧ p.1 ∉ X.fs ∧ ∀ v, p.2.data ≠ .cell v) : Inv X pins' σ H s :=
  ⟨I.ok, I.os, I.bare, I.base, I.loc, I.cell, I.free, I.freeC, fun p hp => (List.mem_append.mp hp).elim (fun z => I.pin p (List.mem_append_left _ z)) (h p), I.hok, I.len⟩
theorem nodup_ix {N : List Str} (hN : N.Nodup) {i j : Nat} {x : Str} (a : N[i]? = some x) (b : N[j]? = some x) : i = j := by
  obtain ⟨h1, e1⟩ := List.getElem?_eq_some_iff.mp a
  obtain ⟨h2, e2⟩ := List.getElem?_eq_some_iff.mp b
  exact (List.getElem_inj hN).mp (e1.trans e2.symm)
theorem store_ok2 {M : Model} {A : Around} {E : Value → Shared → Prop} {i : Nat} {x : Str} {v : V} {u : Value} {Q : Unit → Shared → Prop} (I : Inv X pins σ H s) (hN : X.N.Nodup) (hi : X.N[i]? = some x) (hx : Loc X.env.scope x) (r : RelV v u)
    (h : ∀ s', Inv X pins (σ.set i (some v)) H s' → (∃ a, Heap.SameBut a s.heap s'.heap ∧ (a = X.env.locals ∨ X.env.cells.lookup x = some a)) → Q () s') (hf : X.fn x = true ∨ X.env.scope.names.lookup x = some .local := by first | exact .inl rfl | exact .inr rfl | assumption) : wpAny M A (storeName X.env x u) Q E s := by
  obtain ⟨m, hn, hl⟩ := id I.loc
  have hcls : (X.env.scope.kind == .class || (X.env.scope.kind == .module && X.env.locals != X.env.globals)) = false := by rw [I.ok.kind]; rfl
  have hiσ : i < σ.length := by rw [I.len]; exact (List.getElem?_eq_some_iff.mp hi).1
  have cne := I.cne
  have tracked : ∀ {a : Addr} {h' : Heap}, (∃ o, s.heap.get? a = some o ∧ H a = none) → Heap.SameBut a s.heap h' → HOk X.prog X.w H h' := fun {a h'} ha hs b ob e => by
    obtain ⟨_, _, hfree⟩ := ha
    refine (I.hok b ob e).stay (fun c w' hc q => (hs.2 c ?_).trans q) (fun _ q => q) fun _ _ q => q
    rintro rfl
    rcases hc with rfl | hc
    · rw [hfree] at e; cases e
    · rw [hfree] at hc; cases hc
  rcases hx with hk | hk
  · refine wpAny_storeName_local hk hn (fun h' hn' hs => ?_) hcls
    obtain ⟨oL, _, _, hoL, _⟩ := id hn
    refine h _ ⟨I.ok, I.os, I.bare, ⟨fun b o e n hb hx => ?_, fun b o e n hb hx => ?_, I.base.free, fun b o e hx => ?_, I.base.tups, I.base.frzs, I.base.tbls⟩, ⟨_, hn', fun j y v' e1 e2 e3 => ?_⟩, fun y c e => ?_, I.free, I.freeC, fun p hp => ?_, tracked ⟨oL, hoL, I.free⟩ hs, by simpa using I.len⟩ ⟨_, hs, .inl rfl⟩
    · exact (hs.2 b (Nat.ne_of_lt (Nat.lt_of_lt_of_le (Heap.lt_size e) I.ok.above))).trans (I.base.keep b o e n hb hx)
    · obtain ⟨sl, e1⟩ := I.base.slot b o e n hb hx
      exact ⟨sl, (hs.2 b (Nat.ne_of_lt (Nat.lt_of_lt_of_le (Heap.lt_size e) I.ok.above))).trans e1⟩
    · obtain ⟨o', e1⟩ := I.base.there b o e hx
      exact ⟨o', (hs.2 b (Nat.ne_of_lt (Nat.lt_of_lt_of_le (Heap.lt_size e) I.ok.above))).trans e1⟩
    · by_cases hj : j = i
      · subst hj
        rw [hi] at e1; cases e1
        rw [List.getElem?_set_self hiσ] at e2
        cases e2
        exact ⟨u, r, .inl ⟨hk, by simp⟩⟩
      · rw [List.getElem?_set_ne (Ne.symm hj)] at e2
        obtain ⟨u', r', q⟩ := hl j y v' e1 e2 e3
        refine ⟨u', r', ?_⟩
        rcases q with ⟨k, e⟩ | ⟨k, c, e, z⟩
        · refine .inl ⟨k, ?_⟩
          have : y ≠ x := fun e => hj (nodup_ix hN e1 (e ▸ hi))
          simp [this, e]
        · exact .inr ⟨k, c, e, z.sameBut hs (cne y c e)⟩
    · obtain ⟨w', z⟩ := I.cell y c e
      exact ⟨w', z.sameBut hs (cne y c e)⟩
    · obtain ⟨e, n, ne, nf, d⟩ := I.pin p hp
      exact ⟨(hs.2 p.1 ne).trans e, n, ne, nf, d⟩
  · have hfn : X.fn x = true := by
      rcases hf with z | z
      · exact z
      · rw [z] at hk; cases hk
    obtain ⟨c, hc⟩ := I.ok.has x (.inl hk)
    obtain ⟨w', z⟩ := I.cell x c hc
    refine wpAny_storeName_cell I.ok.kind hk hc z (fun h' hc' hs => ?_)
    obtain ⟨oc, hoc, hocd⟩ := id z
    refine h { s with heap := h' } ⟨I.ok, I.os, I.bare, ⟨fun b o e n hb hx => ?_, fun b o e n hb hx => ?_, I.base.free, fun b o e hx => ?_, I.base.tups, I.base.frzs, I.base.tbls⟩, ⟨m, hn.sameBut hs (Ne.symm (cne x c hc)), fun j y v' e1 e2 e3 => ?_⟩, fun y c' e => ?_, I.free, I.freeC, fun p hp => ?_, tracked ⟨oc, hoc, I.freeC x c hc⟩ hs, by simpa using I.len⟩ ⟨c, hs, .inr hc⟩
    · exact (hs.2 b (Nat.ne_of_lt (Nat.lt_of_lt_of_le (Heap.lt_size e) (I.ok.cab x c hfn hc)))).trans (I.base.keep b o e n hb hx)
    · obtain ⟨sl, e1⟩ := I.base.slot b o e n hb hx
      exact ⟨sl, (hs.2 b (Nat.ne_of_lt (Nat.lt_of_lt_of_le (Heap.lt_size e) (I.ok.cab x c hfn hc)))).trans e1⟩
    · obtain ⟨o', e1⟩ := I.base.there b o e hx
      exact ⟨o', (hs.2 b (Nat.ne_of_lt (Nat.lt_of_lt_of_le (Heap.lt_size e) (I.ok.cab x c hfn hc)))).trans e1⟩
    · by_cases hj : j = i
      · subst hj
        rw [hi] at e1; cases e1
        rw [List.getElem?_set_self hiσ] at e2
        cases e2
        exact ⟨u, r, .inr ⟨.inl hk, c, hc, hc'⟩⟩
      · rw [List.getElem?_set_ne (Ne.symm hj)] at e2
        obtain ⟨u', r', q⟩ := hl j y v' e1 e2 e3
        refine ⟨u', r', ?_⟩
        rcases q with q | ⟨k, c', e, z'⟩
        · exact .inl q
        · refine .inr ⟨k, c', e, z'.sameBut hs ?_⟩
          rintro rfl
          exact hj (nodup_ix hN e1 (I.ok.inj _ _ _ e hc ▸ hi))
    · by_cases hcc : c' = c
      · subst hcc; exact ⟨_, hc'⟩
      · obtain ⟨w2, z2⟩ := I.cell y c' e
        exact ⟨w2, z2.sameBut hs hcc⟩
    · obtain ⟨e, n, ne, nf, d⟩ := I.pin p hp
      refine ⟨(hs.2 p.1 ?_).trans e, n, ne, nf, d⟩
      intro q
      rw [q, hoc] at e
      have q' : oc = p.2 := Option.some.inj e
      exact d w' (by rw [← q']; exact hocd)
theorem store_ok {M : Model} {A : Around} {E : Value → Shared → Prop} {i : Nat} {x : Str} {v : V} {u : Value} {Q : Unit → Shared → Prop} (I : Inv X pins σ H s) (hN : X.N.Nodup) (hi : X.N[i]? = some x) (hx : Loc X.env.scope x) (r : RelV v u)
    (h : ∀ s', Inv X pins (σ.set i (some v)) H s' → Q () s') (hf : X.fn x = true ∨ X.env.scope.names.lookup x = some .local := by first | exact .inl rfl | exact .inr rfl | assumption) : wpAny M A (storeName X.env x u) Q E s :=
  store_ok2 I hN hi hx r (fun s' I' _ => h s' I') hf
theorem Inv.call' {s' : Shared} {ch : List Addr} (I : Inv X pins σ H s) (ho : s'.os = s.os) (u : Un (frs X.stack) ch H H' s.heap s'.heap) (hok : HOk X.prog X.w H' s'.heap) (hg : AllBare s'.gens)
    (hch : ∀ b ∈ ch, (b ∈ X.ex ∨ X.s_0.heap.objs.size ≤ b) ∧ b ≠ X.env.locals ∧ (∀ x c, X.env.cells.lookup x = some c → c ≠ b) ∧ ∀ p ∈ X.pn ++ pins, p.1 ≠ b) : Inv X pins σ H' s' := by
  obtain ⟨h', g', d', t', o'⟩ := s'
  have e : o' = s.os := ho
  subst e
  exact I.call (g' := g') (t' := t') (d' := d') u hok hg hch
end
abbrev XK := Value → Option Addr → Hp → Prop
abbrev St := List (Option V)
abbrev VK := V → Hp → Prop
abbrev TE := St → Hp → VK → Prop
abbrev TT := St → Hp → (Bool → Hp → Prop) → Prop
abbrev TA := St → Hp → (List V → Hp → Prop) → Prop
structure Ends where
  nx : St → Hp → Prop
  rt : VK
  bk : St → Hp → Prop := fun _ _ => False
  ct : St → Hp → Prop := fun _ _ => False
abbrev TS := Ends → St → Hp → Prop
def EP (X : Cx) (pins : List (Addr × Obj)) (σ : St) (Q : VK) (u : Value) (s' : Shared) : Prop := ∃ v H', Inv X pins σ H' s' ∧ RelV v u ∧ Q v H'
def TP (X : Cx) (pins : List (Addr × Obj)) (σ : St) (Q : Bool → Hp → Prop) (b : Bool) (s' : Shared) : Prop := ∃ H', Inv X pins σ H' s' ∧ Q b H'
def AP (X : Cx) (pins : List (Addr × Obj)) (σ : St) (Q : List V → Hp → Prop) (us : List Value) (s' : Shared) : Prop := ∃ vs H', Inv X pins σ H' s' ∧ Vals vs us ∧ Q vs H'
def SP (X : Cx) (pins : List (Addr × Obj)) (D : Ends) (f : Flow) (s' : Shared) : Prop :=
  match f with
  | .next => ∃ σ' H', Inv X pins σ' H' s' ∧ D.nx σ' H'
  | .brk => ∃ σ' H', Inv X pins σ' H' s' ∧ D.bk σ' H'
  | .cont => ∃ σ' H', Inv X pins σ' H' s' ∧ D.ct σ' H'
  | .ret u => ∃ v σ' H', Inv X pins σ' H' s' ∧ RelV v u ∧ D.rt v H'
def PE (X : Cx) (e : Expr) (t : TE) : Prop :=
  ∀ (pins : List (Addr × Obj)) (s : Shared) (σ : St) (H : Hp) (Q : VK), Inv X pins σ H s → t σ H Q → wpAny (model X.prog X.w) X.A (eval e X.env) (EP X pins σ Q) X.xe s
def PT (X : Cx) (e : Expr) (t : TT) : Prop :=
  ∀ (pins : List (Addr × Obj)) (s : Shared) (σ : St) (H : Hp) (Q : Bool → Hp → Prop), Inv X pins σ H s → t σ H Q → wpAny (model X.prog X.w) X.A (isTrue e X.env (eval e X.env)) (TP X pins σ Q) X.xe s
def PW (X : Cx) (e : Expr) (t : TT) : Prop :=
  ∀ (whole : Sem Value) (pins : List (Addr × Obj)) (s : Shared) (σ : St) (H : Hp) (Q : Bool → Hp → Prop), Inv X pins σ H s → t σ H Q → wpAny (model X.prog X.w) X.A (isTrue e X.env whole) (TP X pins σ Q) X.xe s
theorem PW.pt {X : Cx} {e : Expr} {t : TT} (h : PW X e t) : PT X e t := h _
def PA (X : Cx) (es : List Expr) (t : TA) : Prop :=
  ∀ (pos : Pos) (pins : List (Addr × Obj)) (s : Shared) (σ : St) (H : Hp) (Q : List V → Hp → Prop), Inv X pins σ H s → t σ H Q → wpAny (model X.prog X.w) X.A (spliced (backTo pos (starEach es X.env))) (AP X pins σ Q) X.xe s
def PS (X : Cx) (st : Stmt) (t : TS) : Prop :=
  ∀ (pins : List (Addr × Obj)) (s : Shared) (σ : St) (H : Hp) (D : Ends), Inv X pins σ H s → t D σ H → wpAny (model X.prog X.w) X.A (exec st X.env) (SP X pins D) X.xe s
def PSs (X : Cx) (st : List Stmt) (t : TS) : Prop :=
  ∀ (pins : List (Addr × Obj)) (s : Shared) (σ : St) (H : Hp) (D : Ends), Inv X pins σ H s → t D σ H → wpAny (model X.prog X.w) X.A (execs st X.env) (SP X pins D) X.xe s
theorem thn {α : Type} {t : Sem α} {Q Q' : α → Shared → Prop} {M : Model} {A : Around} {E : Value → Shared → Prop} {s : Shared} (h : wpAny M A t Q E s) (hQ : ∀ a s, Q a s → Q' a s) : wpAny M A t Q' E s := wpAny_mono h hQ fun _ _ x => x
end L2
namespace L2
open PySem PySem.Spec PyProof.Rows
section
variable {X : Cx}
def tVar (i : Nat) : TE := fun σ H Q => ∃ v, σ[i]? = some (some v) ∧ Q v H
def tC (v : V) : TE := fun _ H Q => Q v H
theorem pe_var {i : Nat} {x : Str} {pos : Pos} (hN : X.N[i]? = some x) (hv : Vis X.env.scope x) (hd : (x == ("__debug__" : Str)) = false := by decide) (hcd : (x == ("__classdict__" : Str)) = false := by decide) : PE X (.Name x pos) (tVar i) := by
  intro pins s σ H Q I h
  obtain ⟨v, e, h⟩ := h
  obtain ⟨m, hn, hl⟩ := I.loc
  obtain ⟨u, r, l⟩ := hl i x v hN e hv
  have fin : EP X pins σ Q u s := ⟨v, H, I, r, h⟩
  rcases l with ⟨hk, hm⟩ | ⟨hk, c, hc, hcell⟩
  · exact wpAny_Name (wpAny_loadName_local I.ok.kind hk hn hm fin) hd
  · rcases hk with hk | hk
    · exact wpAny_Name (wpAny_loadName_cell I.ok.kind hk hc hcell fin) hd
    · exact wpAny_Name (wpAny_loadName_free I.ok.kind hk hc hcell fin hcd) hd
theorem pe_int {i j pos} : PE X (.Constant (.int i) j pos) (tC (.int i)) := fun _ _ _ H _ I h => wpAny_Constant_int ⟨.int i, H, I.tok _, ⟨_, rfl⟩, h⟩
theorem pe_bl {b j pos} : PE X (.Constant (.bool b) j pos) (tC (.bl b)) := fun _ _ _ H _ I h => Constant_bool ⟨.bl b, H, I, rfl, h⟩
def Gl (X : Cx) (x : Str) : Prop := X.env.kindOf x = some .globalImplicit
theorem ld_glob {E : Value → Shared → Prop} {pins : List (Addr × Obj)} {s : Shared} {σ : St} {H : Hp} {x : Str} {u : Value} {pos : Pos} {Q : Value → Shared → Prop} (I : Inv X pins σ H s) (hg : Gl X x) (hm : X.mg x = some u) (h : Q u s)
    (hd : (x == ("__debug__" : Str)) = false := by decide) : wpAny (model X.prog X.w) X.A (eval (.Name x pos) X.env) Q E s :=
  Calls.Name_function_global I.ok.kind hg (Calls.loadGlobal_global (by rw [I.ok.glob]; exact I.mod.glob.keeps I.bk) hm h) hd
theorem ld_blt {E : Value → Shared → Prop} {pins : List (Addr × Obj)} {s : Shared} {σ : St} {H : Hp} {x : Str} {u : Value} {pos : Pos} {Q : Value → Shared → Prop} (I : Inv X pins σ H s) (hg : Gl X x) (hm : X.mg x = none) (hv : bootBuiltins x = some u) (h : Q u s)
    (hn : x ≠ "__name__" := by decide) (hd : (x == ("__debug__" : Str)) = false := by decide) : wpAny (model X.prog X.w) X.A (eval (.Name x pos) X.env) Q E s := by
  obtain ⟨mb, h1, h2⟩ := I.mod.blt
  exact Calls.Name_function_global I.ok.kind hg (Calls.loadGlobal_builtin (by rw [I.ok.glob]; exact I.mod.glob.keeps I.bk) hm (by rw [I.ok.blt]; exact h1.keeps I.bk) ((h2 x hn).trans hv) h) hd
theorem pe_glob {x : Str} {v : V} {u : Value} {pos : Pos} (hg : Gl X x) (hm : X.mg x = some u) (r : RelV v u) (hd : (x == ("__debug__" : Str)) = false := by decide) : PE X (.Name x pos) (tC v) :=
  fun _ _ _ H _ I h => ld_glob I hg hm ⟨v, H, I, r, h⟩ hd
variable {a b : Expr} {ta tb : TE} {pos : Pos}
def PC (X : Cx) (op : CmpOp) (a b : Expr) (t : TE) : Prop :=
  ∀ (pins : List (Addr × Obj)) (s : Shared) (σ : St) (H : Hp) (Q : VK), Inv X pins σ H s → t σ H Q →
    wpAny (model X.prog X.w) X.A (eval a X.env) (fun v s₁ => wpAny (model X.prog X.w) X.A (eval b X.env) (fun u s₂ => wpAny (model X.prog X.w) X.A (compareOp op v u) (EP X pins σ Q) X.xe s₂) X.xe s₁) X.xe s
theorem nobehind (b : Expr) {op : CmpOp} (h : op ≠ .In) (h2 : op ≠ .NotIn) : behindInMarks op b = false := by
  have e1 : (op == CmpOp.In) = false := by cases op <;> first | rfl | exact absurd rfl h
  have e2 : (op == CmpOp.NotIn) = false := by cases op <;> first | rfl | exact absurd rfl h2
  cases b <;> simp [behindInMarks, e1, e2]
def tB (t : TE) : TT := fun σ H Q => t σ H fun x H1 => ∃ c, x = .bl c ∧ Q c H1
theorem pt_cmp {op : CmpOp} {t : TE} (h : PC X op a b t) (h1 : behindInMarks op b = false := by first | exact nobehind _ (by decide) (by decide) | rfl) : PT X (.Compare a [op] [b] pos) (tB t) := by
  intro pins s σ H Q I hw
  refine wpAny_isTrue_Compare1 (thn (h pins s σ H _ I hw) fun v s1 h1 => thn h1 fun u s2 h2 => thn h2 fun c s3 ⟨x, H1, I1, r1, q1⟩ => ?_) h1
  obtain ⟨d, rfl, q⟩ := q1
  cases r1
  exact wpAny_truthy_bool ⟨H1, I1, q⟩
theorem pt_val {e : Expr} {t : TE} (h : PE X e t) (he : ∀ whole, isTrue e X.env whole = (do let v ← whole; standAt e.pos; holding [v] (truthy v)) := by intro _; rfl) : PT X e (tB t) := by
  intro pins s σ H Q I hw
  refine isTrue_plain (thn (h pins s σ H _ I hw) fun v s1 ⟨x, H1, I1, r1, q1⟩ => ?_) (he _)
  obtain ⟨d, rfl, q⟩ := q1
  cases r1
  exact wpAny_truthy_bool ⟨H1, I1, q⟩
variable {tA tB' : TT} {rest : List Expr}
def tAnd (t u : TT) : TT := fun σ H Q => t σ H fun c H1 => if c = true then u σ H1 Q else Q false H1
def tOr (t u : TT) : TT := fun σ H Q => t σ H fun c H1 => if c = true then Q true H1 else u σ H1 Q
def tNot (t : TT) : TT := fun σ H Q => t σ H fun c H1 => Q (!c) H1
theorem pw_and1 (ha : PT X a tA) : PW X (.BoolOp .And [a] pos) tA := by
  intro wh pins s σ H Q I h
  refine isTrue_and (thn (ha pins s σ H Q I h) fun c s1 e => ?_)
  cases c with
  | true => exact isTrue_and_nil e
  | false => exact e
theorem pw_or1 (ha : PT X a tA) : PW X (.BoolOp .Or [a] pos) tA := by
  intro wh pins s σ H Q I h
  refine isTrue_or (thn (ha pins s σ H Q I h) fun c s1 e => ?_)
  cases c with
  | false => exact isTrue_or_nil e
  | true => exact e
theorem pw_and (ha : PT X a tA) (hb : PW X (.BoolOp .And (b :: rest) pos) tB') : PW X (.BoolOp .And (a :: b :: rest) pos) (tAnd tA tB') := by
  intro wh pins s σ H Q I h
  refine isTrue_and (thn (ha pins s σ H _ I h) fun c s1 ⟨H1, I1, q1⟩ => ?_)
  cases c with
  | true => exact hb wh pins s1 σ H1 Q I1 q1
  | false => exact ⟨H1, I1, q1⟩
theorem pw_or (ha : PT X a tA) (hb : PW X (.BoolOp .Or (b :: rest) pos) tB') : PW X (.BoolOp .Or (a :: b :: rest) pos) (tOr tA tB') := by
  intro wh pins s σ H Q I h
  refine isTrue_or (thn (ha pins s σ H _ I h) fun c s1 ⟨H1, I1, q1⟩ => ?_)
  cases c with
  | true => exact ⟨H1, I1, q1⟩
  | false => exact hb wh pins s1 σ H1 Q I1 q1
theorem pt_not (ha : PT X a tA) : PT X (.UnaryOp .Not a pos) (tNot tA) := by
  intro pins s σ H Q I h
  exact isTrue_not (ha pins s σ H (fun c H1 => Q (!c) H1) I h)
end
end L2
namespace L2
open PySem PySem.Spec PyProof.Rows
def SqL (K : PySem.W.Frag) (H : Hp) (a : Addr) (xs : List V) : Prop :=
  Rd H a (.lst xs) ∨
    ∃ (o : Obj) (its : Array Value) (n : Nat), K.lookup a = some o ∧ o.cls = .type "list" ∧ o.dict = none ∧ o.data = .seq its n ∧ its.size ≤ sizeLine ∧ Vals xs its.toList
def SqT (K : PySem.W.Frag) (H : Hp) (a : Addr) (xs : List V) : Prop :=
  Rd H a (.tup xs) ∨
    ∃ (o : Obj) (its : Array Value) (n : Nat), K.lookup a = some o ∧ o.cls = .type "tuple" ∧ o.data = .seq its n ∧ its.size ≤ sizeLine ∧ Vals xs its.toList
def absV : Value → Option V
  | .none => some .non
  | .bool b => some (.bl b)
  | .int i _ => some (.int i)
  | .str x _ => some (.str x)
  | .bytes b _ => some (.byt b)
  | .float b _ => some (.flt b)
  | .ref a => some (.ref a)
  | .type n => some (.ty n)
  | _ => none
theorem RelV.abs {x : V} {u : Value} (r : RelV x u) : absV u = some x := by
  cases x with
  | non => cases r; rfl
  | bl _ => cases r; rfl
  | int _ => obtain ⟨t, rfl⟩ := r; rfl
  | str _ => obtain ⟨t, rfl⟩ := r; rfl
  | byt _ => obtain ⟨t, rfl⟩ := r; rfl
  | flt _ => obtain ⟨t, rfl⟩ := r; rfl
  | ref _ => cases r; rfl
  | ty _ => cases r; rfl
theorem RelV.inj {x y : V} {u : Value} (r : RelV x u) (q : RelV y u) : x = y := Option.some.inj (r.abs.symm.trans q.abs)
theorem Vals.inj : ∀ {xs ys : List V} {us : List Value}, Vals xs us → Vals ys us → xs = ys
  | _, _, _, .nil, .nil => rfl
  | _, _, _, .cons r t, .cons r' t' => by rw [r.inj r', Vals.inj t t']
section
variable {X : Cx} {pins : List (Addr × Obj)} {σ : St} {H : Hp} {s : Shared} {a : Addr} {xs ys : List V}
theorem SqL.of {K : PySem.W.Frag} (h : H a = some (.lst xs)) : SqL K H a xs := .inl (.inl h)
theorem SqT.of {K : PySem.W.Frag} (h : H a = some (.tup xs)) : SqT K H a xs := .inl (.inl h)
theorem Inv.list (I : Inv X pins σ H s) (h : SqL X.K H a xs) : ∃ its : List Value, Vals xs its ∧ PlainL s.heap a its.toArray ∧ xs.length ≤ sizeLine := by
  rcases h with h | ⟨o, its, n, hk, hc, hd, hs, hz, r⟩
  · obtain ⟨z, its, n, r, e⟩ := h.ok I.hok
    exact ⟨its, r, ⟨_, n, e, rfl, rfl, rfl⟩, z⟩
  · refine ⟨its.toList, r, ⟨o, n, I.kIn a o hk, hc, hd, by simpa using hs⟩, ?_⟩
    have e := r.length
    simp only [Array.length_toList] at e
    omega
theorem Inv.tuple (I : Inv X pins σ H s) (h : SqT X.K H a xs) : ∃ its : List Value, Vals xs its ∧ IsTup s.heap a its.toArray ∧ xs.length ≤ sizeLine := by
  rcases h with h | ⟨o, its, n, hk, hc, hs, hz, r⟩
  · obtain ⟨z, its, r, p⟩ := h.ok I.hok
    exact ⟨its, r, p, z⟩
  · refine ⟨its.toList, r, ⟨o, I.kIn a o hk, hc, n, by simpa using hs⟩, ?_⟩
    have e := r.length
    simp only [Array.length_toList] at e
    omega
theorem Inv.list_inj (I : Inv X pins σ H s) (h : SqL X.K H a xs) (h' : SqL X.K H a ys) : xs = ys := by
  obtain ⟨its, r, ⟨o, n, e, _, _, d⟩, _⟩ := I.list h
  obtain ⟨its', r', ⟨o', n', e', _, _, d'⟩, _⟩ := I.list h'
  rw [e] at e'; cases e'
  rw [d] at d'
  injection d' with d1 _
  have : its = its' := by simpa using congrArg Array.toList d1
  subst this
  exact r.inj r'
end
abbrev Cx.wish (X : Cx) (E : Value → Shared → Prop) : Cx := { X with xe := E }
abbrev Cx.nox (X : Cx) : Cx := X.wish fun _ _ => False
theorem Cx.Ok.wish {X : Cx} (ok : X.Ok) (E : Value → Shared → Prop) : (X.wish E).Ok :=
  ⟨ok.mod, ok.kind, ok.glob, ok.blt, ok.above, ok.inj, ok.has, ok.cab, ok.hd, ok.frames, ok.stk, ok.exf, ok.bs, ok.bsz, ok.noex, ok.exfs, ok.funs, ok.frf⟩
theorem Cx.Ok.unwish {X : Cx} {E : Value → Shared → Prop} (ok : (X.wish E).Ok) : X.Ok :=
  ⟨ok.mod, ok.kind, ok.glob, ok.blt, ok.above, ok.inj, ok.has, ok.cab, ok.hd, ok.frames, ok.stk, ok.exf, ok.bs, ok.bsz, ok.noex, ok.exfs, ok.funs, ok.frf⟩
section
variable {X : Cx} {pins : List (Addr × Obj)} {σ : St} {H : Hp} {s : Shared} {E : Value → Shared → Prop}
theorem Inv.wish (I : Inv X pins σ H s) (E : Value → Shared → Prop) : Inv (X.wish E) pins σ H s := ⟨I.ok.wish E, I.os, I.bare, I.base, I.loc, I.cell, I.free, I.freeC, I.pin, I.hok, I.len⟩
theorem Inv.unwish (I : Inv (X.wish E) pins σ H s) : Inv X pins σ H s := ⟨I.ok.unwish, I.os, I.bare, I.base, I.loc, I.cell, I.free, I.freeC, I.pin, I.hok, I.len⟩
theorem SP.unwish {D : Ends} {f : Flow} {s' : Shared} (h : SP (X.wish E) pins D f s') : SP X pins D f s' := by
  cases f with
  | next => obtain ⟨σ', H', I, q⟩ := h; exact ⟨σ', H', I.unwish, q⟩
  | brk => obtain ⟨σ', H', I, q⟩ := h; exact ⟨σ', H', I.unwish, q⟩
  | cont => obtain ⟨σ', H', I, q⟩ := h; exact ⟨σ', H', I.unwish, q⟩
  | ret u => obtain ⟨v, σ', H', I, r, q⟩ := h; exact ⟨v, σ', H', I.unwish, r, q⟩
theorem PE.nox {e : Expr} {t : TE} (h : PE X.nox e t) : PE X e t := fun pins s σ H Q I hw =>
  wpAny_mono (h pins s σ H Q (I.wish _) hw) (fun _ _ ⟨v, H', I', r, q⟩ => ⟨v, H', I'.unwish, r, q⟩) fun _ _ z => False.elim z
theorem PT.nox {e : Expr} {t : TT} (h : PT X.nox e t) : PT X e t := fun pins s σ H Q I hw =>
  wpAny_mono (h pins s σ H Q (I.wish _) hw) (fun _ _ ⟨H', I', q⟩ => ⟨H', I'.unwish, q⟩) fun _ _ z => False.elim z
theorem PSs.nox {st : List Stmt} {t : TS} (h : PSs X.nox st t) : PSs X st t := fun pins s σ H D I hw =>
  wpAny_mono (h pins s σ H D (I.wish _) hw) (fun _ _ q => q.unwish) fun _ _ z => False.elim z
end
section
variable {X : Cx} {st : Stmt} {rest : List Stmt} {t u : TS} {e : Expr} {te : TE} {pos : Pos}
def tNext : TS := fun D σ H => D.nx σ H
def tSeq (t u : TS) : TS := fun D σ H => t { D with nx := u D } σ H
theorem pss_nil : PSs X [] tNext := fun _ _ σ H _ I h => wpAny_execs_nil ⟨σ, H, I, h⟩
theorem pss_cons (h1 : PS X st t) (h2 : PSs X rest u) : PSs X (st :: rest) (tSeq t u) := by
  intro pins s σ H D I h
  refine wpAny_execs_cons (thn (h1 pins s σ H { D with nx := u D } I h) fun f s1 q => ?_)
  cases f with
  | next =>
    obtain ⟨σ', H', I', q⟩ := q
    exact h2 pins s1 σ' H' D I' q
  | ret v => exact q
  | brk => exact q
  | cont => exact q
theorem pss_one (h1 : PS X st t) : PSs X [st] t := by
  intro pins s σ H D I h
  refine wpAny_execs_cons (thn (h1 pins s σ H D I h) fun f s1 q => ?_)
  cases f with
  | next => exact wpAny_execs_nil q
  | ret v => exact q
  | brk => exact q
  | cont => exact q
theorem Inv.quiet {pins : List (Addr × Obj)} {σ : St} {H : Hp} {s : Shared} (I : Inv X pins σ H s) : interactive X.env = false := by simp [interactive, I.ok.kind]
def tDrop (te : TE) : TS := fun D σ H => te σ H fun _ H1 => D.nx σ H1
theorem ps_expr (he : PE X e te) (hs : swapsWith e none pos.line X.env = pure false := by rfl) : PS X (.Expr e pos) (tDrop te) := by
  intro pins s σ H D I h
  exact wpAny_Expr_any (thn (he pins s σ H _ I h) fun v s1 ⟨x, H1, I1, r1, q1⟩ => ⟨σ, H1, I1, q1⟩) I.quiet hs
def tRet (te : TE) : TS := fun D σ H => te σ H D.rt
theorem ps_ret (he : PE X e te) : PS X (.Return (some e) pos) (tRet te) := by
  intro pins s σ H D I h
  exact wpAny_Return_some (thn (he pins s σ H _ I h) fun v s1 ⟨x, H1, I1, r1, q1⟩ => ⟨x, σ, H1, I1, r1, q1⟩)
def tIfS (c : TT) (t u : TS) : TS := fun D σ H => c σ H fun b H1 => if b = true then t D σ H1 else u D σ H1
theorem ps_if {c : Expr} {a b : List Stmt} {tc : TT} (hc : PT X c tc) (ha : PSs X a t) (hb : PSs X b u) : PS X (.If c a b pos) (tIfS tc t u) := by
  intro pins s σ H D I h
  refine wpAny_If (thn (hc pins s σ H _ I h) fun d s1 ⟨H1, I1, q1⟩ => ?_)
  cases d with
  | true => exact ha pins s1 σ H1 D I1 q1
  | false => exact hb pins s1 σ H1 D I1 q1
end
abbrev TG := V → St → Hp → (St → Hp → Prop) → Prop
abbrev TGs := List V → St → Hp → (St → Hp → Prop) → Prop
def PG (X : Cx) (target : Expr) (t : TG) : Prop :=
  ∀ (pins : List (Addr × Obj)) (s : Shared) (σ : St) (H : Hp) (v : V) (u : Value) (Q : St → Hp → Prop), Inv X pins σ H s → RelV v u → t v σ H Q →
    wpAny (model X.prog X.w) X.A (assign target X.env u) (fun _ s' => ∃ σ' H', Inv X pins σ' H' s' ∧ Q σ' H') X.xe s
def PGs (X : Cx) (ts : List Expr) (t : TGs) : Prop :=
  ∀ (pins : List (Addr × Obj)) (s : Shared) (σ : St) (H : Hp) (vs : List V) (us : List Value) (Q : St → Hp → Prop), Inv X pins σ H s → Vals vs us → t vs σ H Q →
    wpAny (model X.prog X.w) X.A (assignInOrder ((assignEach ts X.env).map (·.2)) us) (fun _ s' => ∃ σ' H', Inv X pins σ' H' s' ∧ Q σ' H') X.xe s
abbrev TSet := V → V → V → Hp → (Hp → Prop) → Prop
def PSet (X : Cx) (t : TSet) : Prop :=
  ∀ (pins : List (Addr × Obj)) (s : Shared) (σ : St) (H : Hp) (o i v : V) (ov iv u : Value) (Q : Hp → Prop), Inv X pins σ H s → RelV o ov → RelV i iv → RelV v u → t o i v H Q →
    wpAny (model X.prog X.w) X.A (setItem ov iv u) (fun _ s' => ∃ H', Inv X pins σ H' s' ∧ Q H') X.xe s
abbrev TIp := V → V → Hp → VK → Prop
def PIp (X : Cx) (op : Operator) (t : TIp) : Prop :=
  ∀ (pins : List (Addr × Obj)) (s : Shared) (σ : St) (H : Hp) (x y : V) (v u : Value) (Q : VK), Inv X pins σ H s → RelV x v → RelV y u → t x y H Q →
    wpAny (model X.prog X.w) X.A (inplaceOp op v u) (EP X pins σ Q) X.xe s
section
variable {X : Cx} {pos : Pos}
def gName (i : Nat) : TG := fun v σ H Q => Q (σ.set i (some v)) H
theorem pg_name {i : Nat} {x : Str} (hN : X.N.Nodup) (hi : X.N[i]? = some x) (hx : Loc X.env.scope x) (hf : X.fn x = true ∨ X.env.scope.names.lookup x = some .local := by first | exact .inl rfl | exact .inr rfl | assumption) : PG X (.Name x pos) (gName i) := by
  intro pins s σ H v u Q I r h
  exact wpAny_assign_Name (store_ok I hN hi hx r (fun s' I' => ⟨_, H, I', h⟩) hf)
def gNil : TGs := fun vs σ H Q => vs = [] ∧ Q σ H
def gCons (t : TG) (u : TGs) : TGs := fun vs σ H Q => ∃ v r, vs = v :: r ∧ t v σ H fun σ' H' => u r σ' H' Q
theorem pgs_nil : PGs X [] gNil := by
  intro pins s σ H vs us Q I r h
  obtain ⟨e, h⟩ := h
  subst e
  cases r
  exact assignInOrder_nil ⟨σ, H, I, h⟩
theorem pgs_cons {e : Expr} {es : List Expr} {t : TG} {u : TGs} (h1 : PG X e t) (h2 : PGs X es u)
    (hs : (assignEach (e :: es) X.env).map (·.2) = assign e X.env :: (assignEach es X.env).map (·.2) := by rfl) : PGs X (e :: es) (gCons t u) := by
  intro pins s σ H vs us Q I r h
  obtain ⟨v, vr, e1, h⟩ := h
  subst e1
  cases r with
  | cons r rr =>
    rw [hs]
    refine assignInOrder_cons (thn (h1 pins s σ H _ _ _ I r h) fun _ s1 ⟨σ1, H1, I1, q1⟩ => ?_)
    exact h2 pins s1 σ1 H1 _ _ Q I1 rr q1
def gTup (K : PySem.W.Frag) (n : Nat) (t : TGs) : TG := fun v σ H Q => ∃ a xs, v = .ref a ∧ SqT K H a xs ∧ xs.length = n ∧ t xs σ H Q
theorem pg_tup {es : List Expr} {k : Nat} {t : TGs} {n : Nat} (hc : X.calm = true) (h : PGs X es t)
    (hn : (assignEach es X.env).length = n := by rfl) (hst : (assignEach es X.env).findIdx? (·.1) = none := by rfl) : PG X (.Tuple es k pos) (gTup X.K n t) := by
  intro pins s σ H v u Q I r hw
  obtain ⟨a, xs, e1, hq, hl, hw⟩ := hw
  subst e1
  cases r
  obtain ⟨its, rv, ht, hz⟩ := I.tuple hq
  refine assign_Tuple_tuple (I.ok.hd hc) ht (by simp [hn, ← hl, rv.length]) hst fun h' hx => ?_
  have I1 : Inv X pins σ H { s with heap := h' } := I.kept (t' := s.toks) fun b o e => hx b o (Nat.ne_of_lt (Heap.lt_size e)) e
  exact h pins _ σ H xs _ Q I1 (by simpa using rv) hw
def gSub (to ti : TE) (t : TSet) : TG := fun v σ H Q => to σ H fun o H1 => ti σ H1 fun i H2 => t o i v H2 fun H3 => Q σ H3
theorem pg_sub {o i : Expr} {to ti : TE} {t : TSet} (ho : PE X o to) (hi : PE X i ti) (hs : PSet X t)
    (ha : ∀ v, assign (.Subscript o i pos) X.env v = (do
      let ov ← holding [v] (eval o X.env)
      let iv ← holding [v, ov] (eval i X.env)
      standAt pos
      holding [v, ov, iv] (setItem ov iv v)
      release [v, ov, iv] []) := by intro _; rfl) : PG X (.Subscript o i pos) (gSub to ti t) := by
  intro pins s σ H v u Q I r h
  rw [ha]
  refine wpAny_bind (wpAny_holding (thn (ho pins s σ H _ I h) fun ov s1 ⟨x, H1, I1, r1, q1⟩ => ?_))
  refine wpAny_bind (wpAny_holding (thn (hi pins s1 σ H1 _ I1 q1) fun iv s2 ⟨y, H2, I2, r2, q2⟩ => ?_))
  refine wpAny_bind (wpAny_standAt (wpAny_bind (wpAny_holding (thn (hs pins s2 σ H2 x y v ov iv u _ I2 r1 r2 r q2) fun _ s3 ⟨H3, I3, q3⟩ => ?_))))
  exact wpAny_release ⟨σ, H3, I3, q3⟩
def tAsg (te : TE) (g : TG) : TS := fun D σ H => te σ H fun x H1 => g x σ H1 D.nx
theorem ps_asg {tg e : Expr} {te : TE} {g : TG} (he : PE X e te) (hg : PG X tg g) (hs : swapsWithSole [tg] e pos.line X.env = pure false := by rfl) (hw : swappedStores [tg] e X.env = pure none := by rfl)
    (h1 : (assignEach [tg] X.env).map (·.2) = [assign tg X.env] := by rfl) : PS X (.Assign [tg] e pos) (tAsg te g) := by
  intro pins s σ H D I h
  refine wpAny_Assign_stores (thn (he pins s σ H _ I h) fun v s1 ⟨x, H1, I1, r1, q1⟩ => ?_) hs hw
  rw [h1]
  exact thn (hg pins s1 σ H1 x v _ I1 r1 q1) fun _ s2 q => q
theorem ps_set {i : Nat} {x : Str} {e : Expr} {te : TE} {pos' : Pos} (hN : X.N.Nodup) (hi : X.N[i]? = some x) (hx : Loc X.env.scope x) (he : PE X e te) (hs : swapsWith e (some (.Name x pos')) pos.line X.env = pure false := by rfl) (hf : X.fn x = true ∨ X.env.scope.names.lookup x = some .local := by first | exact .inl rfl | exact .inr rfl | assumption) :
    PS X (.Assign [.Name x pos'] e pos) (tAsg te (gName i)) := by
  intro pins s σ H D I h
  refine wpAny_Assign_Name (thn (he pins s σ H _ I h) fun v s1 ⟨y, H1, I1, r1, q1⟩ => ?_) hs
  exact store_ok I1 hN hi hx r1 (fun s2 I2 => ⟨_, H1, I2, q1⟩) hf
def tAug (i : Nat) (te : TE) (ti : TIp) : TS := fun D σ H => ∃ x, σ[i]? = some (some x) ∧ te σ H fun y H1 => ti x y H1 fun z H2 => D.nx (σ.set i (some z)) H2
theorem ps_aug {i : Nat} {x : Str} {e : Expr} {te : TE} {op : Operator} {ti : TIp} {pos' : Pos} (hN : X.N.Nodup) (hi : X.N[i]? = some x) (hx : Loc X.env.scope x) (he : PE X e te) (ho : PIp X op ti) (hf : X.fn x = true ∨ X.env.scope.names.lookup x = some .local := by first | exact .inl rfl | exact .inr rfl | assumption) :
    PS X (.AugAssign (.Name x pos') op e pos) (tAug i te ti) := by
  intro pins s σ H D I h
  obtain ⟨v, e1, h⟩ := h
  obtain ⟨m, hn, hl⟩ := I.loc
  have vis : Vis X.env.scope x := by rcases hx with k | k; exact .inl k; exact .inr (.inl k)
  obtain ⟨u, r, l⟩ := hl i x v hi e1 vis
  refine wpAny_AugAssign_Name ?_
  have go : wpAny (model X.prog X.w) X.A (eval e X.env) (fun w s₂ => wpAny (model X.prog X.w) X.A (inplaceOp op u w) (fun r s₃ => wpAny (model X.prog X.w) X.A (storeName X.env x r) (fun _ => SP X pins D .next) X.xe s₃) X.xe s₂) X.xe s := by
    refine thn (he pins s σ H _ I h) fun w s1 ⟨y, H1, I1, r1, q1⟩ => ?_
    refine thn (ho pins s1 σ H1 v y u w _ I1 r r1 q1) fun z s2 ⟨zv, H2, I2, r2, q2⟩ => ?_
    exact store_ok I2 hN hi hx r2 (fun s3 I3 => ⟨_, H2, I3, q2⟩) hf
  rcases l with ⟨hk, hm⟩ | ⟨hk, c, hc, hcell⟩
  · exact wpAny_loadName_local I.ok.kind hk hn hm go
  · rcases hk with hk | hk
    · exact wpAny_loadName_cell I.ok.kind hk hc hcell go
    · rcases hx with k | k
      · have : X.env.scope.names.lookup x = some .free := hk
        rw [k] at this; cases this
      · have : X.env.scope.names.lookup x = some .free := hk
        rw [k] at this; cases this
def tAugS (to ti te : TE) (tget : V → V → Hp → VK → Prop) (tip : TIp) (tset : TSet) : TS := fun D σ H => to σ H fun o H1 => ti σ H1 fun i H2 => tget o i H2 fun x H3 => te σ H3 fun y H4 => tip x y H4 fun z H5 => tset o i z H5 fun H6 => D.nx σ H6
def PGet (X : Cx) (t : V → V → Hp → VK → Prop) : Prop :=
  ∀ (pins : List (Addr × Obj)) (s : Shared) (σ : St) (H : Hp) (o i : V) (ov iv : Value) (Q : VK), Inv X pins σ H s → RelV o ov → RelV i iv → t o i H Q →
    wpAny (model X.prog X.w) X.A (getItem ov iv) (EP X pins σ Q) X.xe s
theorem ps_augS {o i e : Expr} {to ti te : TE} {tget : V → V → Hp → VK → Prop} {tip : TIp} {tset : TSet} {op : Operator} {tpos : Pos} (ho : PE X o to) (hi : PE X i ti) (hg : PGet X tget) (he : PE X e te) (hp : PIp X op tip) (hs : PSet X tset)
    (ha : ∀ ov iv new, augStore i ov iv new = (do holding [new, ov, iv] (setItem ov iv new); release [new, ov, iv] []; pure .next) := by intros; rfl) : PS X (.AugAssign (.Subscript o i tpos) op e pos) (tAugS to ti te tget tip tset) := by
  intro pins s σ H D I h
  refine wpAny_AugAssign_SubscriptAny (thn (ho pins s σ H _ I h) fun ov s1 ⟨x1, H1, I1, r1, q1⟩ => ?_) ha
  refine thn (hi pins s1 σ H1 _ I1 q1) fun iv s2 ⟨x2, H2, I2, r2, q2⟩ => ?_
  refine thn (hg pins s2 σ H2 x1 x2 ov iv _ I2 r1 r2 q2) fun old s3 ⟨x3, H3, I3, r3, q3⟩ => ?_
  refine thn (he pins s3 σ H3 _ I3 q3) fun v s4 ⟨x4, H4, I4, r4, q4⟩ => ?_
  refine thn (hp pins s4 σ H4 x3 x4 old v _ I4 r3 r4 q4) fun new s5 ⟨x5, H5, I5, r5, q5⟩ => ?_
  exact thn (hs pins s5 σ H5 x1 x2 x5 ov iv new _ I5 r1 r2 r5 q5) fun _ s6 ⟨H6, I6, q6⟩ => ⟨σ, H6, I6, q6⟩
def ipI (f : Int → Int → Int) : TIp := fun x y H Q => ∃ i j, x = .int i ∧ y = .int j ∧ Q (.int (f i j)) H
theorem ip_add : PIp X .Add (ipI fun i j => i + j) := by
  intro pins s σ H x y v u Q I r1 r2 h
  obtain ⟨i, j, e1, e2, q⟩ := h
  subst e1; subst e2
  obtain ⟨t, rfl⟩ := r1
  obtain ⟨t', rfl⟩ := r2
  exact iadd_int ⟨.int _, H, I.tok _, ⟨_, rfl⟩, q⟩
end
section
variable {X : Cx} {pos : Pos}
def tWhile (c : TT) (tb : TS) : TS := fun D σ H => ∃ W : Nat → St → Hp → Prop, (∃ m, W m σ H) ∧ ∀ m σ H, W m σ H →
  c σ H fun b H1 => if b = true then ∃ N : St → Hp → Prop, (∀ σ' H', N σ' H' → ∃ m', m' < m ∧ W m' σ' H') ∧ tb { D with nx := N, ct := N, bk := D.nx } σ H1 else D.nx σ H1
theorem ps_while {c : Expr} {body : List Stmt} {tc : TT} {tb : TS} (hp : PassesOwn (model X.prog X.w) X.A X.env X.xe) (hc : PT X c tc) (hb : PSs X body tb) : PS X (.While c body [] pos) (tWhile tc tb) := by
  intro pins s σ H D I h
  obtain ⟨W, ⟨m0, w0⟩, turn⟩ := h
  refine wpAny_While (codeAny_whileLoop (fun n s' => ∃ σ' H', Inv X pins σ' H' s' ∧ W n σ' H') ?_ m0 ⟨σ, H, I, w0⟩)
  rintro n s1 ⟨σ1, H1, I1, w1⟩
  refine wpAny_passesOwn hp (thn (hc pins s1 σ1 H1 _ I1 (turn n σ1 H1 w1)) fun b s2 ⟨H2, I2, q2⟩ => ?_)
  cases b with
  | true =>
    obtain ⟨N, hN, q2⟩ := q2
    rw [if_pos rfl]
    refine wpAny_passesOwn hp (thn (hb pins s2 σ1 H2 _ I2 q2) fun f s3 q3 => ?_)
    cases f with
    | next =>
      obtain ⟨σ3, H3, I3, n3⟩ := q3
      obtain ⟨m', hm, w3⟩ := hN σ3 H3 n3
      exact ⟨m', hm, σ3, H3, I3, w3⟩
    | cont =>
      obtain ⟨σ3, H3, I3, n3⟩ := q3
      obtain ⟨m', hm, w3⟩ := hN σ3 H3 n3
      exact ⟨m', hm, σ3, H3, I3, w3⟩
    | brk => exact q3
    | ret v => exact q3
  | false =>
    rw [if_neg Bool.false_ne_true]
    exact wpAny_execs_nil ⟨σ1, H2, I2, q2⟩
end
structure It where
  go : Nat → Hp → Prop
  yld : Nat → Hp → V → Hp → Prop
  stop : Nat → Hp → Prop
def FpOk (X : Cx) (pins : List (Addr × Obj)) (H : Hp) (b : Addr) : Prop :=
  H b = none ∧ b ≠ X.env.locals ∧ b ∉ X.fs ∧ (b ∈ X.ex ∨ X.s_0.heap.objs.size ≤ b) ∧ (∀ x c, X.env.cells.lookup x = some c → c ≠ b) ∧ ∀ p ∈ X.pn ++ pins, p.1 ≠ b
theorem Inv.fpOk {X : Cx} {pins : List (Addr × Obj)} {σ : St} {H H' : Hp} {s : Shared} {b : Addr} (I : Inv X pins σ H s) (hb : s.heap.objs.size ≤ b) (hn : H' b = none) : FpOk X pins H' b := by
  refine ⟨hn, Nat.ne_of_gt (Nat.lt_of_lt_of_le I.lt hb), I.nofs hb, .inr (Nat.le_trans I.sz hb), fun x c e z => ?_, fun p hp z => ?_⟩
  · obtain ⟨v, q⟩ := I.cell x c e
    exact absurd (Nat.lt_of_lt_of_le q.lt (by rw [z]; exact hb)) (Nat.lt_irrefl _)
  · exact absurd (Nat.lt_of_lt_of_le (Heap.lt_size (I.pin p hp).1) (by rw [z]; exact hb)) (Nat.lt_irrefl _)
structure Turn (P : Program) (w : World) (K : PySem.W.Frag) (tg : Expr) (J : It) (fp : List Addr) (it : Addr) (tn : Nat → Heap → Prop) : Prop where
  mem : it ∈ fp
  obj : ∀ i h, tn i h → ∀ b ∈ fp, ∃ o, h.get? b = some o ∧ ∀ v, o.data ≠ .cell v
  keep : ∀ i h h', tn i h → (∀ b ∈ fp, ∀ o, h.get? b = some o → h'.get? b = some o) → tn i h'
  item : ∀ (X : Cx), X.prog = P → X.w = w → X.K = K → X.calm = true → ∀ (i : Nat) (pins : List (Addr × Obj)) (s : Shared) (σ : St) (H : Hp) (E : Value → Shared → Prop), Inv X pins σ H s → (∀ b ∈ fp, FpOk X pins H b) → tn i s.heap → J.go i H →
    wpAny (model P w) X.A (pyNext (.ref it)) (fun r s1 => ∃ u, r = some u ∧
      wpAny (model P w) X.A (letOwnedTupleGo tg (.ref it) u) (fun _ s2 => ∃ x H', Inv X pins σ H' s2 ∧ RelV x u ∧ J.yld i H x H' ∧ tn (i + 1) s2.heap ∧ ∀ b ∈ fp, H' b = none) E s1) E s
  done : ∀ (X : Cx), X.prog = P → X.w = w → X.K = K → X.calm = true → ∀ (i : Nat) (pins : List (Addr × Obj)) (s : Shared) (σ : St) (H : Hp) (E : Value → Shared → Prop), Inv X pins σ H s → (∀ b ∈ fp, FpOk X pins H b) → tn i s.heap → J.stop i H →
    wpAny (model P w) X.A (pyNext (.ref it)) (fun r s1 => r = none ∧ Inv X pins σ H s1) E s
  self : ∀ (A : Around) (i : Nat) (s : Shared) (Q : Value → Shared → Prop) (E : Value → Shared → Prop), tn i s.heap → Q (.ref it) s → wpAny (model P w) A (pyIter (.ref it)) Q E s
abbrev TI := St → Hp → (It → Hp → Prop) → Prop
def PIE (X : Cx) (pins : List (Addr × Obj)) (σ : St) (tg : Expr) (R : It → Hp → Prop) (itv : Value) (s2 : Shared) : Prop :=
  ∃ (it : Addr) (fp : List Addr) (tn : Nat → Heap → Prop) (J : It) (H' : Hp), itv = .ref it ∧ Inv X pins σ H' s2 ∧ Turn X.prog X.w X.K tg J fp it tn ∧ tn 0 s2.heap ∧ (∀ b ∈ fp, FpOk X pins H' b) ∧ R J H'
def PI (X : Cx) (tg iter : Expr) (wi : TI) : Prop :=
  ∀ (pins : List (Addr × Obj)) (s : Shared) (σ : St) (H : Hp) (R : It → Hp → Prop), Inv X pins σ H s → wi σ H R →
    wpAny (model X.prog X.w) X.A (eval iter X.env) (fun v s1 => wpAny (model X.prog X.w) X.A (pyIter v) (PIE X pins σ tg R) X.xe s1) X.xe s
theorem go_of {M : Model} {A : Around} {E : Value → Shared → Prop} {s : Shared} {tg : Expr} {it : Addr} {u : Value} {o : Obj} {n : String} {vs : Array Value} {Q : Unit → Shared → Prop} (ho : s.heap.get? it = some o) (hc : o.cls = .type n) (hd : o.data = .fields vs)
    (hn : ["enumerate", "zip", "dict_itemiterator", "dict_reverseitemiterator", "odict_iterator", "itertools.zip_longest", "itertools.pairwise"].contains n = false) (hQ : Q () s) : wpAny M A (letOwnedTupleGo tg (.ref it) u) Q E s := by
  unfold letOwnedTupleGo
  cases tg <;> first
    | exact wpAny_pure hQ
    | (cases u <;> first
        | exact wpAny_pure hQ
        | (refine wpAny_bind (wpAny_load ho ?_)
           rw [hc, hd]
           show wpAny M A (if (["enumerate", "zip", "dict_itemiterator", "dict_reverseitemiterator", "odict_iterator", "itertools.zip_longest", "itertools.pairwise"].contains n && vs[0]? == some (rawInt _)) = true then _ else _) Q E s
           rw [if_neg (by intro h; rw [hn, Bool.false_and] at h; cases h)]
           exact wpAny_pure hQ))
def Itl (K : PySem.W.Frag) (a : Addr) : It :=
  ⟨fun i H => ∃ xs x, SqL K H a xs ∧ xs[i]? = some x, fun i H x H' => H' = H ∧ ∀ xs, SqL K H a xs → xs[i]? = some x, fun i H => ∃ xs, SqL K H a xs ∧ xs.length ≤ i⟩
def Itr (lo : Int) (n : Nat) : It := ⟨fun i _ => i < n, fun i H x H' => H' = H ∧ x = .int (lo + i), fun i _ => n ≤ i⟩
theorem turn_list {P : Program} {w : World} {K : PySem.W.Frag} {tg : Expr} (a it : Addr) : Turn P w K tg (Itl K a) [it] it (fun i h => h.IsListIter it a i) where
  mem := by simp
  obj := fun i h st b hb => by
    have e : b = it := by simpa using hb
    subst e
    obtain ⟨o, e, c, d⟩ := st
    exact ⟨o, e, fun v z => by rw [d] at z; cases z⟩
  keep := fun i h h' st k => st.at fun o e => k it (by simp) o e
  item := by
    intro X hP hw hK hc i pins s σ H E I hf st hg
    subst hP hw hK
    obtain ⟨xs, x, hq, hx⟩ := hg
    obtain ⟨its, rv, p, hz⟩ := I.list hq
    obtain ⟨u, hu, ru⟩ := rv.get hx
    obtain ⟨f0, f1, f2, f3, f4, f5⟩ := hf it (by simp)
    refine wpAny_pyNext_list_item st p.isList (x := u) (by simpa using hu) fun h' st' sb => ?_
    have I1 : Inv X pins σ H { s with heap := h' } := I.turned (t' := s.toks) (fun b o hb e => (sb.2 b hb).trans e) f0 f1 f3 f4 f5
    obtain ⟨o, e, c, d⟩ := id st'
    exact ⟨u, rfl, go_of (s := { s with heap := h' }) e c d (by decide) ⟨x, H, I1, ru, ⟨rfl, fun ys hy => by rw [I.list_inj hy hq]; exact hx⟩, st', fun b hb => (hf b hb).1⟩⟩
  done := by
    intro X hP hw hK hc i pins s σ H E I hf st hg
    subst hP hw hK
    obtain ⟨xs, hq, hx⟩ := hg
    obtain ⟨its, rv, p, hz⟩ := I.list hq
    obtain ⟨f0, f1, f2, f3, f4, f5⟩ := hf it (by simp)
    have hl := rv.length
    exact wpAny_pyNext_list_end (I.ok.hd hc) st p.isList (by simp; omega) fun h' eb => ⟨rfl, I.turned (t' := s.toks) (fun b o hb e => eb b o hb e) f0 f1 f3 f4 f5⟩
  self := fun _ _ _ _ _ st h => wpAny_pyIter_listiter st h
theorem turn_range {P : Program} {w : World} {K : PySem.W.Frag} {tg : Expr} (it : Addr) (lo : Int) (n : Nat) : Turn P w K tg (Itr lo n) [it] it (fun i h => IsRangeIter h it (lo + (i : Nat) * 1) ((n : Int) - (i : Nat)) 1) where
  mem := by simp
  obj := fun i h st b hb => by
    have e : b = it := by simpa using hb
    subst e
    exact ⟨_, st, fun v z => by
      have z' : Data.fields _ = Data.cell v := z
      cases z'⟩
  keep := fun i h h' st k => k it (by simp) _ st
  item := by
    intro X hP hw hK hc i pins s σ H E I hf st hg
    subst hP hw hK
    obtain ⟨f0, f1, f2, f3, f4, f5⟩ := hf it (by simp)
    have W := Walks.range (prog := X.prog) (w := X.w) (I.ok.hd hc) it lo 1 n
    refine W.item i s _ _ hg st fun v h' tk hv st' kk => ?_
    obtain ⟨t, rfl⟩ := hv
    have I1 : Inv X pins σ H { s with heap := h', toks := tk } := I.turned (fun b o hb e => kk b o (by simpa using hb) e) f0 f1 f3 f4 f5
    refine ⟨_, rfl, go_of (s := { s with heap := h', toks := tk }) (n := "range_iterator") st' rfl rfl (by decide) ⟨.int (lo + i), H, I1, ⟨t, ?_⟩, ⟨rfl, rfl⟩, st', fun b hb => (hf b hb).1⟩⟩
    rw [Int.mul_one]
  done := by
    intro X hP hw hK hc i pins s σ H E I hf st hg
    subst hP hw hK
    obtain ⟨f0, f1, f2, f3, f4, f5⟩ := hf it (by simp)
    exact wpAny_pyNext_range_end (I.ok.hd hc) st (by have : n ≤ i := hg; omega) fun h' eb => ⟨rfl, I.turned (t' := s.toks) (fun b o hb e => eb b o hb e) f0 f1 f3 f4 f5⟩
  self := fun _ _ _ _ _ st h => wpAny_pyIter_rangeiter st h
end L2
namespace L2
open PySem PySem.Spec PyProof.Rows
section
variable {X : Cx} {tg : Expr}
def iList (K : PySem.W.Frag) (tl : TE) : TI := fun σ H R => tl σ H fun x H1 => ∃ a, x = .ref a ∧ (∃ xs, SqL K H1 a xs) ∧ R (Itl K a) H1
theorem pi_list {l : Expr} {tl : TE} (hl : PE X l tl) : PI X tg l (iList X.K tl) := by
  intro pins s σ H R I h
  refine thn (hl pins s σ H _ I h) fun v s1 ⟨x, H1, I1, r1, q1⟩ => ?_
  obtain ⟨a, e, ⟨xs, hq⟩, q⟩ := q1
  subst e
  cases r1
  obtain ⟨its, rv, p, hz⟩ := I1.list hq
  refine wpAny_pyIter_list p.isList ?_
  refine ⟨s1.heap.objs.size, [s1.heap.objs.size], _, _, H1, rfl, I1.kept (t' := s1.toks) fun b o e => Heap.get?_push_of_some _ e, turn_list a _, ⟨_, Heap.get?_push_size _ rfl, rfl, rfl⟩, fun b hb => ?_, q⟩
  have e : b = s1.heap.objs.size := by simpa using hb
  subst e
  exact I1.fpOk (Nat.le_refl _) (I1.hok.fresh (Nat.le_refl _))
theorem range_it {pins : List (Addr × Obj)} {σ : St} {H : Hp} {s : Shared} {R : It → Hp → Prop} {E : Value → Shared → Prop} {lo hi : Int} {t u v : Tok} {tk : Nat} (I : Inv X pins σ H s) (h1 : -(2 ^ 62) ≤ lo) (h2 : lo < 2 ^ 62) (h3 : -(2 ^ 62) ≤ hi) (h4 : hi < 2 ^ 62)
    (q : R (Itr lo (hi - lo).toNat) H) : wpAny (model X.prog X.w) X.A (pyIter (.ref s.heap.objs.size)) (PIE X pins σ tg R) E { s with heap := s.heap.push { cls := .type "range", data := .fields #[.int lo t, .int hi u, .int 1 v] }, toks := tk } := by
  refine wpAny_pyIter_range (IsRange.new ..) (small_one h1 h2 h3 h4) ?_
  have I1 : Inv X pins σ H { s with heap := s.heap.push { cls := .type "range", data := .fields #[.int lo t, .int hi u, .int 1 v] }, toks := tk } := I.kept fun b o e => Heap.get?_push_of_some _ e
  refine ⟨(s.heap.push { cls := .type "range", data := .fields #[.int lo t, .int hi u, .int 1 v] }).objs.size, [(s.heap.push { cls := .type "range", data := .fields #[.int lo t, .int hi u, .int 1 v] }).objs.size], _, _, H, rfl,
    I1.kept (t' := tk) fun b o e => Heap.get?_push_of_some _ e, turn_range _ lo (hi - lo).toNat, ?_, fun b hb => ?_, q⟩
  · have e1 : lo + ((0 : Nat) : Int) * 1 = lo := by simp
    have e2 : (((hi - lo).toNat : Nat) : Int) - ((0 : Nat) : Int) = Builtin.Range.rangeSize lo hi 1 := by rw [rangeSize_one]; split <;> omega
    show IsRangeIter _ _ (lo + ((0 : Nat) : Int) * 1) ((((hi - lo).toNat : Nat) : Int) - ((0 : Nat) : Int)) 1
    rw [e1, e2]
    exact Heap.get?_push_size _ rfl
  · have e : b = (s.heap.push { cls := .type "range", data := .fields #[.int lo t, .int hi u, .int 1 v] }).objs.size := by simpa using hb
    subst e
    exact I1.fpOk (Nat.le_refl _) (I1.hok.fresh (Nat.le_refl _))
def iRng1 (ta : TA) : TI := fun σ H R => ta σ H fun vs H1 => ∃ j : Int, vs = [.int j] ∧ -(2 ^ 62) ≤ j ∧ j < 2 ^ 62 ∧ R (Itr 0 j.toNat) H1
theorem pi_range1 {a : Expr} {ta : TA} {p pos : Pos} (hg : Gl X "range") (hm : X.mg "range" = none) (ha : PA X [a] ta) (hs : starEach [a] X.env = [(false, eval a X.env)] := by rfl) : PI X tg (.Call (.Name "range" p) [a] [] pos) (iRng1 ta) := by
  intro pins s σ H R I h
  refine Call_ (ld_blt I hg hm boot_range (PyProof.Rows.callWith_type1 (thn (ha pos pins s σ H _ I h) fun us s1 ⟨vs, H1, I1, r1, q1⟩ => ?_) hs rfl))
  obtain ⟨j, e, q1, q2, q⟩ := q1
  subst e
  cases r1 with
  | cons r rr =>
    cases rr
    obtain ⟨t, rfl⟩ := r
    exact call_range_1 (range_it I1 (by omega) (by omega) q1 q2 (by simpa using q))
def tFor (wi : TI) (g : TG) (tb : TS) : TS := fun D σ H => wi σ H fun J H1 => ∃ W : Nat → Nat → St → Hp → Prop, (∃ m, W 0 m σ H1) ∧ ∀ i m σ H, W i m σ H →
  (J.stop i H ∧ D.nx σ H) ∨ (J.go i H ∧ ∃ N : St → Hp → Prop, (∀ σ' H', N σ' H' → ∃ m', m' < m ∧ W (i + 1) m' σ' H') ∧ ∀ x H', J.yld i H x H' → g x σ H' fun σ2 H2 => tb { D with nx := N, ct := N, bk := D.nx } σ2 H2)
def pinsAt (fp : List Addr) (h : Heap) : List (Addr × Obj) := fp.filterMap fun b => (h.get? b).map fun o => (b, o)
theorem mem_pinsAt {fp : List Addr} {h : Heap} {b : Addr} {o : Obj} (hb : b ∈ fp) (e : h.get? b = some o) : (b, o) ∈ pinsAt fp h := List.mem_filterMap.mpr ⟨b, hb, by rw [e]; rfl⟩
theorem of_pinsAt {fp : List Addr} {h : Heap} {p : Addr × Obj} (hp : p ∈ pinsAt fp h) : p.1 ∈ fp ∧ h.get? p.1 = some p.2 := by
  obtain ⟨b, hb, e⟩ := List.mem_filterMap.mp hp
  cases q : h.get? b with
  | none => rw [q] at e; cases e
  | some o =>
    rw [q] at e
    have e' : (b, o) = p := Option.some.inj e
    subst e'
    exact ⟨hb, q⟩
theorem Inv.pinned {pins : List (Addr × Obj)} {σ : St} {H : Hp} {s : Shared} {fp : List Addr} (I : Inv X pins σ H s) (hf : ∀ b ∈ fp, FpOk X pins H b) (ho : ∀ b ∈ fp, ∃ o, s.heap.get? b = some o ∧ ∀ v, o.data ≠ .cell v) : Inv X (pins ++ pinsAt fp s.heap) σ H s :=
  I.pins_of fun p hp => (List.mem_append.mp hp).elim (fun z => I.pin p (List.mem_append_right _ z)) fun z => by
    obtain ⟨hb, e⟩ := of_pinsAt z
    obtain ⟨f0, f1, f2, _⟩ := hf p.1 hb
    obtain ⟨o, e', d⟩ := ho p.1 hb
    rw [e] at e'; cases e'
    exact ⟨e, f0, f1, f2, d⟩
theorem Inv.unpinned {pins pl : List (Addr × Obj)} {σ : St} {H : Hp} {s : Shared} (I : Inv X (pins ++ pl) σ H s) : Inv X pins σ H s := I.pins_of fun p hp => I.pin p (List.mem_append_right _ (List.mem_append_left _ hp))
theorem ps_for {iter : Expr} {body : List Stmt} {wi : TI} {g : TG} {tb : TS} {pos : Pos} (hp : PassesOwn (model X.prog X.w) X.A X.env X.xe) (hc : X.calm = true) (hi : PI X tg iter wi) (hg : PG X tg g) (hb : PSs X body tb)
    (hs : ∀ x, foldedSetIterable iter X.env x = pure x := by intro _; rfl) : PS X (.For tg iter body [] pos) (tFor wi g tb) := by
  intro pins s σ H D I h
  refine wpAny_For (thn (hi pins s σ H _ I h) fun v s1 h1 => thn h1 fun itv s2 h2 => ?_) hs
  obtain ⟨it, fp, tn, J, H2, e, I2, T, st2, f2, W, ⟨m0, w0⟩, turn⟩ := h2
  subst e
  have stat : ∀ {H' : Hp}, (∀ b ∈ fp, H' b = none) → ∀ b ∈ fp, FpOk X pins H' b := fun hn b hb => ⟨hn b hb, (f2 b hb).2⟩
  refine codeAny_forLoop_any (fun n s' => ∃ i σ' H', Inv X pins σ' H' s' ∧ tn i s'.heap ∧ (∀ b ∈ fp, H' b = none) ∧ W i n σ' H') ?_ m0 ⟨0, σ, H2, I2, st2, fun b hb => (f2 b hb).1, w0⟩
  rintro n s3 ⟨i, σ3, H3, I3, st3, fr3, w3⟩
  rcases turn i n σ3 H3 w3 with ⟨stop, qn⟩ | ⟨go, N, hN, step⟩
  · refine wpAny_passesOwn hp (thn (T.done X rfl rfl rfl hc i pins s3 σ3 H3 X.xe I3 (stat fr3) st3 stop) fun r s4 ⟨hr, I4⟩ => ?_)
    subst hr
    exact wpAny_execs_nil ⟨σ3, H3, I4, qn⟩
  · refine wpAny_passesOwn hp (thn (T.item X rfl rfl rfl hc i pins s3 σ3 H3 X.xe I3 (stat fr3) st3 go) fun r s4 ⟨u, hr, h4⟩ => ?_)
    subst hr
    refine wpAny_passesOwn hp (thn h4 fun _ s5 ⟨x, H5, I5, r5, y5, st5, fr5⟩ => ?_)
    have I5' := I5.pinned (stat fr5) (T.obj _ _ st5)
    refine wpAny_passesOwn hp (thn (hg _ s5 σ3 H5 x u _ I5' r5 (step x H5 y5)) fun _ s6 ⟨σ6, H6, I6, q6⟩ => ?_)
    refine wpAny_passesOwn hp (thn (hb _ s6 σ6 H6 _ I6 q6) fun f s7 q7 => ?_)
    have again : ∀ {σ7 : St} {H7 : Hp}, Inv X (pins ++ pinsAt fp s5.heap) σ7 H7 s7 → N σ7 H7 → ∃ m, m < n ∧ ∃ i σ' H', Inv X pins σ' H' s7 ∧ tn i s7.heap ∧ (∀ b ∈ fp, H' b = none) ∧ W i m σ' H' := fun {σ7 H7} I7 n7 => by
      obtain ⟨m', hm, w7⟩ := hN σ7 H7 n7
      refine ⟨m', hm, i + 1, σ7, H7, I7.unpinned, T.keep _ _ _ st5 fun b hb o e => (I7.pin (b, o) (List.mem_append_right _ (List.mem_append_right _ (mem_pinsAt hb e)))).1, fun b hb => ?_, w7⟩
      obtain ⟨o, e, d⟩ := T.obj _ _ st5 b hb
      exact (I7.pin (b, o) (List.mem_append_right _ (List.mem_append_right _ (mem_pinsAt hb e)))).2.1
    cases f with
    | next => obtain ⟨σ7, H7, I7, n7⟩ := q7; exact again I7 n7
    | cont => obtain ⟨σ7, H7, I7, n7⟩ := q7; exact again I7 n7
    | brk => obtain ⟨σ7, H7, I7, q7⟩ := q7; exact ⟨σ7, H7, I7.unpinned, q7⟩
    | ret v => obtain ⟨x7, σ7, H7, I7, r7, q7⟩ := q7; exact ⟨x7, σ7, H7, I7.unpinned, r7, q7⟩
end
theorem for_list {K : PySem.W.Frag} {a : Addr} {xs : List V} {g : TG} {tb : TS} {D : Ends} {σ : St} {H : Hp} (Pv : Nat → St → Hp → Prop) (h0 : Pv 0 σ H) (hl : ∀ i σ H, i ≤ xs.length → Pv i σ H → SqL K H a xs)
    (hs : ∀ i x σ H, xs[i]? = some x → Pv i σ H → g x σ H fun σ2 H2 => tb { D with nx := Pv (i + 1), ct := Pv (i + 1), bk := D.nx } σ2 H2) (hd : ∀ σ H, Pv xs.length σ H → D.nx σ H) :
    ∃ W : Nat → Nat → St → Hp → Prop, (∃ m, W 0 m σ H) ∧ ∀ i m σ H, W i m σ H →
      ((Itl K a).stop i H ∧ D.nx σ H) ∨ ((Itl K a).go i H ∧ ∃ N : St → Hp → Prop, (∀ σ' H', N σ' H' → ∃ m', m' < m ∧ W (i + 1) m' σ' H') ∧ ∀ x H', (Itl K a).yld i H x H' → g x σ H' fun σ2 H2 => tb { D with nx := N, ct := N, bk := D.nx } σ2 H2) := by
  refine ⟨fun i m σ H => m = xs.length - i ∧ i ≤ xs.length ∧ Pv i σ H, ⟨xs.length, by simp, Nat.zero_le _, h0⟩, ?_⟩
  rintro i m σ H ⟨rfl, hi, p⟩
  have q := hl i σ H hi p
  by_cases hlt : i < xs.length
  · refine .inr ⟨⟨xs, xs[i], q, by simp [hlt]⟩, Pv (i + 1), fun σ' H' p' => ⟨xs.length - (i + 1), by omega, rfl, hlt, p'⟩, fun x H' y => ?_⟩
    obtain ⟨e, y⟩ := y
    subst e
    exact hs i x σ _ (y xs q) p
  · have e : i = xs.length := by omega
    subst e
    exact .inl ⟨⟨xs, q, Nat.le_refl _⟩, hd σ H p⟩
theorem for_range {lo : Int} {n : Nat} {g : TG} {tb : TS} {D : Ends} {σ : St} {H : Hp} (Pv : Nat → St → Hp → Prop) (h0 : Pv 0 σ H)
    (hs : ∀ i σ H, i < n → Pv i σ H → g (.int (lo + i)) σ H fun σ2 H2 => tb { D with nx := Pv (i + 1), ct := Pv (i + 1), bk := D.nx } σ2 H2) (hd : ∀ σ H, Pv n σ H → D.nx σ H) :
    ∃ W : Nat → Nat → St → Hp → Prop, (∃ m, W 0 m σ H) ∧ ∀ i m σ H, W i m σ H →
      ((Itr lo n).stop i H ∧ D.nx σ H) ∨ ((Itr lo n).go i H ∧ ∃ N : St → Hp → Prop, (∀ σ' H', N σ' H' → ∃ m', m' < m ∧ W (i + 1) m' σ' H') ∧ ∀ x H', (Itr lo n).yld i H x H' → g x σ H' fun σ2 H2 => tb { D with nx := N, ct := N, bk := D.nx } σ2 H2) := by
  refine ⟨fun i m σ H => m = n - i ∧ i ≤ n ∧ Pv i σ H, ⟨n, by simp, Nat.zero_le _, h0⟩, ?_⟩
  rintro i m σ H ⟨rfl, hi, p⟩
  by_cases hlt : i < n
  · refine .inr ⟨hlt, Pv (i + 1), fun σ' H' p' => ⟨n - (i + 1), by omega, rfl, hlt, p'⟩, fun x H' y => ?_⟩
    obtain ⟨e, y⟩ := y
    subst e y
    exact hs i σ _ hlt p
  · have e : i = n := by omega
    subst e
    exact .inl ⟨Nat.le_refl _, hd σ H p⟩
theorem while_by {c : TT} {tb : TS} {D : Ends} {σ : St} {H : Hp} (Pv : St → Hp → Prop) (μ : St → Hp → Nat) (h0 : Pv σ H)
    (hs : ∀ σ H, Pv σ H → c σ H fun b H1 => if b = true then tb { D with nx := fun σ' H' => Pv σ' H' ∧ μ σ' H' < μ σ H, ct := fun σ' H' => Pv σ' H' ∧ μ σ' H' < μ σ H, bk := D.nx } σ H1 else D.nx σ H1)
    (mono : ∀ σ H Q Q', (∀ b H1, Q b H1 → Q' b H1) → c σ H Q → c σ H Q') : tWhile c tb D σ H := by
  refine ⟨fun m σ H => m = μ σ H ∧ Pv σ H, ⟨_, rfl, h0⟩, ?_⟩
  rintro m σ H ⟨rfl, p⟩
  refine mono σ H _ _ (fun b H1 q => ?_) (hs σ H p)
  cases b with
  | true => exact ⟨_, fun σ' H' ⟨p', l⟩ => ⟨_, l, rfl, p'⟩, q⟩
  | false => exact q
end L2
namespace L2
open PySem PySem.Spec PyProof.Rows
abbrev R2 := V → V → Hp → VK → Prop
def OpR (X : Cx) (f : Value → Value → Sem Value) (r : R2) : Prop :=
  ∀ (pins : List (Addr × Obj)) (s : Shared) (σ : St) (H : Hp) (x y : V) (v u : Value) (Q : VK), Inv X pins σ H s → RelV x v → RelV y u → r x y H Q →
    wpAny (model X.prog X.w) X.A (f v u) (EP X pins σ Q) X.xe s
def UnR (X : Cx) (f : Value → Sem Value) (r : V → Hp → VK → Prop) : Prop :=
  ∀ (pins : List (Addr × Obj)) (s : Shared) (σ : St) (H : Hp) (x : V) (v : Value) (Q : VK), Inv X pins σ H s → RelV x v → r x H Q →
    wpAny (model X.prog X.w) X.A (f v) (EP X pins σ Q) X.xe s
def CallR (X : Cx) (f : Value) (r : List V → Hp → VK → Prop) : Prop :=
  ∀ (pins : List (Addr × Obj)) (s : Shared) (σ : St) (H : Hp) (xs : List V) (us : List Value) (Q : VK), Inv X pins σ H s → Vals xs us → r xs H Q →
    wpAny (model X.prog X.w) X.A (call f us) (EP X pins σ Q) X.xe s
def tOp (r : R2) (ta tb : TE) : TE := fun σ H Q => ta σ H fun x H1 => tb σ H1 fun y H2 => r x y H2 Q
def tUn (r : V → Hp → VK → Prop) (ta : TE) : TE := fun σ H Q => ta σ H fun x H1 => r x H1 Q
def rI (C : Int → Int → Prop) (g : Int → Int → V) : R2 := fun x y H Q => ∃ i j, x = .int i ∧ y = .int j ∧ C i j ∧ Q (g i j) H
def rI0 (g : Int → Int → V) : R2 := fun x y H Q => ∃ i j, x = .int i ∧ y = .int j ∧ Q (g i j) H
def rU (g : Int → V) : V → Hp → VK → Prop := fun x H Q => ∃ i, x = .int i ∧ Q (g i) H
section
variable {X : Cx} {a b c : Expr} {ta tb tc : TE} {pos : Pos}
theorem binT (ha : PE X a ta) (hb : PE X b tb) {pins : List (Addr × Obj)} {s : Shared} {σ : St} {H : Hp} {R : V → V → Hp → Prop} (I : Inv X pins σ H s)
    (h : ta σ H fun x H1 => tb σ H1 fun y H2 => R x y H2) {Q : Value → Shared → Prop} {f : Value → Value → Sem Value}
    (hf : ∀ v u s2 x y H2, Inv X pins σ H2 s2 → RelV x v → RelV y u → R x y H2 → wpAny (model X.prog X.w) X.A (f v u) Q X.xe s2) :
    wpAny (model X.prog X.w) X.A (eval a X.env) (fun v s₁ => wpAny (model X.prog X.w) X.A (eval b X.env) (fun u s₂ => wpAny (model X.prog X.w) X.A (f v u) Q X.xe s₂) X.xe s₁) X.xe s := by
  refine thn (ha pins s σ H _ I h) fun v s1 ⟨x, H1, I1, r1, q1⟩ => ?_
  refine thn (hb pins s1 σ H1 _ I1 q1) fun u s2 ⟨y, H2, I2, r2, q2⟩ => ?_
  exact hf v u s2 x y H2 I2 r1 r2 q2
theorem pe_op {op : Operator} {r : R2} (ho : OpR X (binaryOp op) r) (ha : PE X a ta) (hb : PE X b tb) : PE X (.BinOp a op b pos) (tOp r ta tb) := by
  intro pins s σ H Q I h
  exact wpAny_BinOp (binT ha hb I h fun v u s2 x y H2 I2 rx ry q => ho pins s2 σ H2 x y v u Q I2 rx ry q)
theorem pe_un {op : UnaryOp} {r : V → Hp → VK → Prop} (ho : UnR X (unaryOp op) r) (ha : PE X a ta) : PE X (.UnaryOp op a pos) (tUn r ta) := by
  intro pins s σ H Q I h
  exact UnaryOp_ (thn (ha pins s σ H _ I h) fun v s1 ⟨x, H1, I1, r1, q1⟩ => ho pins s1 σ H1 x v Q I1 r1 q1)
theorem opI {f : Value → Value → Sem Value} {C : Int → Int → Prop} {g : Int → Int → Int}
    (rule : ∀ (i j : Int) (t u : Tok) (s : Shared) (Q : Value → Shared → Prop) (E : Value → Shared → Prop), C i j → Q (.int (g i j) s.toks) { s with toks := s.toks + 1 } → wpAny (model X.prog X.w) X.A (f (.int i t) (.int j u)) Q E s) :
    OpR X f (rI C fun i j => .int (g i j)) := by
  intro pins s σ H x y v u Q I rx ry h
  obtain ⟨i, j, rfl, rfl, hc, q⟩ := h
  obtain ⟨t, rfl⟩ := rx
  obtain ⟨t', rfl⟩ := ry
  exact rule i j t t' s _ _ hc ⟨.int (g i j), H, I.tok _, ⟨_, rfl⟩, q⟩
theorem opI0 {f : Value → Value → Sem Value} {g : Int → Int → Int}
    (rule : ∀ (i j : Int) (t u : Tok) (s : Shared) (Q : Value → Shared → Prop) (E : Value → Shared → Prop), Q (.int (g i j) s.toks) { s with toks := s.toks + 1 } → wpAny (model X.prog X.w) X.A (f (.int i t) (.int j u)) Q E s) :
    OpR X f (rI0 fun i j => .int (g i j)) := by
  intro pins s σ H x y v u Q I rx ry h
  obtain ⟨i, j, rfl, rfl, q⟩ := h
  obtain ⟨t, rfl⟩ := rx
  obtain ⟨t', rfl⟩ := ry
  exact rule i j t t' s _ _ ⟨.int (g i j), H, I.tok _, ⟨_, rfl⟩, q⟩
theorem opB0 {f : Value → Value → Sem Value} {g : Int → Int → Bool}
    (rule : ∀ (i j : Int) (t u : Tok) (s : Shared) (Q : Value → Shared → Prop) (E : Value → Shared → Prop), Q (.bool (g i j)) s → wpAny (model X.prog X.w) X.A (f (.int i t) (.int j u)) Q E s) :
    OpR X f (rI0 fun i j => .bl (g i j)) := by
  intro pins s σ H x y v u Q I rx ry h
  obtain ⟨i, j, rfl, rfl, q⟩ := h
  obtain ⟨t, rfl⟩ := rx
  obtain ⟨t', rfl⟩ := ry
  exact rule i j t t' s _ _ ⟨.bl (g i j), H, I, rfl, q⟩
def CPow (i j : Int) : Prop := 0 ≤ j ∧ j ≤ 1000000 ∧ i.natAbs < 2 ^ 64
def CMul (i j : Int) : Prop := (-(2 ^ 64) < i ∧ i < 2 ^ 64) ∨ (-(2 ^ 64) < j ∧ j < 2 ^ 64)
theorem CMul.ok {i j : Int} (h : CMul i j) : IntMulOk i j := by
  rcases h with ⟨h1, h2⟩ | ⟨h1, h2⟩
  · exact .of_left (intBits_le_64 h1 h2)
  · exact .of_right (intBits_le_64 h1 h2)
theorem op_add : OpR X (binaryOp .Add) (rI0 fun i j => .int (i + j)) := opI0 fun _ _ _ _ _ _ _ q => add_int q
theorem op_sub : OpR X (binaryOp .Sub) (rI0 fun i j => .int (i - j)) := opI0 fun _ _ _ _ _ _ _ q => sub_int q
theorem op_mul : OpR X (binaryOp .Mult) (rI CMul fun i j => .int (i * j)) := opI fun _ _ _ _ _ _ _ hc q => mul_int q hc.ok
theorem op_mod : OpR X (binaryOp .Mod) (rI (fun _ j => 0 < j) fun i j => .int (i % j)) := opI fun i j _ _ _ _ _ hc q => by
  have h1 : (0 : Int) < j := hc
  exact mod_int' (by omega) (by rw [Int.fmod_eq_emod_of_nonneg i (by omega)]; exact q)
theorem op_shl : OpR X (binaryOp .LShift) (rI CPow fun i j => .int (i * 2 ^ j.toNat)) := opI fun _ _ _ _ _ _ _ hc q => lshift_int_small hc.1 hc.2.1 hc.2.2 q
theorem op_and : OpR X (binaryOp .BitAnd) (rI0 fun i j => .int (Builtin.bitAnd i j)) := opI0 fun _ _ _ _ _ _ _ q => and_int q
theorem op_or : OpR X (binaryOp .BitOr) (rI0 fun i j => .int (Builtin.bitOr i j)) := opI0 fun _ _ _ _ _ _ _ q => or_int q
theorem unI {f : Value → Sem Value} {g : Int → Int}
    (rule : ∀ (i : Int) (t : Tok) (s : Shared) (Q : Value → Shared → Prop) (E : Value → Shared → Prop), Q (.int (g i) s.toks) { s with toks := s.toks + 1 } → wpAny (model X.prog X.w) X.A (f (.int i t)) Q E s) :
    UnR X f (rU fun i => .int (g i)) := by
  intro pins s σ H x v Q I rx h
  obtain ⟨i, rfl, q⟩ := h
  obtain ⟨t, rfl⟩ := rx
  exact rule i t s _ _ ⟨.int (g i), H, I.tok _, ⟨_, rfl⟩, q⟩
theorem un_neg : UnR X (unaryOp .USub) (rU fun i => .int (-i)) := unI fun _ _ _ _ _ q => neg_int q
end
def scal : V → V → Bool
  | .non, .non => true | .non, .int _ => true | .int _, .non => true | .non, .bl _ => true | .bl _, .non => true | .non, .str _ => true | .str _, .non => true
  | .int _, .int _ => true | .bl _, .bl _ => true | .str _, .str _ => true | .byt _, .byt _ => true
  | .int _, .str _ => true | .str _, .int _ => true | .bl _, .str _ => true | .str _, .bl _ => true
  | _, _ => false
def rEq : R2 := fun x y H Q => scal x y = true ∧ Q (.bl (decide (x = y))) H
def rNe : R2 := fun x y H Q => scal x y = true ∧ Q (.bl (!decide (x = y))) H
theorem dec_int {i j : Int} : decide (V.int i = V.int j) = (i == j) := by
  rw [Bool.eq_iff_iff]
  simp
theorem dec_bl {i j : Bool} : decide (V.bl i = V.bl j) = (i == j) := by
  rw [Bool.eq_iff_iff]
  simp
theorem dec_str {i j : Str} : decide (V.str i = V.str j) = (i == j) := by
  rw [Bool.eq_iff_iff]
  simp
theorem dec_byt {i j : Array UInt8} : decide (V.byt i = V.byt j) = (i.toList == j.toList) := by
  rw [Bool.eq_iff_iff]
  cases i
  cases j
  simp
section
variable {X : Cx} {a b c : Expr} {ta tb tc : TE} {pos : Pos}
theorem fin_bl {pins : List (Addr × Obj)} {σ : St} {H : Hp} {s : Shared} {Q : VK} {k k' : Bool} (I : Inv X pins σ H s) (q : Q (.bl k) H) (e : k = k') : EP X pins σ Q (.bool k') s := by
  subst e
  exact ⟨.bl k, H, I, rfl, q⟩
theorem op_eq : OpR X (compareOp .Eq) rEq := by
  intro pins s σ H x y v u Q I rx ry h
  obtain ⟨hs, q⟩ := h
  cases x with
  | non =>
    cases rx
    cases y with
    | non => cases ry; exact PySem.EqNone.eq_none_none (fin_bl I q (by simp))
    | bl j => cases ry; exact PySem.EqNone.eq_none_bool (fin_bl I q (by simp))
    | int j => obtain ⟨t', rfl⟩ := ry; exact PySem.EqNone.eq_none_int (fin_bl I q (by simp))
    | str j => obtain ⟨t', rfl⟩ := ry; exact PySem.EqNone.eq_none_str (fin_bl I q (by simp))
    | _ => exact absurd (show false = true from hs) Bool.false_ne_true
  | bl i =>
    cases rx
    cases y with
    | non => cases ry; exact PySem.EqNone.eq_bool_none (fin_bl I q (by simp))
    | bl j => cases ry; exact eq_bool (fin_bl I q dec_bl)
    | str j => obtain ⟨t', rfl⟩ := ry; exact PySem.EqMixed.eq_bool_str (fin_bl I q (by simp))
    | _ => exact absurd (show false = true from hs) Bool.false_ne_true
  | int i =>
    obtain ⟨t, rfl⟩ := rx
    cases y with
    | non => cases ry; exact PySem.EqNone.eq_int_none (fin_bl I q (by simp))
    | int j => obtain ⟨t', rfl⟩ := ry; exact eq_int (fin_bl I q dec_int)
    | str j => obtain ⟨t', rfl⟩ := ry; exact PySem.EqMixed.eq_int_str (fin_bl I q (by simp))
    | _ => exact absurd (show false = true from hs) Bool.false_ne_true
  | str i =>
    obtain ⟨t, rfl⟩ := rx
    cases y with
    | non => cases ry; exact PySem.EqNone.eq_str_none (fin_bl I q (by simp))
    | bl j => cases ry; exact PySem.EqMixed.eq_str_bool (fin_bl I q (by simp))
    | int j => obtain ⟨t', rfl⟩ := ry; exact PySem.EqMixed.eq_str_int (fin_bl I q (by simp))
    | str j => obtain ⟨t', rfl⟩ := ry; exact eq_str (fin_bl I q dec_str)
    | _ => exact absurd (show false = true from hs) Bool.false_ne_true
  | byt i =>
    obtain ⟨t, rfl⟩ := rx
    cases y with
    | byt j => obtain ⟨t', rfl⟩ := ry; exact PySem.W.eq_bytes (fin_bl I q dec_byt)
    | _ => exact absurd (show false = true from hs) Bool.false_ne_true
  | _ => cases y <;> exact absurd (show false = true from hs) Bool.false_ne_true
theorem op_ne : OpR X (compareOp .NotEq) rNe := by
  intro pins s σ H x y v u Q I rx ry h
  obtain ⟨hs, q⟩ := h
  cases x with
  | non =>
    cases rx
    cases y with
    | non => cases ry; exact PySem.EqNone.ne_none_none (fin_bl I q (by simp))
    | bl j => cases ry; exact PySem.EqNone.ne_none_bool (fin_bl I q (by simp))
    | int j => obtain ⟨t', rfl⟩ := ry; exact PySem.EqNone.ne_none_int (fin_bl I q (by simp))
    | str j => obtain ⟨t', rfl⟩ := ry; exact PySem.EqNone.ne_none_str (fin_bl I q (by simp))
    | _ => exact absurd (show false = true from hs) Bool.false_ne_true
  | bl i =>
    cases rx
    cases y with
    | non => cases ry; exact PySem.EqNone.ne_bool_none (fin_bl I q (by simp))
    | bl j => cases ry; exact ne_bool (fin_bl I q (congrArg not dec_bl))
    | str j => obtain ⟨t', rfl⟩ := ry; exact PySem.EqMixed.ne_bool_str (fin_bl I q (by simp))
    | _ => exact absurd (show false = true from hs) Bool.false_ne_true
  | int i =>
    obtain ⟨t, rfl⟩ := rx
    cases y with
    | non => cases ry; exact PySem.EqNone.ne_int_none (fin_bl I q (by simp))
    | int j => obtain ⟨t', rfl⟩ := ry; exact ne_int (fin_bl I q (congrArg not dec_int))
    | str j => obtain ⟨t', rfl⟩ := ry; exact PySem.EqMixed.ne_int_str (fin_bl I q (by simp))
    | _ => exact absurd (show false = true from hs) Bool.false_ne_true
  | str i =>
    obtain ⟨t, rfl⟩ := rx
    cases y with
    | non => cases ry; exact PySem.EqNone.ne_str_none (fin_bl I q (by simp))
    | bl j => cases ry; exact PySem.EqMixed.ne_str_bool (fin_bl I q (by simp))
    | int j => obtain ⟨t', rfl⟩ := ry; exact PySem.EqMixed.ne_str_int (fin_bl I q (by simp))
    | str j => obtain ⟨t', rfl⟩ := ry; exact ne_str (fin_bl I q (congrArg not dec_str))
    | _ => exact absurd (show false = true from hs) Bool.false_ne_true
  | byt i =>
    obtain ⟨t, rfl⟩ := rx
    cases y with
    | byt j => obtain ⟨t', rfl⟩ := ry; exact PySem.W.ne_bytes (fin_bl I q (congrArg not dec_byt))
    | _ => exact absurd (show false = true from hs) Bool.false_ne_true
  | _ => cases y <;> exact absurd (show false = true from hs) Bool.false_ne_true
theorem op_lt : OpR X (compareOp .Lt) (rI0 fun i j => .bl (decide (i < j))) := opB0 fun _ _ _ _ _ _ _ q => lt_int q
theorem op_gt : OpR X (compareOp .Gt) (rI0 fun i j => .bl (decide (j < i))) := opB0 fun _ _ _ _ _ _ _ q => gt_int q
theorem op_ge : OpR X (compareOp .GtE) (rI0 fun i j => .bl (decide (j ≤ i))) := opB0 fun _ _ _ _ _ _ _ q => ge_int q
theorem OpR.or {f : Value → Value → Sem Value} {r r' : R2} (h : OpR X f r) (h' : OpR X f r') : OpR X f (fun x y H Q => r x y H Q ∨ r' x y H Q) := by
  intro pins s σ H x y v u Q I rx ry q
  rcases q with q | q
  · exact h pins s σ H x y v u Q I rx ry q
  · exact h' pins s σ H x y v u Q I rx ry q
theorem nomark (b : Expr) {op : CmpOp} (h : op ≠ .In := by decide) (h2 : op ≠ .NotIn := by decide) : behindInMarks op b = false := by
  have e1 : (op == CmpOp.In) = false := by cases op <;> first | rfl | exact absurd rfl h
  have e2 : (op == CmpOp.NotIn) = false := by cases op <;> first | rfl | exact absurd rfl h2
  cases b <;> simp [behindInMarks, e1, e2]
theorem pe_cmpR {op : CmpOp} {r : R2} (ho : OpR X (compareOp op) r) (ha : PE X a ta) (hb : PE X b tb) (hm : behindInMarks op b = false) : PE X (.Compare a [op] [b] pos) (tOp r ta tb) := by
  intro pins s σ H Q I h
  exact wpAny_Compare1 (binT ha hb I h fun v u s2 x y H2 I2 rx ry q => ho pins s2 σ H2 x y v u Q I2 rx ry q) hm
def tTest (t : TE) : TT := fun σ H Q => t σ H fun x H' => ∃ k, x = .bl k ∧ Q k H'
theorem pt_cmpR {op : CmpOp} {r : R2} (ho : OpR X (compareOp op) r) (ha : PE X a ta) (hb : PE X b tb) (hm : behindInMarks op b = false) : PT X (.Compare a [op] [b] pos) (tTest (tOp r ta tb)) := by
  intro pins s σ H Q I h
  refine wpAny_isTrue_Compare1 (thn (ha pins s σ H _ I h) fun v s1 ⟨x, H1, I1, r1, q1⟩ => thn (hb pins s1 σ H1 _ I1 q1) fun u s2 ⟨y, H2, I2, r2, q2⟩ =>
    thn (ho pins s2 σ H2 x y v u _ I2 r1 r2 q2) fun c s3 ⟨z, H3, I3, r3, k, e, q3⟩ => ?_) hm
  subst e
  cases r3
  exact wpAny_truthy_bool ⟨H3, I3, q3⟩
theorem line63 : (sizeLine : Nat) < 2 ^ 63 := by rw [sizeLine_eq]; decide
theorem vals1 {x : V} {us : List Value} (r : Vals [x] us) : ∃ u, us = [u] ∧ RelV x u := by
  cases r with
  | cons r1 r2 => cases r2; exact ⟨_, rfl, r1⟩
end
end L2
namespace L2
open PySem PySem.Spec PyProof.Rows
structure ObjM (h : Heap) (x dx C : Addr) (mA : Str → Option Value) : Prop where
  obj : h.get? x = some (PySem.W.instObj C dx)
  ns : h.Ns1 dx mA
  ne : dx ≠ x
theorem lookIn_ns {h : Heap} {dx : Addr} {mA : Str → Option Value} (n : h.Ns1 dx mA) : ∃ od, h.get? dx = some od ∧ ∀ name, PySem.W.lookIn name od = some (mA name) := by
  obtain ⟨o, es, ep, ho, hd, hk, _, hm⟩ := n
  refine ⟨o, ho, fun name => ?_⟩
  have e := hm name
  unfold nsFind findBy at e
  rw [← Array.find?_toList] at e
  unfold PySem.W.lookIn
  rw [hd]
  dsimp only
  split
  · rename_i y q
    rw [q] at e
    exact congrArg some e
  · rename_i q
    rw [q] at e
    have a : es.toList.any (·.refKey) = false := by
      rw [List.any_eq_false]
      intro y hy
      obtain ⟨z, t, hkey⟩ := hk y (Array.mem_toList_iff.mp hy)
      simp [DictEntry.refKey, hkey]
    have a' : ¬ es.toList.any (·.refKey) = true := by rw [a]; exact Bool.false_ne_true
    rw [if_neg a']
    exact congrArg some e
theorem ObjM.look {h : Heap} {x dx C : Addr} {mA : Str → Option Value} (I : ObjM h x dx C mA) : ∃ od, PySem.W.InstAt h x (PySem.W.instObj C dx) C (some od) ∧ ∀ name, PySem.W.lookIn name od = some (mA name) :=
  let ⟨od, ho, hl⟩ := lookIn_ns I.ns
  ⟨od, ⟨I.obj, rfl, rfl, ho⟩, hl⟩
section
variable {prog : Program} {w : World} {A : Around} {E : Value → Shared → Prop} {s : Shared} {K : PySem.W.Frag} {x dx C f : Addr} {mA : Str → Option Value} {name : Str} {v : Value}
theorem get_map {expr : Bool} {Q : Value → Shared → Prop} (X : K.In s.heap) (I : ObjM s.heap x dx C mA) (hg : PySem.W.plainGet K C name = true) (hh : PySem.W.hasDictIn K C = true)
    (ha : PySem.W.findIn K (.ref C) name = some none) (hv : mA name = some v) (hv' : PySem.W.handedIn v = true) (h : Q v { s with toks := s.toks + 1 }) :
    wpAny (model prog w) A (getAttr (.ref x) name expr) Q E s := by
  obtain ⟨od, J, hl⟩ := I.look
  exact PySem.W.get_value X J (PySem.W.plainGet_of hg).1 (PySem.W.findObj_own hh ha rfl (by rw [hl, hv])) hv' h
theorem set_map {ns : List Str} {Q : Unit → Shared → Prop} (X : K.In s.heap) (I : ObjM s.heap x dx C mA)
    (hs : PySem.W.findIn K (.ref C) "__setattr__" = some (some (.builtin "object.__setattr__"))) (hp : PySem.W.plainOver K C = true) (ht : PySem.W.takerIn K C name = some none) (hh : PySem.W.hasDictIn K C = true)
    (hw : PySem.Within mA ns) (hsz : ns.length ≤ sizeLine)
    (h : ∀ h', ObjM h' x dx C (fun y => if y = name then some v else mA y) → Heap.SameBut dx s.heap h' → Q () { s with heap := h', toks := s.toks + 2 }) :
    wpAny (model prog w) A (setAttr (.ref x) name v) Q E s := by
  obtain ⟨od, J, hl⟩ := I.look
  refine PySem.W.set_plain X J hs (PySem.W.osa_open (s := { s with toks := s.toks + 1 }) (r := none) X J hp ht fun b => ?_)
  obtain ⟨cd, hc, hd'⟩ := PySem.W.any_some hh
  have hx : s.heap.get? x = some ⟨.ref C, some dx, .plain, #[]⟩ := I.obj
  refine wpAny_bind (wpAny_pure (wpAny_bind (wpAny_bind (wpAny_loadPart hx (wpAny_bind (PySem.W.Looks.here (s := { s with toks := s.toks + 1 }) (PySem.W.looks_clsIn X hc) ?_))))))
  rw [hd']
  refine wpAny_pure (a := some dx) (wpAny_bind (wpAny_pure (wpAny_bind ?_)))
  refine wpAny_nsSet1 (s := { s with toks := s.toks + 1 }) I.ns fun h' hn2 hs2 => ?_
  obtain ⟨oD, esD, epD, hoD, hdD, hcD⟩ := hn2.count (PySem.Within.cons name v hw)
  refine wpAny_bind (wpAny_lookBehind hoD (by rw [hdD]; exact pastItsLine_dict (Nat.le_trans hcD (by rw [List.length_cons]; omega))) ?_)
  exact wpAny_pure (h _ ⟨(hs2.2 _ (Ne.symm I.ne)).trans I.obj, hn2, I.ne⟩ hs2)
theorem make_map {R : Result → Shared → Prop} {vs : List Value} {kw : List (Str × Value)} (X : K.In s.heap) (hm : PySem.W.makesIn K C = true)
    (hi : PySem.W.findIn K (.ref C) "__init__" = some (some (.ref f))) (hf : PySem.W.typeIn K (.ref f) = some (.type "function"))
    (h : codeAny (model prog w) (A.under (.builtin "type.__call__" ⟨.ref C :: vs, kw⟩)) (.call (.ref f) ⟨.ref (s.heap.objs.size + 1) :: vs, kw⟩) (PySem.W.InitBack (s.heap.objs.size + 1) R)
      { s with heap := (s.heap.push PySem.W.emptyDict).push (PySem.W.instObj C s.heap.objs.size) }) :
    codeAny (model prog w) A (.call (.ref C) ⟨vs, kw⟩) R s := by
  obtain ⟨hh, g, d, t, os⟩ := s
  exact PySem.W.make_core (PySem.W.makes_of X hm) (PySem.W.looks_findIn X hi) (fun self => PySem.W.bind_fn X self hf) (.inl rfl) h
end
def putF (f : Str) (v : V) : List (Str × V) → List (Str × V)
  | [] => [(f, v)]
  | (g, x) :: r => if g = f then (g, v) :: r else (g, x) :: putF f v r
theorem lookup_putF (f g : Str) (v : V) : ∀ fs : List (Str × V), (putF f v fs).lookup g = if g = f then some v else fs.lookup g
  | [] => by
    show List.lookup g [(f, v)] = _
    by_cases h : g = f
    · have hb : (g == f) = true := beq_iff_eq.mpr h
      simp only [List.lookup, hb, if_pos h]
    · have hb : (g == f) = false := beq_eq_false_iff_ne.mpr h
      simp only [List.lookup, hb, if_neg h]
  | (k, x) :: r => by
    have ih := lookup_putF f g v r
    rw [show putF f v ((k, x) :: r) = (if k = f then (k, v) :: r else (k, x) :: putF f v r) from rfl]
    by_cases hk : k = f
    · rw [if_pos hk]
      by_cases h : g = k
      · have hb : (g == k) = true := beq_iff_eq.mpr h
        simp only [List.lookup, hb, if_pos (h.trans hk)]
      · have hb : (g == k) = false := beq_eq_false_iff_ne.mpr h
        simp only [List.lookup, hb, if_neg (fun e : g = f => h (e.trans hk.symm))]
    · rw [if_neg hk]
      by_cases h : g = k
      · have hb : (g == k) = true := beq_iff_eq.mpr h
        simp only [List.lookup, hb, if_neg (fun e : g = f => hk (h.symm.trans e))]
      · have hb : (g == k) = false := beq_eq_false_iff_ne.mpr h
        simp only [List.lookup, hb]
        exact ih
theorem keys_putF (f : Str) (v : V) : ∀ fs : List (Str × V), f ∈ (putF f v fs).map (·.1) ∧ ∀ g, g ∈ fs.map (·.1) → g ∈ (putF f v fs).map (·.1)
  | [] => ⟨by simp [putF], fun g h => by simp at h⟩
  | (k, x) :: r => by
    obtain ⟨i1, i2⟩ := keys_putF f v r
    rw [show putF f v ((k, x) :: r) = (if k = f then (k, v) :: r else (k, x) :: putF f v r) from rfl]
    by_cases hk : k = f
    · rw [if_pos hk]
      subst hk
      exact ⟨by simp, fun g h => by simpa using h⟩
    · rw [if_neg hk]
      refine ⟨?_, fun g h => ?_⟩
      · rw [List.map_cons]
        exact List.mem_cons_of_mem _ i1
      · rw [List.map_cons] at h ⊢
        rcases List.mem_cons.mp h with e | e
        · exact List.mem_cons.mpr (.inl e)
        · exact List.mem_cons_of_mem _ (i2 g e)
theorem length_putF (f : Str) (v : V) : ∀ fs : List (Str × V), (putF f v fs).length ≤ fs.length + 1
  | [] => by simp [putF]
  | (k, x) :: r => by
    have ih := length_putF f v r
    rw [show putF f v ((k, x) :: r) = (if k = f then (k, v) :: r else (k, x) :: putF f v r) from rfl]
    by_cases hk : k = f
    · rw [if_pos hk, List.length_cons, List.length_cons]; omega
    · rw [if_neg hk, List.length_cons, List.length_cons]; omega
theorem RelO.some_of {v : V} {o : Option Value} (r : RelO (some v) o) : ∃ u, o = some u ∧ RelV v u := by
  cases o with
  | none => exact (show False from r).elim
  | some u => exact ⟨u, rfl, r⟩
theorem handed_of {v : V} {u : Value} (r : RelV v u) : PySem.W.handedIn u = true := by
  cases v with
  | non => cases (show u = Value.none from r); rfl
  | bl b => cases (show u = Value.bool b from r); rfl
  | int i => obtain ⟨t, e⟩ := (show ∃ t, u = Value.int i t from r); cases e; rfl
  | str x => obtain ⟨t, e⟩ := (show ∃ t, u = Value.str x t from r); cases e; rfl
  | byt b => obtain ⟨t, e⟩ := (show ∃ t, u = Value.bytes b t from r); cases e; rfl
  | flt b => obtain ⟨t, e⟩ := (show ∃ t, u = Value.float b t from r); cases e; rfl
  | ref a => cases (show u = Value.ref a from r); rfl
  | ty n => cases (show u = Value.type n from r); rfl
section
variable {P : Program} {w : World} {H H' : Hp} {h h' : Heap} {a C dx : Addr} {fs fs' : List (Str × V)}
theorem ins_get (hok : HOk P w H h) (e : H a = some (.ins C dx fs)) : ∃ mA, ObjM h a dx C mA ∧ (∀ f, RelO (fs.lookup f) (mA f)) ∧ PySem.Within mA (fs.map (·.1)) ∧ fs.length ≤ 1000 ∧ H dx = some (.own a) := by
  obtain ⟨d, z, ne, ob, mA, n, r, q⟩ := (show ObjOk P w H h a (.ins C dx fs) from hok a _ e)
  exact ⟨mA, ⟨ob, n, ne⟩, r, q, z, d⟩
end
structure Cls (K : PySem.W.Frag) (C : Addr) : Prop where
  pg : PySem.W.plainGet K C Str.empty = true
  hd : PySem.W.hasDictIn K C = true
  po : PySem.W.plainOver K C = true
  sa : PySem.W.findIn K (.ref C) "__setattr__" = some (some (.builtin "object.__setattr__"))
theorem Cls.get {K : PySem.W.Frag} {C : Addr} (c : Cls K C) (f : Str) : PySem.W.plainGet K C f = true := c.pg
def NoAttr (K : PySem.W.Frag) (C : Addr) (f : Str) : Prop := PySem.W.findIn K (.ref C) f = some none
theorem NoAttr.taker {K : PySem.W.Frag} {C : Addr} {f : Str} (n : NoAttr K C f) : PySem.W.takerIn K C f = some none := by
  unfold PySem.W.takerIn
  rw [show PySem.W.findIn K (.ref C) f = some none from n]
  rfl
structure Con (K : PySem.W.Frag) (C : Addr) (f : Str) (v : V) (u : Value) : Prop where
  at_ : PySem.W.findIn K (.ref C) f = some (some u)
  rel : RelV v u
  get : PySem.W.specialIn K u "__get__" = some none
  cp : PySem.W.copiedNames.contains f = false
structure Meth (K : PySem.W.Frag) (C : Addr) (m : Str) (f : Addr) : Prop where
  at_ : PySem.W.findIn K (.ref C) m = some (some (.ref f))
  fn : PySem.W.isFn K (.ref f) = true
  kp : PySem.W.keepIn K (.ref f) = true
section
variable {X : Cx} {pins : List (Addr × Obj)} {σ : St} {H : Hp} {s : Shared} {a C dx : Addr} {fs : List (Str × V)} {f : Str} {v : V} {A : Around} {E : Value → Shared → Prop}
theorem getattr_ok {b : Bool} {Q : Value → Shared → Prop} (I : Inv X pins σ H s) (e : H a = some (.ins C dx fs)) (c : Cls X.K C) (n : NoAttr X.K C f) (l : fs.lookup f = some v)
    (h : ∀ u s', Inv X pins σ H s' → RelV v u → Q u s') : wpAny (model X.prog X.w) A (getAttr (.ref a) f b) Q E s := by
  obtain ⟨mA, O, r, _, _, _⟩ := ins_get I.hok e
  obtain ⟨u, hu, ru⟩ := RelO.some_of (v := v) (o := mA f) (by rw [← l]; exact r f)
  exact get_map I.kIn O (c.get f) c.hd n hu (handed_of ru) (h u _ (I.tok _) ru)
theorem setattr_ok {y : V} {u : Value} {Q : Unit → Shared → Prop} (I : Inv X pins σ H s) (e : H a = some (.ins C dx fs)) (c : Cls X.K C) (n : NoAttr X.K C f) (hl : fs.length < 1000) (ry : RelV y u)
    (h : ∀ s', Inv X pins σ (upd H a (.ins C dx (putF f y fs))) s' → Q () s') : wpAny (model X.prog X.w) A (setAttr (.ref a) f u) Q E s := by
  obtain ⟨mA, O, r, wi, _, ho⟩ := ins_get I.hok e
  have hz : (fs.map (·.1)).length ≤ sizeLine := by rw [List.length_map, sizeLine_eq]; omega
  refine set_map I.kIn O c.sa c.po n.taker c.hd wi hz fun h' O' sb => h _ ?_
  have hd : ∃ o, h'.get? dx = some o := let ⟨o, _, _, e', _⟩ := O'.ns; ⟨o, e'⟩
  refine I.write (x := a) (e := dx) (by rw [e]; exact True.intro) (.inr ho) (fun b q hb z => (sb.2 b hb).trans z) hd ?_
  refine ⟨by rw [upd_ne O.ne]; exact ho, ?_, O.ne, O'.obj, _, O'.ns, fun g => ?_, fun g hg => ?_⟩
  · have := length_putF f y fs; omega
  · show RelO ((putF f y fs).lookup g) (if g = f then some u else mA g)
    rw [lookup_putF]
    by_cases q : g = f
    · rw [if_pos q, if_pos q]; exact ry
    · rw [if_neg q, if_neg q]; exact r g
  · by_cases q : g = f
    · rw [q]; exact (keys_putF f y fs).1
    · refine (keys_putF f y fs).2 g (wi g fun z => hg ?_)
      show (if g = f then some u else mA g) = none
      rw [if_neg q]; exact z
theorem Inv.made (I : Inv X pins σ H s) : Inv X pins σ (upd (upd H s.heap.objs.size (.own (s.heap.objs.size + 1))) (s.heap.objs.size + 1) (.ins C s.heap.objs.size []))
    { s with heap := (s.heap.push PySem.W.emptyDict).push (PySem.W.instObj C s.heap.objs.size) } := by
  have e1 : (s.heap.push PySem.W.emptyDict).get? s.heap.objs.size = some PySem.W.emptyDict := Heap.get?_push_size s.heap rfl
  have e2 : ((s.heap.push PySem.W.emptyDict).push (PySem.W.instObj C s.heap.objs.size)).get? (s.heap.objs.size + 1) = some (PySem.W.instObj C s.heap.objs.size) := by
    have := Heap.get?_push_size (s.heap.push PySem.W.emptyDict) (o := PySem.W.instObj C s.heap.objs.size) rfl
    rwa [Heap.size_push] at this
  have e3 : (s.heap.push PySem.W.emptyDict).Ns s.heap.objs.size (fun _ => none) := ⟨PySem.W.emptyDict, #[], _, e1, rfl, (fun e he => absurd he (by simp)), fun _ => rfl⟩
  have I1 := I.laid (a := s.heap.objs.size) (o := .own (s.heap.objs.size + 1)) (h' := s.heap.push PySem.W.emptyDict) (t' := s.toks) (fun b u q => Heap.get?_push_of_some _ q) (Nat.le_refl _) ⟨_, e1⟩
  refine I1.laid (a := s.heap.objs.size + 1) (o := .ins C s.heap.objs.size []) (t' := s.toks) (fun b u q => Heap.get?_push_of_some _ q) (Nat.le_of_eq (Heap.size_push _ _)) ?_
  have ne : s.heap.objs.size ≠ s.heap.objs.size + 1 := Nat.ne_of_lt (Nat.lt_succ_self _)
  refine ⟨by rw [upd_ne ne, upd_same], Nat.zero_le _, ne, e2, fun _ => none, (Heap.Ns1.of_empty e3).at fun o q => Heap.get?_push_of_some _ q, fun _ => True.intro, fun y hy => absurd rfl hy⟩
theorem attr_of {prog : Program} {w : World} {env : Env} {e : Expr} {f : Str} {pos : Pos} {s : Shared} {Q : Value → Shared → Prop} (hb : attributeBase e f env (eval e env) = eval e env)
    (h : wpAny (model prog w) A (eval e env) (fun o s₁ => wpAny (model prog w) A (getAttr o f true) Q E s₁) E s) : wpAny (model prog w) A (eval (.Attribute e f pos) env) Q E s :=
  Attribute_any_ h (by rw [arm_eval_Attribute, hb])
end
def tFld (K : PySem.W.Frag) (ta : TE) (f : Str) : TE := fun σ H Q => ta σ H fun x H1 => ∃ a C dx fs v, x = .ref a ∧ H1 a = some (.ins C dx fs) ∧ Cls K C ∧ NoAttr K C f ∧ fs.lookup f = some v ∧ Q v H1
def sFld (K : PySem.W.Frag) (ta tv : TE) (f : Str) : TS := fun D σ H => tv σ H fun y H1 => ta σ H1 fun x H2 => ∃ a C dx fs, x = .ref a ∧ H2 a = some (.ins C dx fs) ∧ Cls K C ∧ NoAttr K C f ∧ fs.length < 1000 ∧
  D.nx σ (upd H2 a (.ins C dx (putF f y fs)))
section
variable {X : Cx} {o e value : Expr} {f : Str} {pos pos' tpos : Pos} {ta tv : TE}
theorem pe_fld (he : PE X e ta) (hb : attributeBase e f X.env (eval e X.env) = eval e X.env) : PE X (.Attribute e f pos) (tFld X.K ta f) := by
  intro pins s σ H Q I h
  refine attr_of hb (thn (he pins s σ H _ I h) fun u s1 ⟨x, H1, I1, rx, a, C, dx, fs, v, ex, ea, c, n, l, q⟩ => ?_)
  subst ex
  obtain rfl : u = Value.ref a := rx
  exact getattr_ok I1 ea c n l fun u' s2 I2 ru => ⟨v, H1, I2, ru, q⟩
theorem ps_fld (ha : PE X o ta) (hv : PE X value tv) (hs : swapsWith value (some (.Attribute o f pos')) pos.line X.env = pure false) : PS X (.Assign [.Attribute o f pos'] value pos) (sFld X.K ta tv f) := by
  intro pins s σ H D I h
  refine plainObj_wpAny_Assign_Attribute (thn (hv pins s σ H _ I h) fun u s1 ⟨y, H1, I1, ry, q⟩ => thn (ha pins s1 σ H1 _ I1 q) fun ov s2 ⟨x, H2, I2, rx, a, C, dx, fs, ex, ea, c, n, l, q2⟩ => ?_) hs
  subst ex
  obtain rfl : ov = Value.ref a := rx
  exact setattr_ok I2 ea c n l ry fun s3 I3 => ⟨σ, _, I3, q2⟩
end
section
variable {X : Cx} {pins : List (Addr × Obj)} {σ : St} {H : Hp} {s : Shared} {A : Around} {E : Value → Shared → Prop} {Q : Value → Shared → Prop} {c : Value} {b : Bool}
inductive TyOf (K : PySem.W.Frag) (H : Hp) : V → Value → Prop where
  | non : TyOf K H .non (.type "NoneType")
  | bl (x : Bool) : TyOf K H (.bl x) (.type "bool")
  | int (i : Int) : TyOf K H (.int i) (.type "int")
  | str (x : Str) : TyOf K H (.str x) (.type "str")
  | flt (x : UInt64) : TyOf K H (.flt x) (.type "float")
  | lst {a : Addr} {xs : List V} (e : H a = some (.lst xs)) : TyOf K H (.ref a) (.type "list")
  | frz {a : Addr} {o : Obj} {xs : List V} (e : H a = some (.frz o (.lst xs))) : TyOf K H (.ref a) (.type "list")
  | tup {a : Addr} {xs : List V} (e : H a = some (.tup xs)) : TyOf K H (.ref a) (.type "tuple")
  | dK {a : Addr} {kvs : List (Key × V)} (e : H a = some (.dK kvs)) : TyOf K H (.ref a) (.type "dict")
  | dT {a : Addr} {kvs : List (List Key × V)} (e : H a = some (.dT kvs)) : TyOf K H (.ref a) (.type "dict")
  | ins {a C dx : Addr} {fs : List (Str × V)} (e : H a = some (.ins C dx fs)) (cl : Cls K C) (ha : PySem.W.findIn K (.ref C) "__class__" = some (some (.builtin "object.__class__")))
      (hn : PySem.W.specialIn K (.builtin "object.__class__") "__get__" = some (some (.builtin "getset_descriptor.__get__"))) (htk : PySem.W.takesIn K (.builtin "object.__class__") = some true)
      (hm : PySem.W.mroIn K C (.type "object") = some true) : TyOf K H (.ref a) (.ref C)
end
end L2
namespace L2
open PySem PySem.Spec PyProof.Rows
structure Room (k : Nat) (A : Around) : Prop where
  hd : A.handled = none
  dp : A.depth + 3 * k + 5 < recursionLimit
  un : A.units + 16 * k + 200 < cLine
theorem Room.mono {j k : Nat} {A : Around} (r : Room k A) (h : j ≤ k) : Room j A := ⟨r.hd, by have := r.dp; omega, by have := r.un; omega⟩
theorem Room.deeper {k : Nat} {A : Around} (r : Room (k + 1) A) (env : Env) : Room k (A.deeper env) :=
  ⟨r.hd, by have := r.dp; show A.depth + 1 + 3 * k + 5 < _; omega, by have := r.un; show A.units + 3 + 16 * k + 200 < _; omega⟩
theorem Room.in1 {k : Nat} {A : Around} (r : Room (k + 1) A) : Room k A.in1 :=
  ⟨r.hd, by have := r.dp; show A.depth + 3 * k + 5 < _; omega, by have := r.un; show A.units + 1 + 16 * k + 200 < _; omega⟩
theorem make_depth {A : Around} {C : Addr} {us : List Value} {kw : List (Str × Value)} : (A.under (.builtin "type.__call__" ⟨.ref C :: us, kw⟩)).depth = A.depth + 1 := by
  first | rfl | simp [Around.under, Code.weight, Code.isCreation, Code.isGuard, Code.isCaller, Code.frames, Code.isFrame, guardIds]
theorem make_units {A : Around} {C : Addr} {us : List Value} {kw : List (Str × Value)} : (A.under (.builtin "type.__call__" ⟨.ref C :: us, kw⟩)).units = A.units + 1 := by
  first | rfl | simp [Around.under, Code.cUnits, Code.frames, Code.isFrame]
theorem Room.make {k : Nat} {A : Around} (r : Room (k + 1) A) (C : Addr) (us : List Value) (kw : List (Str × Value)) : Room k (A.under (.builtin "type.__call__" ⟨.ref C :: us, kw⟩)) :=
  ⟨r.hd, by have := r.dp; rw [make_depth]; omega, by have := r.un; rw [make_units]; omega⟩
theorem Room.depth {k : Nat} {A : Around} (r : Room k A) : A.depth < recursionLimit := by have := r.dp; omega
theorem Room.units {k : Nat} {A : Around} (r : Room k A) : A.units + 64 < cLine := by have := r.un; omega
def tNil : TA := fun _ H Q => Q [] H
def tCons (ta : TE) (tr : TA) : TA := fun σ H Q => ta σ H fun x H1 => tr σ H1 fun xs H2 => Q (x :: xs) H2
section
variable {X : Cx} {e : Expr} {es : List Expr} {te : TE} {t : TA} {pos : Pos}
theorem pa_nil : PA X [] tNil := fun _ _ _ _ H Q I h => Calls.spliced_nil ⟨[], H, I, .nil, h⟩
theorem pa_cons (ha : PE X e te) (hr : PA X es t) (hs : starEach (e :: es) X.env = (false, eval e X.env) :: starEach es X.env := by rfl) : PA X (e :: es) (tCons te t) := by
  intro pos pins s σ H Q I h
  rw [hs]
  show wpAny _ _ (spliced ((false, eval e X.env) :: backTo pos (starEach es X.env))) _ _ s
  refine Calls.spliced_cons (thn (ha pins s σ H _ I h) fun u s1 ⟨x, H1, I1, r1, q1⟩ => ?_)
  exact thn (hr pos pins s1 σ H1 _ I1 q1) fun us s2 ⟨xs, H2, I2, r2, q2⟩ => ⟨x :: xs, H2, I2, .cons r1 r2, q2⟩
def tTup (t : TA) : TE := fun σ H Q => t σ H fun xs H1 => xs.length ≤ sizeLine ∧ ∀ p, H1 p = none → Q (.ref p) (upd H1 p (.tup xs))
def tLst (t : TA) : TE := fun σ H Q => t σ H fun xs H1 => xs.length ≤ sizeLine ∧ ∀ p, H1 p = none → Q (.ref p) (upd H1 p (.lst xs))
theorem pe_tup {x1} (h : PA X es t) : PE X (.Tuple es x1 pos) (tTup t) := by
  intro pins s σ H Q I hq
  refine wpAny_Tuple_spliced (thn (h pos pins s σ H _ I hq) fun us s1 ⟨xs, H1, I1, r, z, q⟩ => ⟨by rw [← r.length]; exact z, ?_⟩)
  have hf : H1 s1.heap.objs.size = none := I1.hok.fresh (Nat.le_refl _)
  refine ⟨.ref s1.heap.objs.size, upd H1 s1.heap.objs.size (.tup xs), I1.laid (t' := s1.toks) (fun b u e => Heap.get?_push_of_some _ e) (Nat.le_refl _) ?_, rfl, q _ hf⟩
  exact ⟨z, us, r, ⟨_, Heap.get?_push_size _ rfl, rfl, _, rfl⟩⟩
theorem pe_lst (h : PA X es t) : PE X (.List es pos) (tLst t) := by
  intro pins s σ H Q I hq
  refine wpAny_List_spliced (thn (h pos pins s σ H _ I hq) fun us s1 ⟨xs, H1, I1, r, z, q⟩ => ⟨by rw [← r.length]; exact z, ?_⟩)
  have hf : H1 s1.heap.objs.size = none := I1.hok.fresh (Nat.le_refl _)
  refine ⟨.ref s1.heap.objs.size, upd H1 s1.heap.objs.size (.lst xs), I1.laid (t' := s1.toks) (fun b u e => Heap.get?_push_of_some _ e) (Nat.le_refl _) ?_, rfl, q _ hf⟩
  exact ⟨z, us, 0, r, Heap.get?_push_size _ rfl⟩
end
abbrev Sp := List V → Hp → VK → XK → Prop
abbrev CXT := List Env → Hp → Shared → XK → Value → Shared → Prop
structure Env0 (P : Program) (w : World) (K : PySem.W.Frag) (mg : Str → Option Value) (base : Heap) (A : Around) (outer : List Env) (s : Shared) (H : Hp) : Prop where
  frames : A.frames = some outer
  mod : Mod K mg base
  bs : ∀ b o, base.get? b = some o → s.heap.get? b = some o ∧ H b = none
  bsz : base.objs.size ≤ s.heap.objs.size
  funs : s.heap.FunFrames base outer
  frf : ∀ b ∈ frs outer, H b = none
  hok : HOk P w H s.heap
  bare : AllBare s.gens
def CE (outer : List Env) (P : Program) (w : World) (H : Hp) (s : Shared) (Q : VK) (u : Value) (s' : Shared) : Prop :=
  ∃ v H', s'.os = s.os ∧ AllBare s'.gens ∧ Un (frs outer) [] H H' s.heap s'.heap ∧ HOk P w H' s'.heap ∧ RelV v u ∧ Q v H'
def CR (CX : CXT) (outer : List Env) (P : Program) (w : World) (H : Hp) (s : Shared) (Q : VK) (E : XK) (r : Result) (s' : Shared) : Prop :=
  match r with
  | .ok (.ret u) => CE outer P w H s Q u s'
  | .ok _ => False
  | .error e => CX outer H s E e s'
structure FnOk (P : Program) (w : World) (K : PySem.W.Frag) (mg : Str → Option Value) (base : Heap) (CX : CXT) (k : Nat) (f : Addr) (fd : FuncData) (ps : List Str) (sp : Sp) : Prop where
  len : ∀ vs H Q E, sp vs H Q E → vs.length = ps.length
  run : ∀ (A : Around) (outer : List Env) (s : Shared) (H : Hp) (args : Args) (us : List Value) (vs : List V) (Q : VK) (E : XK), Room k A → Env0 P w K mg base A outer s H → BindsTo s fd args (ps.zip us) → Vals vs us → sp vs H Q E →
    codeAny (model P w) A (.call (.ref f) args) (CR CX outer P w H s Q E) s
theorem FnOk.mono {P : Program} {w : World} {K : PySem.W.Frag} {mg : Str → Option Value} {base : Heap} {CX : CXT} {j k : Nat} {f : Addr} {fd : FuncData} {ps : List Str} {sp : Sp} (F : FnOk P w K mg base CX j f fd ps sp) (h : j ≤ k) :
    FnOk P w K mg base CX k f fd ps sp := ⟨F.len, fun A outer s H args us vs Q E hr => F.run A outer s H args us vs Q E (hr.mono h)⟩
theorem Env0.make {P : Program} {w : World} {K : PySem.W.Frag} {mg : Str → Option Value} {base : Heap} {A : Around} {outer : List Env} {s : Shared} {H : Hp} (e : Env0 P w K mg base A outer s H) (C : Addr) (us : List Value) (kw : List (Str × Value)) :
    Env0 P w K mg base (A.under (.builtin "type.__call__" ⟨.ref C :: us, kw⟩)) outer s H := ⟨by first | exact e.frames | (simpa [Around.under, Code.envs, Code.isFrame, pushEnvs] using e.frames), e.mod, e.bs, e.bsz, e.funs, e.frf, e.hok, e.bare⟩
theorem Env0.in1 {P : Program} {w : World} {K : PySem.W.Frag} {mg : Str → Option Value} {base : Heap} {A : Around} {outer : List Env} {s : Shared} {H : Hp} (e : Env0 P w K mg base A outer s H) :
    Env0 P w K mg base A.in1 outer s H := ⟨e.frames, e.mod, e.bs, e.bsz, e.funs, e.frf, e.hok, e.bare⟩
section
variable {X : Cx} {pins : List (Addr × Obj)} {σ : St} {H : Hp} {s s' : Shared}
theorem Inv.env0 (I : Inv X pins σ H s) : Env0 X.prog X.w X.K X.mg X.base X.A X.stack s H :=
  ⟨I.ok.frames, I.ok.mod, I.bs, Nat.le_trans I.ok.bsz I.sz, I.stack, I.stkFree, I.hok, I.bare⟩
theorem Inv.after {Q : VK} {u : Value} (I : Inv X pins σ H s) (h : CE X.stack X.prog X.w H s Q u s') : EP X pins σ Q u s' := by
  obtain ⟨v, H', os, bare, un, hok, r, q⟩ := h
  obtain ⟨hh, g, d, t, os'⟩ := s'
  obtain rfl : os' = s.os := os
  exact ⟨v, H', I.call (h' := hh) (g' := g) (d' := d) (t' := t) (ch := []) un hok bare (fun b z => absurd z (by simp)), r, q⟩
end
def tCall (sp : Sp) (dvs : List V) (E : XK) (t : TA) : TE := fun σ H Q => t σ H fun vs H1 => sp (vs ++ dvs) H1 Q E
def tMake (C : Addr) (sp : Sp) (dvs : List V) (E : XK) (t : TA) : TE := fun σ H Q => t σ H fun vs H1 => ∀ x dx, H1 x = none → H1 dx = none → dx ≠ x →
  sp (.ref x :: (vs ++ dvs)) (upd (upd H1 dx (.own x)) x (.ins C dx [])) (fun v H2 => v = .non ∧ Q (.ref x) H2) E
def Binds (K : PySem.W.Frag) (fd : FuncData) (ps : List Str) (ds : List Value) : Prop :=
  ∀ (s : Shared) (us : List Value), K.In s.heap → (us ++ ds).length = ps.length → BindsTo s fd ⟨us, []⟩ (ps.zip (us ++ ds))
theorem Binds.all {K : PySem.W.Frag} {fd : FuncData} {ps : List Str} (h : ∀ us : List Value, us.length = ps.length → bindArgs fd ⟨us, []⟩ = pure (ps.zip us)) : Binds K fd ps [] := fun s us _ hl => by
  rw [List.append_nil] at hl ⊢
  exact .of_eq (h us hl)
def Passes (CX : CXT) (X : Cx) (E : XK) : Prop := ∀ (pins : List (Addr × Obj)) (σ : St) (H : Hp) (s : Shared) (e : Value) (s' : Shared), Inv X pins σ H s → CX X.stack H s E e s' → X.xe e s'
section
variable {X : Cx} {CX : CXT} {k : Nat} {f C : Addr} {fd : FuncData} {ps : List Str} {sp : Sp} {dvs : List V} {ds : List Value} {E : XK} {x m : Str} {p pos apos : Pos} {e o : Expr} {es : List Expr} {ta : TE} {t : TA}
theorem run_fn {pins : List (Addr × Obj)} {σ : St} {H : Hp} {s : Shared} {Q : VK} {us : List Value} {vs : List V} (F : FnOk X.prog X.w X.K X.mg X.base CX k f fd ps sp) (hr : Room k X.A) (hb : Binds X.K fd ps ds) (hd : Vals dvs ds) (hx : Passes CX X E)
    (I : Inv X pins σ H s) (r : Vals vs us) (h : sp (vs ++ dvs) H Q E) : wpAny (model X.prog X.w) X.A (call (.ref f) us) (EP X pins σ Q) X.xe s := by
  have r2 : Vals (vs ++ dvs) (us ++ ds) := r.append hd
  have hl : (us ++ ds).length = ps.length := by rw [← r2.length]; exact F.len _ _ _ _ h
  refine wpAny_call (codeAny_mono (F.run X.A X.stack s H ⟨us, []⟩ (us ++ ds) (vs ++ dvs) Q E hr I.env0 (hb s us I.kIn hl) r2 h) fun r s' hq => ?_)
  cases r with
  | error e => exact hx pins σ H s e s' I hq
  | ok fl =>
    cases fl with
    | ret u => exact I.after hq
    | next => exact False.elim hq
    | brk => exact False.elim hq
    | cont => exact False.elim hq
theorem pe_call (F : FnOk X.prog X.w X.K X.mg X.base CX k f fd ps sp) (hr : Room k X.A) (hg : Gl X x) (hm : X.mg x = some (.ref f)) (hk : PySem.W.keepIn X.K (.ref f) = true) (hb : Binds X.K fd ps ds) (hd : Vals dvs ds) (hx : Passes CX X E)
    (ha : PA X (e :: es) t) (hdb : (x == ("__debug__" : Str)) = false := by decide) (he : starEach (e :: es) X.env = (false, eval e X.env) :: starEach es X.env := by rfl) (hpl : (backTo pos (starEach es X.env)).any (·.1) = false := by rfl) :
    PE X (.Call (.Name x p) (e :: es) [] pos) (tCall sp dvs E t) := by
  intro pins s σ H Q I h
  refine wpAny_Call_Name_kw (ld_glob I hg hm ?_ hdb)
  refine PySem.W.callWith_K (h₀ := X.base) I.ok.mod.kin hk (thn (ha pos pins s σ H _ I h) fun us s1 ⟨vs, H1, I1, r, q⟩ => ⟨I1.kIn, ?_⟩) he hpl
  exact run_fn F hr hb hd hx I1 r q
structure Mk (K : PySem.W.Frag) (C f : Addr) : Prop where
  makes : PySem.W.makesIn K C = true
  init : PySem.W.findIn K (.ref C) "__init__" = some (some (.ref f))
  fn : PySem.W.isFn K (.ref f) = true
  kp : PySem.W.keepIn K (.ref C) = true
theorem run_make {pins : List (Addr × Obj)} {σ : St} {H : Hp} {s : Shared} {Q : VK} {us : List Value} {vs : List V} (M : Mk X.K C f) (F : FnOk X.prog X.w X.K X.mg X.base CX k f fd ps sp) (hr : Room (k + 1) X.A) (hb : Binds X.K fd ps ds) (hd : Vals dvs ds)
    (hx : Passes CX X E) (I : Inv X pins σ H s) (r : Vals vs us)
    (h : ∀ x dx, H x = none → H dx = none → dx ≠ x → sp (.ref x :: (vs ++ dvs)) (upd (upd H dx (.own x)) x (.ins C dx [])) (fun v H2 => v = .non ∧ Q (.ref x) H2) E) :
    wpAny (model X.prog X.w) X.A (call (.ref C) us) (EP X pins σ Q) X.xe s := by
  have hq := h (s.heap.objs.size + 1) s.heap.objs.size (I.hok.fresh (Nat.le_succ _)) (I.hok.fresh (Nat.le_refl _)) (Nat.ne_of_lt (Nat.lt_succ_self _))
  have I2 := Inv.made (C := C) I
  have r2 : Vals (V.ref (s.heap.objs.size + 1) :: (vs ++ dvs)) (Value.ref (s.heap.objs.size + 1) :: (us ++ ds)) := .cons rfl (r.append hd)
  have hl : (Value.ref (s.heap.objs.size + 1) :: us ++ ds).length = ps.length := by
    have e := r2.length
    rw [F.len _ _ _ _ hq] at e
    exact e.symm
  refine wpAny_call (make_map (f := f) I.kIn M.makes M.init (beq_iff_eq.mp M.fn) (codeAny_mono (F.run _ X.stack _ _ ⟨Value.ref (s.heap.objs.size + 1) :: us, []⟩ (Value.ref (s.heap.objs.size + 1) :: (us ++ ds)) _ _ E (hr.make C us [])
    (I2.env0.make C us []) (hb _ (Value.ref (s.heap.objs.size + 1) :: us) I2.kIn hl) r2 hq) fun r s' hq' => ?_))
  cases r with
  | error e => exact hx pins σ _ _ e s' I2 hq'
  | ok fl =>
    cases fl with
    | ret u =>
      obtain ⟨v, H', I3, rv, ev, q3⟩ := I2.after hq'
      subst ev
      exact ⟨rv, ⟨V.ref (s.heap.objs.size + 1), H', I3, rfl, q3⟩⟩
    | next => exact False.elim hq'
    | brk => exact False.elim hq'
    | cont => exact False.elim hq'
theorem pe_make0 (M : Mk X.K C f) (F : FnOk X.prog X.w X.K X.mg X.base CX k f fd ps sp) (hr : Room (k + 1) X.A) (hg : Gl X x) (hm : X.mg x = some (.ref C)) (hb : Binds X.K fd ps ds) (hd : Vals dvs ds) (hx : Passes CX X E)
    (hdb : (x == ("__debug__" : Str)) = false := by decide) : PE X (.Call (.Name x p) [] [] pos) (tMake C sp dvs E tNil) := by
  intro pins s σ H Q I h
  refine wpAny_Call_Name_kw (ld_glob I hg hm ?_ hdb)
  exact PySem.W.callWith_K0 I.kIn M.kp (run_make (us := []) M F hr hb hd hx I .nil h)
end
section
variable {X : Cx} {CX : CXT} {k : Nat} {f C : Addr} {fd : FuncData} {ps ks : List Str} {sp : Sp} {E : XK} {x m : Str} {p pos apos kpos : Pos} {e o : Expr} {es : List Expr} {kws : List Keyword} {te ta : TE} {t tk : TA} {nm : Option Str}
structure KBinds (K : PySem.W.Frag) (fd : FuncData) (ps ks : List Str) (g : List Value → List Value → List Value) (gV : List V → List V → List V) : Prop where
  to : ∀ (s : Shared) (us ws : List Value), K.In s.heap → (g us ws).length = ps.length → BindsTo s fd ⟨us, ks.zip ws⟩ (ps.zip (g us ws))
  rel : ∀ {vs : List V} {us : List Value} {zs : List V} {ws : List Value}, Vals vs us → Vals zs ws → Vals (gV vs zs) (g us ws)
variable {g : List Value → List Value → List Value} {gV : List V → List V → List V}
end
structure FnScope (N P : List Str) (sc : Scope) : Prop where
  kind : sc.kind = .function
  co : sc.isCoroutine = false
  gen : sc.isGenerator = false
  nd : N.Nodup
  pre : N.take P.length = P
  par : ∀ x ∈ P, sc.names.lookup x = some .local ∨ sc.names.lookup x = some .cell
  nofree : ∀ y ∈ sc.names, y.2 ≠ .free
theorem bindL_out {kindOf : Str → Option NameKind} {x : Str} : ∀ {binds : List (Str × Value)} {m : Str → Option Value}, (∀ v, (x, v) ∉ binds) → bindL kindOf binds m x = m x
  | [], _, _ => rfl
  | (n, v) :: r, m, h => by
    unfold bindL
    rw [bindL_out fun w hw => h w (List.mem_cons_of_mem _ hw)]
    split
    · have : x ≠ n := by rintro rfl; exact h v List.mem_cons_self
      simp [this]
    · rfl
theorem bindC_out {kindOf : Str → Option NameKind} {x : Str} : ∀ {binds : List (Str × Value)} {m : Str → Option Value}, (∀ v, (x, v) ∉ binds) → bindC kindOf binds m x = m x
  | [], _, _ => rfl
  | (n, v) :: r, m, h => by
    unfold bindC
    rw [bindC_out fun w hw => h w (List.mem_cons_of_mem _ hw)]
    split
    · rfl
    · have : x ≠ n := by rintro rfl; exact h v List.mem_cons_self
      simp [this]
theorem bindL_get {kindOf : Str → Option NameKind} {x : Str} {v : Value} : ∀ {P : List Str} {vs : List Value} {i : Nat} {m : Str → Option Value}, P.Nodup → P[i]? = some x → vs[i]? = some v → kindOf x = some .local →
    bindL kindOf (P.zip vs) m x = some v
  | [], _, _, _, _, h, _, _ => by simp at h
  | _ :: _, [], _, _, _, _, h, _ => by simp at h
  | p :: P, w :: vs, 0, m, nd, h1, h2, hk => by
    simp at h1 h2; subst h1; subst h2
    show bindL kindOf ((p, w) :: P.zip vs) m p = _
    unfold bindL
    rw [bindL_out fun v hv => (List.nodup_cons.mp nd).1 (List.of_mem_zip hv).1, if_pos hk]
    simp
  | p :: P, w :: vs, i + 1, m, nd, h1, h2, hk => by
    show bindL kindOf ((p, w) :: P.zip vs) m x = _
    unfold bindL
    exact bindL_get (i := i) (List.nodup_cons.mp nd).2 (by simpa using h1) (by simpa using h2) hk
theorem bindC_get {kindOf : Str → Option NameKind} {x : Str} {v : Value} : ∀ {P : List Str} {vs : List Value} {i : Nat} {m : Str → Option Value}, P.Nodup → P[i]? = some x → vs[i]? = some v → kindOf x ≠ some .local →
    bindC kindOf (P.zip vs) m x = some v
  | [], _, _, _, _, h, _, _ => by simp at h
  | _ :: _, [], _, _, _, _, h, _ => by simp at h
  | p :: P, w :: vs, 0, m, nd, h1, h2, hk => by
    simp at h1 h2; subst h1; subst h2
    show bindC kindOf ((p, w) :: P.zip vs) m p = _
    unfold bindC
    rw [bindC_out fun v hv => (List.nodup_cons.mp nd).1 (List.of_mem_zip hv).1, if_neg hk]
    simp
  | p :: P, w :: vs, i + 1, m, nd, h1, h2, hk => by
    show bindC kindOf ((p, w) :: P.zip vs) m x = _
    unfold bindC
    exact bindC_get (i := i) (List.nodup_cons.mp nd).2 (by simpa using h1) (by simpa using h2) hk
def start (N : List Str) (vs : List V) : St := vs.map some ++ List.replicate (N.length - vs.length) none
def cxOf (CX : CXT) (P : Program) (w : World) (K : PySem.W.Frag) (mg : Str → Option Value) (base : Heap) (N : List Str) (qual : Str) (scope : Scope) (f : Addr) (cd : Value) (A : Around) (outer : List Env) (s : Shared) (H : Hp) (E : XK) : Cx where
  prog := P
  w := w
  K := K
  mg := mg
  base := base
  A := A.deeper (envOfC qual scope s.heap.objs.size f cd)
  N := N
  s_0 := s
  H_0 := H
  env := envOfC qual scope s.heap.objs.size f cd
  outer := outer
  stack := envOfC qual scope s.heap.objs.size f cd :: outer
  ex := []
  calm := true
  fn := fun _ => true
  pn := []
  xe := fun e s' => wpAny (model P w) (A.deeper (envOfC qual scope s.heap.objs.size f cd)) (leaving (envOfC qual scope s.heap.objs.size f cd) e) (fun _ s'' => CX outer H s E e s'') (fun e' s'' => CX outer H s E e' s'') s'
theorem cell_has {sc : Scope} {n : Nat} {x : Str} (h : sc.names.lookup x = some .cell) : ∃ c, (cellsFrom n sc.names []).lookup x = some c := by
  have q := PySem.W.cellsFrom_some sc.names n [] (.inl h)
  exact Option.isSome_iff_exists.mp q
theorem inv_start {CX : CXT} {P : Program} {w : World} {K : PySem.W.Frag} {mg : Str → Option Value} {base : Heap} {N ps : List Str} {qual : Str} {scope : Scope} {f : Addr} {cd : Value} {A : Around} {outer : List Env} {s s1 : Shared} {H : Hp} {E : XK} {us : List Value} {vs : List V}
    (S : FnScope N ps scope) (hd : A.handled = none) (e0 : Env0 P w K mg base A outer s H) (hl : vs.length = ps.length) (r : Vals vs us)
    (x : InCallC s s.heap.objs.size (bindL (envOfC qual scope s.heap.objs.size f cd).kindOf (ps.zip us) fun _ => none) (cellsFrom (s.heap.objs.size + 1) scope.names []) (bindC (envOfC qual scope s.heap.objs.size f cd).kindOf (ps.zip us) fun _ => none) s1) :
    Inv (cxOf CX P w K mg base N qual scope f cd A outer s H E) [] (start N vs) H s1 := by
  have hpl : ps.length ≤ N.length := by have := congrArg List.length S.pre; rw [List.length_take] at this; omega
  obtain ⟨h1, tk, rfl, hk⟩ := x.done
  have noA : ∀ b : Addr, b ∉ (cxOf CX P w K mg base N qual scope f cd A outer s H E).ex := fun b z => absurd (show b ∈ ([] : List Addr) from z) (by simp)
  refine ⟨⟨e0.mod, S.kind, rfl, rfl, Nat.le_refl _, fun y z c h1 h2 => ?_, fun y hy => ?_, fun y c _ h => ?_, fun _ => hd, Around.frames_deeper e0.frames, .inr ⟨rfl, rfl⟩, fun b z => absurd z (noA b), e0.bs, e0.bsz, fun b _ _ => noA b, fun b z => absurd z (noA b), e0.funs, e0.frf⟩,
    rfl, e0.bare, Un.kept hk, ⟨_, x.toInCall.ns, fun i y v h1 h2 h3 => ?_⟩, fun y c h => ⟨_, x.cell y c h⟩, e0.hok.fresh (Nat.le_refl _), fun y c h => ?_, fun p hp => absurd (show p ∈ ([] : List (Addr × Obj)) from hp) (by simp), e0.hok.kept hk, ?_⟩
  · exact name_of_addr x.apart (PySem.mem_of_lookup h1) (PySem.mem_of_lookup h2)
  · have hy : scope.names.lookup y = some .cell ∨ scope.names.lookup y = some .free := hy
    rcases hy with hy | hy
    · exact cell_has hy
    · exact absurd rfl (S.nofree _ (PySem.mem_of_lookup hy))
  · exact Nat.le_of_lt (x.above y c (PySem.mem_of_lookup h))
  · have hi : i < vs.length := by
      unfold start at h2
      by_cases hi : i < vs.length
      · exact hi
      · rw [List.getElem?_append_right (by simpa using hi)] at h2
        rw [List.getElem?_replicate] at h2
        split at h2 <;> cases h2
    have ha : vs[i]? = some v := by
      unfold start at h2
      rw [List.getElem?_append_left (by simpa using hi), List.getElem?_map] at h2
      cases e : vs[i]? with
      | none => rw [e] at h2; cases h2
      | some a => rw [e] at h2; cases h2; rfl
    obtain ⟨u, hu, rv⟩ := r.get ha
    have hp : ps[i]? = some y := by
      rw [← S.pre, List.getElem?_take_of_lt (by omega)]; exact h1
    have ndP : ps.Nodup := by rw [← S.pre]; exact S.nd.sublist (List.take_sublist _ _)
    refine ⟨u, rv, ?_⟩
    rcases S.par y (List.mem_of_getElem? hp) with k | k
    · exact .inl ⟨k, bindL_get ndP hp hu k⟩
    · obtain ⟨c, e⟩ := cell_has (n := s.heap.objs.size + 1) k
      refine .inr ⟨.inl k, c, e, ?_⟩
      have q := x.cell y c e
      rw [bindC_get ndP hp hu (by show scope.names.lookup y ≠ _; rw [k]; decide)] at q
      exact q
  · exact e0.hok.fresh (Nat.le_of_lt (x.above y c (PySem.mem_of_lookup h)))
  · unfold start
    show _ = N.length
    rw [List.length_append, List.length_map, List.length_replicate]
    omega
theorem fn_of {CX : CXT} {P : Program} {w : World} {K : PySem.W.Frag} {mg : Str → Option Value} {base : Heap} {k : Nat} {f : Addr} {name qual : Str} {params : Arguments} {body : List Stmt} {scope : Scope} {dV kV doc pm cdv ct oc : Value} {an od : Option Addr}
    {osl : Array (Option Value)} {N ps : List Str} {sp : Sp} (lk : K.lookup f = some ⟨oc, od, .func (PySem.W.fnOf name qual params body scope dV kV doc pm an cdv ct), osl⟩) (hcd : PySem.W.codeIn K cdv qual = true) (S : FnScope N ps scope)
    (len : ∀ vs H Q E, sp vs H Q E → vs.length = ps.length)
    (hbody : ∀ (A : Around) (outer : List Env) (s : Shared) (H : Hp) (vs : List V) (Q : VK) (E : XK), Room k (A.deeper (envOfC qual scope s.heap.objs.size f cdv)) → sp vs H Q E →
      ∃ t, PSs (cxOf CX P w K mg base N qual scope f cdv A outer s H E) body t ∧ t { nx := fun _ H' => Q .non H', rt := Q } (start N vs) H) :
    FnOk P w K mg base CX (k + 1) f (PySem.W.fnOf name qual params body scope dV kV doc pm an cdv ct) ps sp := by
  refine ⟨len, fun A outer s H args us vs Q E hr e0 hb r hsp => ?_⟩
  have hl := len _ _ _ _ hsp
  have KX : K.In s.heap := e0.mod.kin.keeps fun b o e => (e0.bs b o e).1
  have lim : s.heap.NoLimit := e0.mod.nolimit.keeps fun b o e => (e0.bs b o e).1
  have hkind : ∀ y ∈ ps.zip us, scope.names.lookup y.1 = some .local ∨ (scope.names.lookup y.1 = some .cell ∧ ((cellsFrom (s.heap.objs.size + 1) scope.names []).lookup y.1).isSome = true) := fun ⟨n, v⟩ hy => by
    rcases S.par n (List.of_mem_zip hy).1 with q | q
    · exact .inl q
    · exact .inr ⟨q, PySem.W.cellsFrom_some _ _ _ (.inl q)⟩
  refine codeAny_call_function hr.depth (KX _ _ lk) rfl S.co S.gen rfl (PySem.W.codeRec_of KX hcd) (hb _ _ _ _ ?_)
  refine wpAny_newFunctionEnv_cells S.kind hkind fun env he s1 x => ?_
  subst he
  refine ⟨lim.keeps x.toInCall.keep, codeAny_func ?_⟩
  obtain ⟨t, ht, hq⟩ := hbody A outer s H vs Q E (hr.deeper _) hsp
  have I : Inv (cxOf CX P w K mg base N qual scope f cdv A outer s H E) [] (start N vs) H s1 := inv_start S hr.hd e0 hl r x
  refine wpAny_mono (ht [] s1 (start N vs) H _ I hq) (fun fl s' hs => ?_) fun e s' hs => hs
  have fin : ∀ {σ' : St} {H' : Hp} {v : V} {u : Value}, Inv (cxOf CX P w K mg base N qual scope f cdv A outer s H E) [] σ' H' s' → RelV v u → Q v H' → CE outer P w H s Q u s' :=
    fun {σ' H' v u} J rv q => ⟨v, H', J.os, J.bare, J.base, J.hok, rv, q⟩
  cases fl with
  | ret u =>
    obtain ⟨v, σ', H', J, rv, q⟩ := hs
    exact fin J rv q
  | next =>
    obtain ⟨σ', H', J, q⟩ := hs
    exact fin (v := V.non) (u := Value.none) J rfl q
  | brk =>
    obtain ⟨_, _, _, q⟩ := hs
    exact False.elim q
  | cont =>
    obtain ⟨_, _, _, q⟩ := hs
    exact False.elim q
end L2
namespace L2
open PySem PySem.Spec PyProof.Rows
section
variable {X : Cx} {x : Str} {p pos : Pos} {e : Expr} {es : List Expr} {t : TA} {id T : String} {r : List V → Hp → VK → Prop}
def tCB (r : List V → Hp → VK → Prop) (t : TA) : TE := fun σ H Q => t σ H fun vs H1 => r vs H1 Q
theorem pe_callB (hc : CallR X (.builtin id) r) (hg : Gl X x) (hm : X.mg x = none) (hv : bootBuiltins x = some (.builtin id)) (ha : PA X (e :: es) t) (hn : x ≠ "__name__" := by decide) (hdb : (x == ("__debug__" : Str)) = false := by decide)
    (he : starEach (e :: es) X.env = (false, eval e X.env) :: starEach es X.env := by rfl) (hpl : (backTo pos (starEach es X.env)).any (·.1) = false := by rfl) : PE X (.Call (.Name x p) (e :: es) [] pos) (tCB r t) := by
  intro pins s σ H Q I h
  refine wpAny_Call_Name_kw (ld_blt I hg hm hv ?_ hn hdb)
  exact PyProof.Rows.callWith_builtin1 (thn (ha pos pins s σ H _ I h) fun us s1 ⟨vs, H1, I1, r1, q1⟩ => hc pins s1 σ H1 vs us Q I1 r1 q1) he hpl
end
end L2
namespace HT
open PySem PyProof.Rows
section
open PySem.SeqAt
open PySem.AutoSeq1 (wpAny_loadPart')
open PySem.MeetsSeq PySem.MeetsSeq2 PySem.MeetsSeq3
end
section
variable {prog : Program} {w : World} {A : Around} {E : Value → Shared → Prop} {s : Shared}
end
end HT
namespace L2
open PySem PySem.Spec PyProof.Rows
abbrev TO := St → Hp → (Option Int → Hp → Prop) → Prop
section
variable {X : Cx} {e : Expr} {te : TE} {lo hi : Option Expr} {tl th : TO} {pos p2 : Pos}
def SlR (X : Cx) (r : V → Option Int → Option Int → Hp → VK → Prop) : Prop :=
  ∀ (pins : List (Addr × Obj)) (s : Shared) (σ : St) (H : Hp) (x : V) (v vl vu : Value) (lo hi : Option Int) (sl : Addr) (Q : VK), Inv X pins σ H s → RelV x v → s.heap.IsSliceOf sl vl vu .none → IsPart vl lo → IsPart vu hi → r x lo hi H Q →
    ∃ T id, typeLookup (.type T) "__getitem__" = pure (some (.builtin id)) ∧ s.TypeIs v T ∧ wpAny (model X.prog X.w) X.A (getItem v (.ref sl)) (EP X pins σ Q) X.xe s
theorem SlR.or {r r' : V → Option Int → Option Int → Hp → VK → Prop} (h : SlR X r) (h' : SlR X r') : SlR X (fun x lo hi H Q => r x lo hi H Q ∨ r' x lo hi H Q) := by
  intro pins s σ H x v vl vu lo hi sl Q I rx hs pl pu q
  rcases q with q | q
  · exact h pins s σ H x v vl vu lo hi sl Q I rx hs pl pu q
  · exact h' pins s σ H x v vl vu lo hi sl Q I rx hs pl pu q
end
end L2
namespace L2
open PySem PySem.Spec PyProof.Rows
def ixN (n : Nat) (i : Int) : Option Nat := if 0 ≤ i then (if i < n then some i.toNat else none) else if -(n : Int) ≤ i then some (i + n).toNat else none
def atI {α : Type} (xs : List α) (i : Int) : Option α := (ixN xs.length i).bind fun j => xs[j]?
theorem ixN_seq {n : Nat} {i : Int} {j : Nat} (h : ixN n i = some j) : seqIndex? i n = some j ∧ j < n ∧ -(n : Int) ≤ i ∧ i < n := by
  unfold ixN at h
  by_cases h0 : 0 ≤ i
  · rw [if_pos h0] at h
    by_cases h1 : i < n
    · rw [if_pos h1] at h
      have e : i.toNat = j := Option.some.inj h
      exact ⟨by rw [seqIndex_of h0 h1, e], by omega, by omega, h1⟩
    · rw [if_neg h1] at h; cases h
  · rw [if_neg h0] at h
    by_cases h1 : -(n : Int) ≤ i
    · rw [if_pos h1] at h
      have e : (i + n).toNat = j := Option.some.inj h
      exact ⟨by rw [seqIndex_neg (by omega) h1, e], by omega, h1, by omega⟩
    · rw [if_neg h1] at h; cases h
theorem atI_get {α : Type} {xs : List α} {i : Int} {v : α} (h : atI xs i = some v) : ∃ j, seqIndex? i xs.length = some j ∧ xs[j]? = some v ∧ j < xs.length ∧ -(xs.length : Int) ≤ i ∧ i < xs.length := by
  unfold atI at h
  cases e : ixN xs.length i with
  | none => rw [e] at h; cases h
  | some j =>
    rw [e] at h
    obtain ⟨h1, h2, h3, h4⟩ := ixN_seq e
    exact ⟨j, h1, h, h2, h3, h4⟩
theorem atI_nat {α : Type} {xs : List α} {j : Nat} {v : α} (h : xs[j]? = some v) : atI xs (j : Int) = some v := by
  have hj : j < xs.length := (List.getElem?_eq_some_iff.mp h).1
  have e : ixN xs.length (j : Int) = some j := by
    unfold ixN
    rw [if_pos (by omega), if_pos (by omega)]; simp
  unfold atI; rw [e]; exact h
def PlainIx (b : Expr) : Prop := ∀ o i, subscripted b false o i = operate [o, i] (getItem o i)
def IxR (X : Cx) (r : R2) : Prop :=
  ∀ (value slice : Expr) (pins : List (Addr × Obj)) (s : Shared) (σ : St) (H : Hp) (x y : V) (v u : Value) (Q : VK), Inv X pins σ H s → RelV x v → RelV y u → r x y H Q →
    subscripted slice false v u = operate [v, u] (getItem v u) → wpAny (model X.prog X.w) X.A (subscriptTail value slice v u) (EP X pins σ Q) X.xe s
def MtR (X : Cx) (id : String) (r : V → List V → Hp → VK → Prop) : Prop :=
  ∀ (pins : List (Addr × Obj)) (s : Shared) (σ : St) (H : Hp) (x : V) (xs : List V) (v : Value) (us : List Value) (Q : VK), Inv X pins σ H s → RelV x v → Vals xs us → r x xs H Q →
    wpAny (model X.prog X.w) X.A (call (.builtin id) (v :: us)) (EP X pins σ Q) X.xe s
section
variable {X : Cx} {a b : Expr} {ta tb : TE} {pos : Pos}
theorem IxR.or {r r' : R2} (h : IxR X r) (h' : IxR X r') : IxR X (fun x y H Q => r x y H Q ∨ r' x y H Q) := by
  intro value slice pins s σ H x y v u Q I rx ry q hs
  rcases q with q | q
  · exact h value slice pins s σ H x y v u Q I rx ry q hs
  · exact h' value slice pins s σ H x y v u Q I rx ry q hs
theorem MtR.or {id : String} {r r' : V → List V → Hp → VK → Prop} (h : MtR X id r) (h' : MtR X id r') : MtR X id (fun x xs H Q => r x xs H Q ∨ r' x xs H Q) := by
  intro pins s σ H x xs v us Q I rx rs q
  rcases q with q | q
  · exact h pins s σ H x xs v us Q I rx rs q
  · exact h' pins s σ H x xs v us Q I rx rs q
theorem pe_ix {r : R2} (hr : IxR X r) (ha : PE X a ta) (hb : PE X b tb) (hs : PlainIx b) : PE X (.Subscript a b pos) (tOp r ta tb) := by
  intro pins s σ H Q I h
  exact Subscript_ (binT ha hb I h fun v u s2 x y H2 I2 rx ry q => hr a b pins s2 σ H2 x y v u Q I2 rx ry q (hs _ _))
def rIxL (K : PySem.W.Frag) : R2 := fun x y H Q => ∃ p xs i v, x = .ref p ∧ y = .int i ∧ SqL K H p xs ∧ atI xs i = some v ∧ Q v H
def rIxT (K : PySem.W.Frag) : R2 := fun x y H Q => ∃ p xs i v, x = .ref p ∧ y = .int i ∧ SqT K H p xs ∧ atI xs i = some v ∧ Q v H
theorem ix_list : IxR X (rIxL X.K) := by
  intro value slice pins s σ H x y v u Q I rx ry h hs
  obtain ⟨p, xs, i, z, rfl, rfl, hq, he, q⟩ := h
  cases rx
  obtain ⟨t, rfl⟩ := ry
  obtain ⟨its, r, pl, hz⟩ := I.list hq
  obtain ⟨j, h1, h2, h3, h4, h5⟩ := atI_get he
  obtain ⟨w, ew, rw'⟩ := r.get h2
  have hl := r.length
  have hn := line63
  have fin : EP X pins σ Q w s := ⟨z, H, I, rw', q⟩
  by_cases h0 : 0 ≤ i
  · have hj : i.toNat = j := by
      rw [seqIndex_of h0 h5] at h1
      exact Option.some.inj h1
    exact item_listR pl.isList h0 (by omega) (by rw [hj]; simpa using ew) fin hs
  · have hj : (i + (its.toArray.size : Int)).toNat = j := by
      rw [seqIndex_neg (by omega) h4] at h1
      rw [List.size_toArray, ← hl]
      exact Option.some.inj h1
    exact subscriptTail_builtinR (x := w) pl.isList.typeIs slot_list_getitem.lookup
      (wpAny_getItem_list_neg (Q := fun r s' => r = w ∧ EP X pins σ Q r s') pl.isList (by omega) (by rw [List.size_toArray] <;> omega) (by omega) (by rw [hj]; simpa using ew) ⟨rfl, fin⟩) hs
theorem ix_tup : IxR X (rIxT X.K) := by
  intro value slice pins s σ H x y v u Q I rx ry h hs
  obtain ⟨p, xs, i, z, rfl, rfl, hq, he, q⟩ := h
  cases rx
  obtain ⟨t, rfl⟩ := ry
  obtain ⟨its, r, pl, hz⟩ := I.tuple hq
  obtain ⟨j, h1, h2, h3, h4, h5⟩ := atI_get he
  obtain ⟨w, ew, rw'⟩ := r.get h2
  have hl := r.length
  have hn := line63
  have fin : EP X pins σ Q w s := ⟨z, H, I, rw', q⟩
  exact subscriptTail_builtinR (x := w) pl.typeIs slot_tuple_getitem.lookup
    (getItem_tuple (j := j) (Q := fun r s' => r = w ∧ EP X pins σ Q r s') pl (by omega) (by omega) (by rw [List.size_toArray, ← hl]; exact h1) (by simpa using ew) ⟨rfl, fin⟩) hs
theorem mapSeq_set (its : List Value) (n j : Nat) (u : Value) : Obj.mapSeq (·.setIfInBounds j u) { cls := .type "list", data := .seq its.toArray n } = { cls := .type "list", data := .seq (its.set j u).toArray n } := by
  simp [Obj.mapSeq]
theorem Inv.lst {pins : List (Addr × Obj)} {σ : St} {H : Hp} {s : Shared} {p : Addr} {xs : List V} (I : Inv X pins σ H s) (h : H p = some (.lst xs)) :
    ∃ (its : List Value) (n : Nat), Vals xs its ∧ s.heap.get? p = some { cls := .type "list", data := .seq its.toArray n } ∧ xs.length ≤ sizeLine := by
  obtain ⟨z, its, n, r, e⟩ := I.hok p _ h
  exact ⟨its, n, r, e, z⟩
theorem Inv.lstUpd {pins : List (Addr × Obj)} {σ : St} {H : Hp} {s : Shared} {p : Addr} {xs ys : List V} {its its' : List Value} {n n' : Nat} {f : Obj → Obj} (I : Inv X pins σ H s) (h : H p = some (.lst xs))
    (ho : s.heap.get? p = some { cls := .type "list", data := .seq its.toArray n }) (hf : f { cls := .type "list", data := .seq its.toArray n } = { cls := .type "list", data := .seq its'.toArray n' }) (r : Vals ys its') (hz : ys.length ≤ sizeLine) (t : Nat) :
    Inv X pins σ (upd H p (.lst ys)) { s with heap := s.heap.update p f, toks := t } := by
  have e : (s.heap.update p f).get? p = some { cls := .type "list", data := .seq its'.toArray n' } := by
    rw [Heap.get?_update_self f ho (by rw [hf] <;> rfl), hf]
  refine I.write (x := p) (e := p) (by rw [h]; trivial) (.inl rfl) (fun b u hb q => (Heap.get?_update_other _ _ (Ne.symm hb)).trans q) ⟨_, e⟩ ?_
  exact ⟨hz, its', n', r, e⟩
def rSetL : V → V → V → Hp → (Hp → Prop) → Prop := fun o i v H Q => ∃ p xs k j, o = .ref p ∧ i = .int k ∧ H p = some (.lst xs) ∧ ixN xs.length k = some j ∧ Q (upd H p (.lst (xs.set j v)))
theorem set_list : PSet X rSetL := by
  intro pins s σ H o i v ov iv u Q I ro ri rv h
  obtain ⟨p, xs, k, j, rfl, rfl, hp, hj, q⟩ := h
  cases ro
  obtain ⟨t, rfl⟩ := ri
  obtain ⟨its, n, r, ho, hz⟩ := I.lst hp
  obtain ⟨h1, h2, h3, h4⟩ := ixN_seq hj
  have hl := r.length
  have hn := line63
  have I' : Inv X pins σ (upd H p (.lst (xs.set j v))) { s with heap := s.heap.update p (Obj.mapSeq (·.setIfInBounds j u)) } :=
    I.lstUpd hp ho (mapSeq_set its n j u) (r.set rv j) (by rw [List.length_set]; exact hz) s.toks
  by_cases h0 : 0 ≤ k
  · have hk : k.toNat = j := by
      rw [seqIndex_of h0 h4] at h1
      exact Option.some.inj h1
    exact PySem.W.ki_setAt ho h0 (by omega) (by rw [List.size_toArray, ← hl]; exact h4) (by rw [hk]; exact ⟨_, I', q⟩)
  · have hk : (k + (its.toArray.size : Int)).toNat = j := by
      rw [seqIndex_neg (by omega) h3] at h1
      rw [List.size_toArray, ← hl]
      exact Option.some.inj h1
    exact PySem.W.ki_setBack ho (by omega) (by rw [List.size_toArray, ← hl]; exact h3) (by omega) (by rw [hk]; exact ⟨_, I', q⟩)
theorem call_len_seq : CallR X (.builtin "len") (fun xs H Q => ∃ p ys, xs = [.ref p] ∧ (SqL X.K H p ys ∨ SqT X.K H p ys) ∧ Q (.int ys.length) H) := by
  intro pins s σ H xs us Q I r h
  obtain ⟨p, ys, rfl, hq, q⟩ := h
  obtain ⟨u, rfl, rx⟩ := vals1 r
  cases rx
  have hn := line63
  rcases hq with hq | hq
  · obtain ⟨its, r', pl, hz⟩ := I.list hq
    have hlen := r'.length
    exact Calls.call_len_list pl.isList (by simp only [List.size_toArray] <;> omega) ⟨.int ys.length, H, I.tok _, ⟨s.toks + 1, by rw [List.size_toArray, hlen]⟩, q⟩
  · obtain ⟨its, r', pl, hz⟩ := I.tuple hq
    have hlen := r'.length
    exact len_tuple pl (by simp only [List.size_toArray] <;> omega) ⟨.int ys.length, H, I.tok _, ⟨s.toks + 1, by rw [List.size_toArray, hlen]⟩, q⟩
theorem CallR.or {f : Value} {r r' : List V → Hp → VK → Prop} (h : CallR X f r) (h' : CallR X f r') : CallR X f (fun xs H Q => r xs H Q ∨ r' xs H Q) := by
  intro pins s σ H xs us Q I rs q
  rcases q with q | q
  · exact h pins s σ H xs us Q I rs q
  · exact h' pins s σ H xs us Q I rs q
def tyV (K : PySem.W.Frag) (T : String) (x : V) (H : Hp) : Prop := match x with
  | .str _ => T = "str"
  | .int _ => T = "int"
  | .ref p => (T = "list" ∧ ∃ xs, SqL K H p xs) ∨ (T = "tuple" ∧ ∃ o, K.lookup p = some o ∧ o.cls = .type "tuple" ∧ o.dict = none) ∨
      (T = "dict" ∧ ((∃ kvs, H p = some (.dK kvs)) ∨ ∃ kvs, H p = some (.dT kvs))) ∨ (T = "set" ∧ ∃ S n, H p = some (.set S n))
  | _ => False
theorem tyV_is {pins : List (Addr × Obj)} {σ : St} {H : Hp} {s : Shared} {T : String} {x : V} {v : Value} (I : Inv X pins σ H s) (r : RelV x v) (ty : tyV X.K T x H) :
    s.TypeIs v T ∧ ∀ a, v = .ref a → ∃ ob, s.heap.get? a = some ob ∧ ob.dict = none := by
  cases x with
  | str z =>
    obtain ⟨t, rfl⟩ := r
    cases (show T = "str" from ty)
    exact ⟨typeIs_str s z t, fun _ e => nomatch e⟩
  | int i =>
    obtain ⟨t, rfl⟩ := r
    cases (show T = "int" from ty)
    exact ⟨typeIs_int s i t, fun _ e => nomatch e⟩
  | ref p =>
    cases r
    rcases ty with ⟨rfl, xs, hq⟩ | ⟨rfl, o, hk, hc, hd⟩ | ⟨rfl, hk⟩ | ⟨rfl, S, n, hk⟩
    · obtain ⟨its, _, pl, _⟩ := I.list hq
      refine ⟨pl.isList.typeIs, fun a e => ?_⟩
      cases e
      obtain ⟨o, n, e, c, hd, _⟩ := pl
      exact ⟨o, e, hd⟩
    · refine ⟨⟨o, I.kIn p o hk, hc⟩, fun a e => ?_⟩
      cases e
      exact ⟨o, I.kIn _ o hk, hd⟩
    · have z : ∃ o, s.heap.get? p = some o ∧ o.ExactDict := by
        rcases hk with ⟨kvs, hk⟩ | ⟨kvs, hk⟩
        · obtain ⟨_, _, _, _, o, _, _, e, ex, _⟩ := I.hok p _ hk
          exact ⟨o, e, ex⟩
        · obtain ⟨_, _, _, _, o, _, _, e, ex, _⟩ := I.hok p _ hk
          exact ⟨o, e, ex⟩
      obtain ⟨o, e, ex⟩ := z
      refine ⟨⟨o, e, ex.1⟩, fun a e2 => ?_⟩
      cases e2
      exact ⟨o, e, ex.2.1⟩
    · obtain ⟨o, _, _, _, e, ex, _⟩ := I.hok p _ hk
      refine ⟨⟨o, e, ex.1⟩, fun a e2 => ?_⟩
      cases e2
      exact ⟨o, e, ex.2.1⟩
  | _ => exact False.elim ty
def tBM (K : PySem.W.Frag) (T : String) (r : V → List V → Hp → VK → Prop) (to : TE) (t : TA) : TE := fun σ H Q => to σ H fun x H1 => tyV K T x H1 ∧ t σ H1 fun xs H2 => r x xs H2 Q
variable {o e : Expr} {es : List Expr} {to : TE} {t : TA} {name : Str} {apos cpos : Pos} {T id : String} {r : V → List V → Hp → VK → Prop}
theorem pe_bm (pa : PlainAttrs T) (slot : Slot T name id) (hty : typeOf (.builtin id) = pure (.type "method_descriptor")) (hm : MtR X id r) (ho : PE X o to) (ha : PA X (e :: es) t)
    (hbase : attributeBase o name X.env (eval o X.env) = eval o X.env := by rfl)
    (hfew : ((backTo cpos (starEach (e :: es) X.env)).all (fun x => !x.1) && (backToKw cpos (keywordEach [] X.env)).all (fun x => x.1.isSome)
      && decide ((e :: es).length + ([] : List Keyword).length + (if ([] : List Keyword).isEmpty then 0 else 1) < 30)) = true := by rfl)
    (hline : (apos.endLine == cpos.line) = true := by rfl) (hs : starEach (e :: es) X.env = (false, eval e X.env) :: starEach es X.env := by rfl) (hplain : (backTo cpos (starEach es X.env)).any (·.1) = false := by rfl) :
    PE X (.Call (.Attribute o name apos) (e :: es) [] cpos) (tBM X.K T r to t) := by
  intro pins s σ H Q I h
  refine wpAny_Call_method_late hbase hfew hline rfl (thn (ho pins s σ H _ I h) fun v s1 ⟨x, H1, I1, r1, ty, q1⟩ => ?_)
  obtain ⟨h1, h2⟩ := tyV_is I1 r1 ty
  refine ⟨T, id, pa, slot, hty, h1, h2, ?_⟩
  have hA := ha cpos pins s1 σ H1 _ I1 q1
  rw [hs] at hA ⊢
  refine Calls.callWith_builtin (by show (false || (backTo cpos (starEach es X.env)).any (·.1)) = false; rw [hplain] <;> rfl) (Calls.evalArgs_plain ?_)
  exact thn hA fun us s2 ⟨vs, H2, I2, r2, q2⟩ => hm pins s2 σ H2 x vs v us Q I2 r1 r2 q2
end
end L2
namespace L2
open PySem PySem.Spec PyProof.Rows
def MtM (X : Cx) (id : String) (r : V → List V → Hp → VK → Prop) : Prop :=
  ∀ (pins : List (Addr × Obj)) (s : Shared) (σ : St) (H : Hp) (x : V) (xs : List V) (v : Value) (us : List Value) (Q : VK), Inv X pins σ H s → RelV x v → Vals xs us → r x xs H Q →
    wpAny (model X.prog X.w) X.A (call (.builtin id) (v :: us)) (EP X pins σ Q) X.xe s
theorem Vals.one : ∀ {x : V} {us : List Value}, Vals [x] us → ∃ u, us = [u] ∧ RelV x u
  | _, _, .cons r .nil => ⟨_, rfl, r⟩
theorem Vals.two : ∀ {x y : V} {us : List Value}, Vals [x, y] us → ∃ u v, us = [u, v] ∧ RelV x u ∧ RelV y v
  | _, _, _, .cons r (.cons q .nil) => ⟨_, _, rfl, r, q⟩
theorem Vals.zero : ∀ {us : List Value}, Vals [] us → us = []
  | _, .nil => rfl
theorem Vals.rep {xs : List V} {us : List Value} (h : Vals xs us) : ∀ k : Nat, Vals (List.replicate k xs).flatten (List.replicate k us).flatten
  | 0 => .nil
  | k + 1 => by
    rw [List.replicate_succ, List.replicate_succ, List.flatten_cons, List.flatten_cons]
    exact Vals.append h (Vals.rep h k)
theorem foldl_rep (its : List Value) : ∀ (k : Nat) (acc : List Value),
    List.foldl (fun x1 x2 => x1 ++ x2) acc.toArray (List.replicate k its.toArray) = (acc ++ (List.replicate k its).flatten).toArray
  | 0, acc => by simp
  | k + 1, acc => by
    have e : acc.toArray ++ its.toArray = (acc ++ its).toArray := by simp
    have e2 : (acc ++ its) ++ (List.replicate k its).flatten = acc ++ (List.replicate (k + 1) its).flatten := by
      rw [List.replicate_succ, List.flatten_cons, List.append_assoc]
    rw [← e2, ← foldl_rep its k (acc ++ its), ← e, List.replicate_succ, List.foldl_cons]
section
variable {X : Cx} {pins : List (Addr × Obj)} {σ : St} {H : Hp} {s : Shared} {l b : Addr} {xs ys zs : List V}
theorem Inv.lset {its its' : List Value} {n : Nat} {f : Array Value → Array Value} {t' : Nat} (I : Inv X pins σ H s) (hH : H l = some (.lst xs))
    (e : s.heap.get? l = some { cls := .type "list", data := .seq its.toArray n }) (hf : f its.toArray = its'.toArray) (hv : Vals ys its') (hz : ys.length ≤ sizeLine) :
    Inv X pins σ (upd H l (.lst ys)) { s with heap := s.heap.update l (Obj.mapSeq f), toks := t' } := by
  have q := PySem.IsL.update e f
  rw [hf] at q
  refine I.write (x := l) (e := l) (by rw [hH]; exact trivial) (.inl rfl) (fun b' u hb hu => (Heap.get?_update_other s.heap (Obj.mapSeq f) (Ne.symm hb)).trans hu) ⟨_, q⟩ ?_
  exact ⟨hz, its', _, hv, q⟩
theorem Inv.lnew {its : List Value} {t' : Nat} (I : Inv X pins σ H s) (hv : Vals ys its) (hz : ys.length ≤ sizeLine) :
    Inv X pins σ (upd H s.heap.objs.size (.lst ys)) { s with heap := s.heap.push { cls := .type "list", data := .seq its.toArray }, toks := t' } :=
  I.laid (fun _ _ q => Heap.get?_push_of_some _ q) (Nat.le_refl _) ⟨hz, its, 0, hv, Heap.get?_push_size _ rfl⟩
theorem Inv.fresh (I : Inv X pins σ H s) : H s.heap.objs.size = none := I.hok.fresh (Nat.le_refl _)
theorem Inv.lstM (I : Inv X pins σ H s) (hH : H l = some (.lst xs)) : xs.length ≤ sizeLine ∧ ∃ (its : List Value) (n : Nat), Vals xs its ∧ xs.length = its.length ∧ s.heap.get? l = some { cls := .type "list", data := .seq its.toArray n } := by
  obtain ⟨z, its, n, r, e⟩ := I.hok l _ hH
  exact ⟨z, its, n, r, r.length, e⟩
theorem notLongL {n : Nat} (h : n ≤ sizeLine) : Builtin.List.listTooLong n = false := by
  unfold Builtin.List.listTooLong
  exact decide_eq_false (by omega)
end
section
variable {X : Cx}
def rAppend : V → List V → Hp → VK → Prop := fun x vs H Q => ∃ l xs y, x = .ref l ∧ vs = [y] ∧ H l = some (.lst xs) ∧ xs.length < sizeLine ∧ Q .non (upd H l (.lst (xs ++ [y])))
theorem mt_append : MtM X "list.append" rAppend := by
  intro pins s σ H x vs v us Q I rx rv h
  obtain ⟨l, xs, y, rfl, rfl, hH, hz, q⟩ := h
  cases rx
  obtain ⟨u, rfl, ru⟩ := rv.one
  obtain ⟨z, its, n, r, hl, e⟩ := I.lstM hH
  refine call_meets F.slot_list_append ⟨_, e, rfl⟩ F.entry_list_append (F.args_list_append_2 _ _) (PySem.list_append l its.toArray n u (by rw [List.size_toArray]; omega)) ⟨e, ?_⟩
  refine ⟨.non, _, I.lset (its' := its ++ [u]) hH e (by simp) (r.append (.cons ru .nil)) ?_, rfl, q⟩
  rw [List.length_append, List.length_singleton]
  omega
def rExtend : V → List V → Hp → VK → Prop := fun x vs H Q => ∃ l b xs zs, x = .ref l ∧ vs = [.ref b] ∧ H l = some (.lst xs) ∧ H b = some (.lst zs) ∧ xs.length + zs.length ≤ sizeLine ∧ Q .non (upd H l (.lst (xs ++ zs)))
theorem mt_extend : MtM X "list.extend" rExtend := by
  intro pins s σ H x vs v us Q I rx rv h
  obtain ⟨l, b, xs, zs, rfl, rfl, hH, hB, hz, q⟩ := h
  cases rx
  obtain ⟨u, rfl, ru⟩ := rv.one
  cases ru
  obtain ⟨z, its, n, r, hl, e⟩ := I.lstM hH
  obtain ⟨z2, its2, n2, r2, hl2, e2⟩ := I.lstM hB
  have hsz : its.toArray.size + its2.toArray.size ≤ sizeLine := by rw [List.size_toArray, List.size_toArray]; omega
  have hlong : ¬ (!its.toArray.isEmpty && Builtin.List.listTooLong (its.toArray.size + its2.toArray.size)) = true := by
    rw [notLongL hsz, Bool.and_false]
    exact Bool.false_ne_true
  refine call_meets F.slot_list_extend ⟨_, e, rfl⟩ F.entry_list_extend (F.args_list_extend_2 _ _)
    (AutoSeq1.list_extend_list_list_0 l its.toArray n b its2.toArray n2 hlong (by rw [List.size_toArray]; omega) (by omega)) ⟨e, e2, ?_⟩
  refine ⟨.non, _, I.lset (its' := its ++ its2) hH e (by simp) (r.append r2) ?_, rfl, q⟩
  rw [List.length_append]
  omega
def rCat : R2 := fun x y H Q => ∃ l b xs zs, x = .ref l ∧ y = .ref b ∧ H l = some (.lst xs) ∧ H b = some (.lst zs) ∧ xs.length + zs.length ≤ sizeLine ∧ ∀ p, H p = none → Q (.ref p) (upd H p (.lst (xs ++ zs)))
theorem op_cat : OpR X (binaryOp .Add) rCat := by
  intro pins s σ H x y v u Q I rx ry h
  obtain ⟨l, b, xs, zs, rfl, rfl, hH, hB, hz, q⟩ := h
  cases rx
  cases ry
  obtain ⟨z, its, n, r, hl, e⟩ := I.lstM hH
  obtain ⟨z2, its2, n2, r2, hl2, e2⟩ := I.lstM hB
  refine PySem.P.add_list e e2 ?_ (by rw [List.size_toArray, List.size_toArray]; omega)
  have ea : its.toArray ++ its2.toArray = (its ++ its2).toArray := by simp
  rw [ea]
  exact ⟨.ref _, _, I.lnew (t' := s.toks) (r.append r2) (by rw [List.length_append]; omega), rfl, q _ I.fresh⟩
def rRep : R2 := fun x y H Q => ∃ l k xs, x = .ref l ∧ y = .int k ∧ H l = some (.lst xs) ∧ -(2 ^ 63) ≤ k ∧ k < 2 ^ 63 ∧ xs.length * k.toNat ≤ sizeLine ∧
  ∀ p, H p = none → Q (.ref p) (upd H p (.lst (List.replicate k.toNat xs).flatten))
theorem len_rep {α : Type} (xs : List α) (k : Nat) : (List.replicate k xs).flatten.length = k * xs.length := by
  induction k with
  | zero => simp
  | succ k ih => rw [List.replicate_succ, List.flatten_cons, List.length_append, ih, Nat.succ_mul, Nat.add_comm]
theorem op_rep : OpR X (binaryOp .Mult) rRep := by
  intro pins s σ H x y v u Q I rx ry h
  obtain ⟨l, k, xs, rfl, rfl, hH, h1, h2, hz, q⟩ := h
  cases rx
  obtain ⟨t, rfl⟩ := ry
  obtain ⟨z, its, n, r, hl, e⟩ := I.lstM hH
  have hlen : its.toArray.size * k.toNat ≤ sizeLine := by rw [List.size_toArray, ← hl]; exact hz
  have hcap : ¬ its.toArray.size * k.toNat > (2 ^ 63 - 1) / 8 := by
    have : (sizeLine : Nat) ≤ (2 ^ 63 - 1) / 8 := by decide
    omega
  have hfit : ¬ (!Builtin.List.listFitsIndex k) = true := by
    rw [fitsIndex_both h1 h2]
    exact Bool.false_ne_true
  have hlong : ¬ Builtin.List.listTooLong (its.toArray.size * k.toNat) = true := by
    rw [notLongL hlen]
    exact Bool.false_ne_true
  have hnew : List.foldl (fun x1 x2 => x1 ++ x2) #[] (List.replicate (if its.toArray.isEmpty = true then 0 else k.toNat) its.toArray) = (List.replicate k.toNat its).flatten.toArray := by
    have f0 : ∀ m : Nat, List.foldl (fun x1 x2 => x1 ++ x2) #[] (List.replicate m its.toArray) = (List.replicate m its).flatten.toArray := fun m => by
      have := foldl_rep its m []
      rw [List.nil_append] at this
      exact this
    rw [f0]
    cases its with
    | nil => simp
    | cons a r' => rw [if_neg (by simp)]
  refine wpAny_binaryOp_repeat_ref (T := "list") (U := "int") (by decide) ⟨_, e, rfl⟩ (fun s' => typeIs_int s' k t) noFill_list_mul F.fills_int_mul F.slot_int_rmul repeat_list F.slot_int_index.lookup
    (call_meets F.slot_int_rmul (typeIs_int s k t) F.entry_int_rmul (F.args_int_rmul_2 _ _) (int___rmul___int_list k t l its.toArray n)
      ⟨e, rfl, ⟨_, e, rfl⟩, call_meets F.slot_list_mul ⟨_, e, rfl⟩ F.entry_list_mul (F.args_list_mul_2 _ _) (AutoListH.list___mul___list_int_3 l its.toArray n k t hfit hcap hlong) ⟨e, ?_⟩⟩)
  rw [hnew]
  exact ⟨.ref _, _, I.lnew (t' := s.toks) (r.rep k.toNat) (by rw [len_rep, Nat.mul_comm]; exact hz), rfl, q _ I.fresh⟩
end
section
variable {prog : Program} {w : World} {A : Around} {E : Value → Shared → Prop} {s : Shared}
set_option maxRecDepth 100000 in
end
section
variable {X : Cx}
end
end L2
namespace L2
open PySem PySem.Spec PyProof.Rows
theorem Vals.ints : ∀ {ns : List Int} {us : List Value}, Vals (ns.map V.int) us → IntsAre us ns
  | [], us, h => by
    rw [List.map_nil] at h
    cases h
    exact IntsAre.nil
  | n :: ns, us, h => by
    rw [List.map_cons] at h
    cases h with
    | cons r t =>
      obtain ⟨k, rfl⟩ := r
      exact IntsAre.cons n k (Vals.ints t)
theorem Vals.strs : ∀ {xs : List Str} {us : List Value}, Vals (xs.map V.str) us → StrsAre us xs
  | [], us, h => by
    rw [List.map_nil] at h
    cases h
    exact StrsAre.nil
  | x :: xs, us, h => by
    rw [List.map_cons] at h
    cases h with
    | cons r t =>
      obtain ⟨k, rfl⟩ := r
      exact StrsAre.cons x k (Vals.strs t)
section
variable {prog : Program} {w : World} {A : Around} {E : Value → Shared → Prop} {s : Shared} {l : Addr} {its : List Value} {ns : List Int} {Q : Value → Shared → Prop}
end
section
variable {X : Cx}
end
section
variable {X : Cx}
end
section
variable {X : Cx}
end
section
variable {X : Cx}
end
mutual
inductive Dp (K : PySem.W.Frag) (H : Hp) : V → PyData → Prop
  | non : Dp K H .non .none
  | bl (b : Bool) : Dp K H (.bl b) (.bool b)
  | int (i : Int) : Dp K H (.int i) (.int i)
  | str (x : Str) : Dp K H (.str x) (.str x)
  | lst {a : Addr} {xs : List V} {ds : List PyData} : SqL K H a xs → DpAll K H xs ds → Dp K H (.ref a) (.list ds)
  | tup {a : Addr} {xs : List V} {ds : List PyData} : SqT K H a xs → DpAll K H xs ds → Dp K H (.ref a) (.tuple ds)
inductive DpAll (K : PySem.W.Frag) (H : Hp) : List V → List PyData → Prop
  | nil : DpAll K H [] []
  | cons {v : V} {vs : List V} {d : PyData} {ds : List PyData} : Dp K H v d → DpAll K H vs ds → DpAll K H (v :: vs) (d :: ds)
end
section
variable {X : Cx} {pins : List (Addr × Obj)} {σ : St} {H : Hp} {s : Shared}
mutual
theorem Dp.reads (I : Inv X pins σ H s) : ∀ (d : PyData) (v : V) (u : Value), Dp X.K H v d → RelV v u → ∃ as, Reads s.heap u d as
  | .none, _, _, h, r => by
    cases h
    cases r
    exact ⟨_, Reads.none⟩
  | .bool b, _, _, h, r => by
    cases h
    cases r
    exact ⟨_, Reads.bool b⟩
  | .int i, _, _, h, r => by
    cases h
    obtain ⟨t, rfl⟩ := r
    exact ⟨_, Reads.int i t⟩
  | .str x, _, _, h, r => by
    cases h
    obtain ⟨t, rfl⟩ := r
    exact ⟨_, Reads.str x t⟩
  | .list ds, _, _, h, r => by
    cases h with
    | lst hs ha =>
      cases r
      obtain ⟨its, rv, ⟨o, n, ho, hc, _, hd⟩, _⟩ := I.list hs
      obtain ⟨as, hr⟩ := Dp.readsAll I ds _ its ha rv
      exact ⟨_, Reads.list ho hc hd hr⟩
  | .tuple ds, _, _, h, r => by
    cases h with
    | tup hs ha =>
      cases r
      obtain ⟨its, rv, ⟨o, ho, hc, n, hd⟩, _⟩ := I.tuple hs
      obtain ⟨as, hr⟩ := Dp.readsAll I ds _ its ha rv
      exact ⟨_, Reads.tuple ho hc hd hr⟩
  | .dict _, _, _, h, _ => by cases h
theorem Dp.readsAll (I : Inv X pins σ H s) : ∀ (ds : List PyData) (vs : List V) (us : List Value), DpAll X.K H vs ds → Vals vs us → ∃ as, ReadsAll s.heap us ds as
  | [], _, _, h, r => by
    cases h
    cases r
    exact ⟨_, ReadsAll.nil⟩
  | d :: ds, _, _, h, r => by
    cases h with
    | cons h1 h2 =>
      cases r with
      | cons r1 r2 =>
        obtain ⟨as, q1⟩ := Dp.reads I d _ _ h1 r1
        obtain ⟨bs, q2⟩ := Dp.readsAll I ds _ _ h2 r2
        exact ⟨_, ReadsAll.cons q1 q2⟩
end
end
section
variable {X : Cx}
end
end L2
namespace L2
open PySem PySem.Spec PyProof.Rows
abbrev CellAt (h : Heap) (c : Addr) (v : Option Value) : Prop := h.IsCell c v
def relS (scope sc : Scope) : Scope :=
  { scope with names := scope.names.map fun (n, k) => if (k == .free && sc.kind == .function && sc.names.lookup n == some .cell) then (n, .cell) else (n, k) }
def cloFrom (cells : List (Str × Addr)) : List (Str × NameKind) → List (Str × Addr) → List (Str × Addr)
  | [], acc => acc
  | (n, k) :: r, acc => if k == .free then cloFrom cells r ((n, (cells.lookup n).getD 0) :: acc) else cloFrom cells r acc
theorem closure_loop (env : Env) (f : Str × NameKind → List (Str × Addr) → Sem (ForInStep (List (Str × Addr))))
    (hf : ∀ n k c, f (n, k) c = if k == .free then (do let a ← cellOf env n; pure (.yield ((n, a) :: c))) else pure (.yield c)) :
    ∀ (names : List (Str × NameKind)) (acc : List (Str × Addr)), (∀ y ∈ names, y.2 = .free → ∃ c, env.cells.lookup y.1 = some c) → forIn names acc f = pure (cloFrom env.cells names acc)
  | [], acc, _ => by rw [List.forIn_nil]; rfl
  | (n, k) :: r, acc, h => by
    rw [List.forIn_cons, hf]
    have ih := fun acc => closure_loop env f hf r acc fun y hy => h y (List.mem_cons_of_mem _ hy)
    unfold cloFrom
    by_cases hk : (k == NameKind.free) = true
    · rw [if_pos hk, if_pos hk]
      obtain ⟨c, hc⟩ := h (n, k) List.mem_cons_self (by simpa using hk)
      have e : cellOf env n = pure c := by unfold cellOf; rw [hc]
      rw [e]
      have e2 : (env.cells.lookup n).getD 0 = c := by rw [hc]; rfl
      rw [e2]
      exact ih _
    · rw [if_neg hk, if_neg hk]
      exact ih _
theorem closure_ok {scope : Scope} {env : Env} (h : ∀ y ∈ scope.names, y.2 = .free → ∃ c, env.cells.lookup y.1 = some c) : closureFor scope env = pure (cloFrom env.cells scope.names []) := by
  simp only [closureFor]
  rw [closure_loop env _ (fun n k c => rfl) scope.names [] h]
  rfl
theorem mem_lookup {α : Type} : ∀ {l : List (Str × α)} {n : Str} {c : α}, (n, c) ∈ l → ∃ c', l.lookup n = some c'
  | (k, v) :: r, n, c, h => by
    rw [List.lookup_cons]
    cases hb : n == k with
    | true => exact ⟨_, rfl⟩
    | false =>
      rcases List.mem_cons.mp h with e | h
      · cases e; simp at hb
      · exact mem_lookup h
theorem cloFrom_mem {cells : List (Str × Addr)} : ∀ {names : List (Str × NameKind)} {acc : List (Str × Addr)} {n : Str} {c : Addr}, (n, c) ∈ cloFrom cells names acc → (n, c) ∈ acc ∨ ((n, .free) ∈ names ∧ c = (cells.lookup n).getD 0)
  | [], _, _, _, h => .inl h
  | (m, k) :: r, acc, n, c, h => by
    unfold cloFrom at h
    split at h
    · rename_i hk
      have hk : k = .free := by simpa using hk
      rcases cloFrom_mem h with h | ⟨h1, h2⟩
      · rcases List.mem_cons.mp h with e | h
        · cases e; exact .inr ⟨hk ▸ List.mem_cons_self, rfl⟩
        · exact .inl h
      · exact .inr ⟨List.mem_cons_of_mem _ h1, h2⟩
    · rcases cloFrom_mem h with h | ⟨h1, h2⟩
      · exact .inl h
      · exact .inr ⟨List.mem_cons_of_mem _ h1, h2⟩
theorem cloFrom_acc {cells : List (Str × Addr)} : ∀ {names : List (Str × NameKind)} {acc : List (Str × Addr)} {p : Str × Addr}, p ∈ acc → p ∈ cloFrom cells names acc
  | [], _, _, h => h
  | (m, k) :: r, acc, p, h => by
    unfold cloFrom
    split
    · exact cloFrom_acc (List.mem_cons_of_mem _ h)
    · exact cloFrom_acc h
theorem cloFrom_has {cells : List (Str × Addr)} : ∀ {names : List (Str × NameKind)} {acc : List (Str × Addr)} {n : Str}, (n, .free) ∈ names → (n, (cells.lookup n).getD 0) ∈ cloFrom cells names acc
  | (m, k) :: r, acc, n, h => by
    unfold cloFrom
    rcases List.mem_cons.mp h with e | h
    · cases e
      exact cloFrom_acc List.mem_cons_self
    · split
      · exact cloFrom_has h
      · exact cloFrom_has h
theorem cells_mem : ∀ {names : List (Str × NameKind)} {h : Heap} {acc : List (Str × Addr)} {x : Str} {c : Addr}, (x, c) ∈ cellsFrom h.objs.size names acc →
    (x, c) ∈ acc ∨ ((x, .cell) ∈ names ∧ h.objs.size ≤ c ∧ CellAt (pushCells h names) c none)
  | [], _, _, _, _, h => .inl h
  | (n, k) :: r, h, acc, x, c, hm => by
    unfold cellsFrom at hm
    unfold pushCells
    split at hm
    · rename_i hk
      rw [if_pos hk]
      have hk : k = .cell := by simpa using hk
      rw [← Heap.size_push h { cls := .type "cell", data := .cell none }] at hm
      rcases cells_mem hm with hm | ⟨h1, h2, h3⟩
      · rcases List.mem_cons.mp hm with e | hm
        · cases e
          exact .inr ⟨hk ▸ List.mem_cons_self, Nat.le_refl _, _, pushCells_keeps r _ _ _ (Heap.get?_push_size _ rfl), rfl⟩
        · exact .inl hm
      · rw [Heap.size_push] at h2
        exact .inr ⟨List.mem_cons_of_mem _ h1, Nat.le_of_succ_le h2, h3⟩
    · rename_i hk
      rw [if_neg hk]
      rcases cells_mem hm with hm | ⟨h1, h2, h3⟩
      · exact .inl hm
      · exact .inr ⟨List.mem_cons_of_mem _ h1, h2, h3⟩
theorem cells_acc : ∀ {names : List (Str × NameKind)} {n : Nat} {acc : List (Str × Addr)} {p : Str × Addr}, p ∈ acc → p ∈ cellsFrom n names acc
  | [], _, _, _, h => h
  | (m, k) :: r, n, acc, p, h => by
    unfold cellsFrom
    split
    · exact cells_acc (List.mem_cons_of_mem _ h)
    · exact cells_acc h
theorem cells_has : ∀ {names : List (Str × NameKind)} {n : Nat} {acc : List (Str × Addr)} {x : Str}, (x, .cell) ∈ names → ∃ c, (x, c) ∈ cellsFrom n names acc
  | (m, k) :: r, n, acc, x, h => by
    unfold cellsFrom
    rcases List.mem_cons.mp h with e | h
    · cases e
      exact ⟨n, cells_acc List.mem_cons_self⟩
    · split
      · exact cells_has h
      · exact cells_has h
theorem cells_inj : ∀ {names : List (Str × NameKind)} {h : Heap} {acc : List (Str × Addr)} {x y : Str} {c : Addr}, (∀ p ∈ acc, p.2 < h.objs.size) → (∀ x y c, (x, c) ∈ acc → (y, c) ∈ acc → x = y) →
    (x, c) ∈ cellsFrom h.objs.size names acc → (y, c) ∈ cellsFrom h.objs.size names acc → x = y
  | [], _, _, _, _, _, _, hi, h1, h2 => hi _ _ _ h1 h2
  | (n, k) :: r, h, acc, x, y, c, hl, hi, h1, h2 => by
    unfold cellsFrom at h1 h2
    split at h1
    · rename_i hk
      rw [if_pos hk] at h2
      rw [← Heap.size_push h { cls := .type "cell", data := .cell none }] at h1 h2
      refine cells_inj (h := h.push _) (fun p hp => ?_) (fun x y c a b => ?_) h1 h2
      · rw [Heap.size_push]
        rcases List.mem_cons.mp hp with rfl | hp
        · exact Nat.lt_succ_self _
        · exact Nat.lt_succ_of_lt (hl p hp)
      · rcases List.mem_cons.mp a with e | a <;> rcases List.mem_cons.mp b with e' | b
        · cases e; cases e'; rfl
        · cases e; exact absurd (hl _ b) (Nat.lt_irrefl _)
        · cases e'; exact absurd (hl _ a) (Nat.lt_irrefl _)
        · exact hi _ _ _ a b
    · rename_i hk
      rw [if_neg hk] at h2
      exact cells_inj hl hi h1 h2
theorem newEnv_comp {M : Model} {A : Around} {E : Value → Shared → Prop} {s : Shared} {scope : Scope} {globals : Addr} {closure : List (Str × Addr)} {qual : Str} {func : Option Addr} {code : Value} {around : Env} {builtins : Addr} {Q : Env → Shared → Prop}
    (h : Q (newEnv scope s.heap.objs.size globals (cellsFrom (s.heap.objs.size + 1) scope.names closure) qual func code (some around) builtins)
      { s with heap := pushCells (s.heap.push { cls := .type "dict", data := .dict #[] }) scope.names }) :
    wpAny M A (newFunctionEnv scope globals closure [] qual func code (some around) builtins) Q E s := by
  simp only [newFunctionEnv, Option.isSome_some, if_true]
  refine wpAny_bind (wpAny_alloc ?_)
  refine wpAny_bind (wpAny_layCells _ (fun n k c => rfl) scope.names closure _ _ ?_)
  rw [show ({ s with heap := s.heap.push { cls := .type "dict", data := .dict #[] } } : Shared).heap.objs.size = s.heap.objs.size + 1 from Heap.size_push ..]
  rw [List.forIn_nil]
  exact wpAny_bind (wpAny_pure (wpAny_pure h))
theorem lookup_relS {sc : Scope} : ∀ {names : List (Str × NameKind)} {x : Str} {k : NameKind},
    (names.map fun (n, k) => if (k == NameKind.free && sc.kind == .function && sc.names.lookup n == some .cell) then (n, NameKind.cell) else (n, k)).lookup x = some k →
    ∃ k', names.lookup x = some k' ∧ (k = k' ∨ (k' = .free ∧ k = .cell))
  | [], _, _, h => by simp at h
  | (n, k₀) :: r, x, k, h => by
    have ih := @lookup_relS sc r x k
    have h' : List.lookup x ((if (k₀ == NameKind.free && sc.kind == .function && sc.names.lookup n == some .cell) = true then (n, NameKind.cell) else (n, k₀)) :: (r.map _)) = some k := h
    cases hx : x == n with
    | true =>
      simp only [List.lookup_cons, hx]
      by_cases hc : (k₀ == NameKind.free && sc.kind == .function && sc.names.lookup n == some .cell) = true
      · rw [if_pos hc] at h'
        simp only [List.lookup_cons, hx] at h'
        cases h'
        simp only [Bool.and_eq_true, beq_iff_eq] at hc
        exact ⟨k₀, rfl, .inr ⟨hc.1.1, rfl⟩⟩
      · rw [if_neg hc] at h'
        simp only [List.lookup_cons, hx] at h'
        cases h'
        exact ⟨_, rfl, .inl rfl⟩
    | false =>
      simp only [List.lookup_cons, hx]
      by_cases hc : (k₀ == NameKind.free && sc.kind == .function && sc.names.lookup n == some .cell) = true
      · rw [if_pos hc] at h'
        simp only [List.lookup_cons, hx] at h'
        exact ih h'
      · rw [if_neg hc] at h'
        simp only [List.lookup_cons, hx] at h'
        exact ih h'
structure BlkOk (N : List Str) (sc scope : Scope) (own : List (Str × Nat)) : Prop where
  kind : scope.kind = .function
  uniq : ∀ y ∈ scope.names, scope.names.lookup y.1 = some y.2
  ix : ∀ p ∈ own, N[p.2]? = some p.1
  free : ∀ y ∈ scope.names, y.2 = .free → sc.names.lookup y.1 = some .cell ∨ sc.names.lookup y.1 = some .free
  own : ∀ y ∈ scope.names, y.2 = .local ∨ y.2 = .cell → y.1 ∈ own.map (·.1) ∨ y.1 ∉ N
def wipe (σ : St) : List Nat → St
  | [] => σ
  | v :: vs => (wipe σ vs).set v none
theorem wipe_length (σ : St) : ∀ vs : List Nat, (wipe σ vs).length = σ.length
  | [] => rfl
  | v :: vs => by unfold wipe; rw [List.length_set, wipe_length σ vs]
theorem wipe_some {σ : St} {i : Nat} {x : V} : ∀ {vs : List Nat}, (wipe σ vs)[i]? = some (some x) → σ[i]? = some (some x) ∧ i ∉ vs
  | [], h => ⟨h, by simp⟩
  | v :: vs, h => by
    unfold wipe at h
    by_cases hi : v = i
    · subst hi
      by_cases hv : v < (wipe σ vs).length
      · rw [List.getElem?_set_self hv] at h; cases h
      · rw [List.getElem?_eq_none (by simpa using hv)] at h; cases h
    · rw [List.getElem?_set_ne hi] at h
      obtain ⟨h1, h2⟩ := wipe_some h
      exact ⟨h1, by simp only [List.mem_cons, not_or]; exact ⟨fun e => hi e.symm, h2⟩⟩
abbrev Cx.blk (X : Cx) (s : Shared) (H : Hp) (scope : Scope) (cenv : Env) (fp : List Addr) : Cx := { X with s_0 := s, H_0 := H, env := cenv, outer := X.stack, ex := fp, fn := fun x => scope.names.lookup x == some .cell, pn := [], xe := fun _ _ => False }
section
variable {X : Cx} {pins : List (Addr × Obj)} {σ : St} {H : Hp} {s : Shared}
theorem block_start {scope : Scope} {own : List (Str × Nat)} {fp : List Addr} (I : Inv X pins σ H s) (ok : BlkOk X.N X.env.scope scope own) (hN : X.N.Nodup) (hfp : ∀ b ∈ fp, FpOk X pins H b ∧ b < s.heap.objs.size) :
    Inv (X.blk s H scope (compEnvC scope (cellsFrom (s.heap.objs.size + 1) scope.names (cloFrom X.env.cells scope.names [])) s.heap.objs.size X.env) fp) [] (wipe σ (own.map (·.2))) H { s with heap := pushCells (s.heap.push { cls := .type "dict", data := .dict #[] }) scope.names } := by
  have hfree : ∀ y ∈ scope.names, y.2 = .free → ∃ c, X.env.cells.lookup y.1 = some c := fun y hy e => by
    rcases ok.free y hy e with k | k
    · exact I.ok.has _ (.inl k)
    · exact I.ok.has _ (.inr k)
  generalize hcenv : compEnvC scope (cellsFrom (s.heap.objs.size + 1) scope.names (cloFrom X.env.cells scope.names [])) s.heap.objs.size X.env = cenv
  have kp : ∀ b o, s.heap.get? b = some o → (pushCells (s.heap.push { cls := .type "dict", data := .dict #[] }) scope.names).get? b = some o := fun b o e => pushCells_keeps _ _ _ _ (Heap.get?_push_of_some _ e)
  have hL : cenv.locals = s.heap.objs.size := by rw [← hcenv]; rfl
  have hcl : cenv.cells = cellsFrom (s.heap.objs.size + 1) scope.names (cloFrom X.env.cells scope.names []) := by rw [← hcenv]; rfl
  have hsc : cenv.scope = relS scope X.env.scope := by rw [← hcenv]; rfl
  rw [← Heap.size_push s.heap { cls := .type "dict", data := .dict #[] }] at hcl
  have cm : ∀ {y c}, (y, c) ∈ cloFrom X.env.cells scope.names [] → X.env.cells.lookup y = some c ∧ c < s.heap.objs.size := fun {y c} hm => by
    rcases cloFrom_mem hm with hm | ⟨h1, rfl⟩
    · cases hm
    · obtain ⟨c, hc⟩ := hfree _ h1 rfl
      rw [hc]
      obtain ⟨w, z⟩ := I.cell _ _ hc
      exact ⟨rfl, z.lt⟩
  have mem : ∀ {y c}, cenv.cells.lookup y = some c → (X.env.cells.lookup y = some c ∧ c < s.heap.objs.size) ∨ (s.heap.objs.size + 1 ≤ c ∧ CellAt (pushCells (s.heap.push { cls := .type "dict", data := .dict #[] }) scope.names) c none) := fun {y c} e => by
    rw [hcl] at e
    rcases cells_mem (PySem.mem_of_lookup e) with hm | ⟨_, h2, h3⟩
    · exact .inl (cm hm)
    · rw [Heap.size_push] at h2; exact .inr ⟨h2, h3⟩
  have look : ∀ {y}, scope.names.lookup y = some .free → ∃ c, cenv.cells.lookup y = some c ∧ X.env.cells.lookup y = some c := fun {y} hl => by
    have hy : (y, NameKind.free) ∈ scope.names := PySem.mem_of_lookup hl
    obtain ⟨c', e'⟩ := mem_lookup (cells_acc (names := scope.names) (n := (s.heap.push { cls := .type "dict", data := .dict #[] }).objs.size) (cloFrom_has (cells := X.env.cells) (acc := []) hy))
    rw [← hcl] at e'
    refine ⟨c', e', ?_⟩
    rw [hcl] at e'
    rcases cells_mem (PySem.mem_of_lookup e') with hm | ⟨h1, _, _⟩
    · exact (cm hm).1
    · have := ok.uniq _ h1
      rw [hl] at this; cases this
  have okB : (X.blk s H scope cenv fp).Ok := by
    refine ⟨I.ok.mod, by show cenv.scope.kind = _; rw [hsc]; exact ok.kind, by show cenv.globals = _; rw [← hcenv]; exact I.ok.glob, by show cenv.builtins = _; rw [← hcenv]; exact I.ok.blt, by show s.heap.objs.size ≤ cenv.locals; rw [hL]; exact Nat.le_refl _,
      fun y z c e1 e2 => ?_, fun y hy => ?_, fun y c z e => ?_, I.ok.hd, I.ok.frames, .inl rfl, fun b hb => ⟨?_, fun y c e z => ?_⟩, I.bs, Nat.le_trans I.ok.bsz I.sz, fun b o e hb => ?_, fun b hb z => ?_, I.stack, I.stkFree⟩
    · have e1 : cenv.cells.lookup y = some c := e1
      have e2 : cenv.cells.lookup z = some c := e2
      rw [hcl] at e1 e2
      refine cells_inj (fun p hp => ?_) (fun y z c a b => I.ok.inj y z c (cm a).1 (cm b).1) (PySem.mem_of_lookup e1) (PySem.mem_of_lookup e2)
      rw [Heap.size_push]
      exact Nat.lt_succ_of_lt (cm (y := p.1) (c := p.2) hp).2
    · show ∃ c, cenv.cells.lookup y = some c
      have key : ∀ k, cenv.kindOf y = some k → (k = .cell ∨ k = .free) → ∃ c, cenv.cells.lookup y = some c := fun k hk hk' => by
        unfold Env.kindOf at hk
        rw [hsc] at hk
        obtain ⟨k', e, r⟩ := lookup_relS hk
        have : k' = .cell ∨ k' = .free := by
          rcases r with rfl | ⟨rfl, _⟩
          · exact hk'
          · exact .inr rfl
        rcases this with rfl | rfl
        · obtain ⟨c, hm⟩ := cells_has (n := (s.heap.push { cls := .type "dict", data := .dict #[] }).objs.size) (acc := cloFrom X.env.cells scope.names []) (PySem.mem_of_lookup e)
          obtain ⟨c', e'⟩ := mem_lookup hm
          exact ⟨c', by rw [hcl]; exact e'⟩
        · obtain ⟨c, h1, _⟩ := look e
          exact ⟨c, h1⟩
      rcases hy with hy | hy
      · exact key _ hy (.inl rfl)
      · exact key _ hy (.inr rfl)
    · have z : (scope.names.lookup y == some NameKind.cell) = true := z
      have z : scope.names.lookup y = some .cell := by simpa using z
      have e : cenv.cells.lookup y = some c := e
      rw [hcl] at e
      rcases cells_mem (PySem.mem_of_lookup e) with hm | ⟨_, h2, _⟩
      · rcases cloFrom_mem hm with hm | ⟨h1, _⟩
        · cases hm
        · have q := ok.uniq _ h1
          rw [z] at q; cases q
      · rw [Heap.size_push] at h2
        exact Nat.le_of_succ_le h2
    · show b ≠ cenv.locals
      rw [hL]; exact Nat.ne_of_lt (hfp b hb).2
    · have e : cenv.cells.lookup y = some c := e
      rcases mem e with ⟨h1, _⟩ | ⟨h1, _⟩
      · exact (hfp b hb).1.2.2.2.2.1 y c h1 z
      · have h2 : s.heap.objs.size + 1 ≤ b := by rw [← z]; exact h1
        exact absurd (Nat.lt_of_lt_of_le (hfp b hb).2 (Nat.le_of_succ_le h2)) (Nat.lt_irrefl _)
    · rcases (hfp b hb).1.2.2.2.1 with z | z
      · exact I.ok.noex b o e z
      · exact absurd (Nat.lt_of_lt_of_le (Heap.lt_size e) (Nat.le_trans I.ok.bsz z)) (Nat.lt_irrefl _)
    · rcases List.mem_cons.mp (I.stkSub b z) with z | z
      · exact (hfp b hb).1.2.1 z
      · exact (hfp b hb).1.2.2.1 z
  refine ⟨okB, rfl, I.bare, Un.kept kp, ⟨fun _ => none, ?_, fun i y av e1 e2 e3 => ?_⟩, fun y c e => ?_, ?_, fun y c e => ?_, fun p hp => ?_, I.hok.kept kp, by rw [wipe_length]; exact I.len⟩
  · show Heap.Ns _ cenv.locals _
    rw [hL]
    exact Heap.Ns.keeps (Heap.Ns.new ..) fun b o e => pushCells_keeps _ _ _ _ e
  · obtain ⟨e2, hne⟩ := wipe_some e2
    have hfr : scope.names.lookup y = some .free ∧ (cenv.kindOf y = some .cell ∨ cenv.kindOf y = some .free) := by
      have key : ∀ k, cenv.scope.names.lookup y = some k → k = .local ∨ k = .cell ∨ k = .free → scope.names.lookup y = some .free ∧ (cenv.kindOf y = some .cell ∨ cenv.kindOf y = some .free) := fun k hk hk' => by
        have hk0 := hk
        rw [hsc] at hk
        obtain ⟨k', e, r⟩ := lookup_relS hk
        have no : ¬ (k' = .local ∨ k' = .cell) := fun hh => by
          rcases ok.own _ (PySem.mem_of_lookup e) hh with e' | e'
          · obtain ⟨p, hp, hpy⟩ := List.mem_map.mp e'
            have e3 := ok.ix p hp
            have : p.1 = y := hpy
            rw [this] at e3
            exact hne (List.mem_map.mpr ⟨p, hp, nodup_ix hN e3 e1⟩)
          · exact e' (List.mem_of_getElem? e1)
        rcases r with rfl | ⟨rfl, rfl⟩
        · rcases hk' with rfl | rfl | rfl
          · exact absurd (.inl rfl) no
          · exact absurd (.inr rfl) no
          · exact ⟨e, .inr hk0⟩
        · exact ⟨e, .inl hk0⟩
      have e3 : Vis cenv.scope y := e3
      rcases e3 with e3 | e3 | e3
      · exact key _ e3 (.inl rfl)
      · exact key _ e3 (.inr (.inl rfl))
      · exact key _ e3 (.inr (.inr rfl))
    obtain ⟨m, hn, hl⟩ := I.loc
    have hvis : Vis X.env.scope y := (ok.free _ (PySem.mem_of_lookup hfr.1) rfl).elim (fun k => .inr (.inl k)) (fun k => .inr (.inr k))
    obtain ⟨w, r, q⟩ := hl i y av e1 e2 hvis
    refine ⟨w, r, .inr ⟨hfr.2, ?_⟩⟩
    obtain ⟨c, h1, h2⟩ := look hfr.1
    rcases q with ⟨k, _⟩ | ⟨_, c', e', z⟩
    · have k : X.env.scope.names.lookup y = some .local := k
      rcases ok.free _ (PySem.mem_of_lookup hfr.1) rfl with k' | k' <;> rw [show X.env.scope.names.lookup y = _ from k'] at k <;> cases k
    · rw [h2] at e'; cases e'
      exact ⟨c, h1, z.keeps kp⟩
  · have e : cenv.cells.lookup y = some c := e
    rcases mem e with ⟨h1, _⟩ | ⟨_, z⟩
    · obtain ⟨w, z⟩ := I.cell y c h1
      exact ⟨w, z.keeps kp⟩
    · exact ⟨_, z⟩
  · show H cenv.locals = none
    rw [hL]; exact I.hok.fresh (Nat.le_refl _)
  · have e : cenv.cells.lookup y = some c := e
    rcases mem e with ⟨h1, _⟩ | ⟨h1, _⟩
    · exact I.freeC y c h1
    · exact I.hok.fresh (Nat.le_of_succ_le h1)
  · exact absurd (show p ∈ ([] : List (Addr × Obj)) ++ [] from hp) (by simp)
theorem app_ok {E : Value → Shared → Prop} {D : Addr} {xs : List V} {y : V} {v : Value} {Q : Value → Shared → Prop} (I : Inv X pins σ H s) (hD : H D = some (.lst xs)) (hz : xs.length < sizeLine) (r : RelV y v)
    (h : ∀ s', Inv X pins σ (upd H D (.lst (xs ++ [y]))) s' → Q .none s') : wpAny (model X.prog X.w) X.A (call (.builtin "list.append") [.ref D, v]) Q E s := by
  obtain ⟨hz', its, n, ri, e⟩ := I.hok D _ hD
  have hl := ri.length
  refine append_at (hsz := by rw [List.size_toArray]; omega) e fun h' sb ho' => ?_
  refine h { s with heap := h' } (I.write (t' := s.toks) (by rw [hD]; trivial) (.inl rfl) (fun b u hb q => (sb.2 b hb).trans q) ⟨_, ho'⟩ ⟨by rw [List.length_append]; exact hz, its ++ [v], n + 1, ri.append (.cons r .nil), ?_⟩)
  rw [ho']
  simp
def PTs (X : Cx) (ifs : List Expr) (t : TT) : Prop :=
  ∀ (pins : List (Addr × Obj)) (s : Shared) (σ : St) (H : Hp) (Q : Bool → Hp → Prop), Inv X pins σ H s → t σ H Q →
    wpAny (model X.prog X.w) X.A (forIn ifs true fun c r => if r = true then do let ok ← isTrue c X.env (eval c X.env); pure (ForInStep.yield ok) else pure (ForInStep.yield r)) (TP X pins σ Q) X.xe s
def tYes : TT := fun _ H Q => Q true H
theorem pts_nil : PTs X [] tYes := fun _ _ _ H _ I h => wpAny_tests_nil ⟨H, I, h⟩
theorem pts_one {c : Expr} {t : TT} (h : PT X c t) : PTs X [c] t := fun pins s σ H Q I hw => wpAny_tests_one (h pins s σ H Q I hw)
end
theorem thnF {α : Type} {t : Sem α} {Q Q' : α → Shared → Prop} {M : Model} {A : Around} {E : Value → Shared → Prop} {s : Shared} (h : wpAny M A t Q (fun _ _ => False) s) (hQ : ∀ a s, Q a s → Q' a s) : wpAny M A t Q' E s := wpAny_mono h hQ fun _ _ z => False.elim z
theorem compLoop_any {prog : Program} {w : World} {A : Around} {R : Result → Shared → Prop} {s : Shared} {elt target iter : Expr} {ifs : List Expr} {scope : Scope} {pos : Pos} {it acc : Value} {env : Env} (I : Nat → Shared → Prop)
    (turn : ∀ n s, I n s → wpAny (model prog w) A (pyNext it) (fun r s₁ => match r with
      | none => R (.ok .next) s₁
      | some v => wpAny (model prog w) A (letOwnedTupleGo target it v) (fun _ s₁' => wpAny (model prog w) A (assign target env v) (fun _ s₂ =>
          wpAny (model prog w) A (forIn ifs true fun c r => if r = true then do let ok ← isTrue c env (eval c env); pure (ForInStep.yield ok) else pure (ForInStep.yield r)) (fun ok s₃ =>
            if ok = true then wpAny (model prog w) A (eval elt env) (fun x s₄ =>
              wpAny (model prog w) A (call (.builtin "list.append") [acc, x]) (fun _ s₅ => ∃ m, m < n ∧ I m s₅) (notedBy (model prog w) A env fun e s' => R (.error e) s') s₄) (notedBy (model prog w) A env fun e s' => R (.error e) s') s₃
            else ∃ m, m < n ∧ I m s₃) (notedBy (model prog w) A env fun e s' => R (.error e) s') s₂) (notedBy (model prog w) A env fun e s' => R (.error e) s') s₁') (notedBy (model prog w) A env fun e s' => R (.error e) s') s₁) (notedBy (model prog w) A env fun e s' => R (.error e) s') s)
    (n : Nat) (h : I n s) :
    codeAny (model prog w) A (.compLoop (.ListComp elt [⟨target, iter, ifs, 0⟩] scope pos) 0 it acc env) R s := by
  refine codeAny_loop rfl I (fun n s hI => ?_) n h
  show wpAny _ A ((compTurn (.ListComp elt [⟨target, iter, ifs, 0⟩] scope pos) 0 it acc env).onRaise (fun x => do noteFrame x env; theTreesLotGoes x)) _ _ s
  refine wpAny_noted ?_
  rw [compTurn_list]
  refine wpAny_bind (wpAny_standAt (wpAny_bind (wpAny_mono (turn n s hI) (fun r s₁ h₁ => ?_) fun _ _ h' => h')))
  cases r with
  | none => exact wpAny_pure h₁
  | some v =>
    refine wpAny_bind (wpAny_mono h₁ (fun _ s₁' h₁' => ?_) fun _ _ h' => h')
    refine wpAny_bind (wpAny_mono h₁' (fun _ s₂ h₂ => wpAny_bind (wpAny_mono h₂ (fun ok s₃ h₃ => ?_) fun _ _ h' => h')) fun _ _ h' => h')
    cases ok with
    | false => exact wpAny_pure ⟨rfl, h₃⟩
    | true =>
      exact wpAny_bind (wpAny_bind (wpAny_mono h₃ (fun x s₄ h₄ => wpAny_bind (wpAny_mono h₄ (fun _ s₅ h₅ => wpAny_pure (wpAny_pure ⟨rfl, h₅⟩)) fun _ _ h' => h')) fun _ _ h' => h'))
section
variable {X : Cx}
def tLc (wi : TI) (g : TG) (tt : TT) (te : TE) (vs : List Nat) : TE := fun σ H Q => wi σ H fun J H1 => ∀ D, H1 D = none → ∃ W : Nat → Nat → Hp → Prop, (∃ m, W 0 m (upd H1 D (.lst []))) ∧ ∀ i m H, W i m H →
  (J.stop i H ∧ Q (.ref D) H) ∨ (J.go i H ∧ ∃ Nx : Hp → Prop, (∀ H', Nx H' → ∃ m', m' < m ∧ W (i + 1) m' H') ∧ ∀ x H', J.yld i H x H' → g x (wipe σ vs) H' fun σ2 H2 => wipe σ2 vs = wipe σ vs ∧ tt σ2 H2 fun b H3 =>
    if b = true then te σ2 H3 fun y H4 => ∃ acc, H4 D = some (.lst acc) ∧ acc.length < sizeLine ∧ Nx (upd H4 D (.lst (acc ++ [y]))) else Nx H3)
theorem lc_core {pins : List (Addr × Obj)} {s : Shared} {σ : St} {H : Hp} {Q : VK} {elt tg iter : Expr} {ifs : List Expr} {scope : Scope} {own : List (Str × Nat)} {pos pos' : Pos} {wi : TI} {g : TG} {tt : TT} {te : TE} {use : Option (Value → Sem Unit)} {Qf : Value → Shared → Prop}
    (hc : X.calm = true) (hN : X.N.Nodup) (I : Inv X pins σ H s) (hi : PI X tg iter wi) (ok : BlkOk X.N X.env.scope scope own)
    (hg : ∀ (s : Shared) (H : Hp) (C : Addr) (cl : List (Str × Addr)) (fp : List Addr), PG (X.blk s H scope (compEnvC scope cl C X.env) fp) tg g) (ht : ∀ (s : Shared) (H : Hp) (C : Addr) (cl : List (Str × Addr)) (fp : List Addr), PTs (X.blk s H scope (compEnvC scope cl C X.env) fp) ifs tt)
    (he : ∀ (s : Shared) (H : Hp) (C : Addr) (cl : List (Str × Addr)) (fp : List Addr), PE (X.blk s H scope (compEnvC scope cl C X.env) fp) elt te) (hs : ∀ x, foldedSetIterable iter X.env x = pure x)
    (h : tLc wi g tt te (own.map (·.2)) σ H Q)
    (hRR : ∀ D C s' m H', Inv X pins σ H' s' → Q (.ref D) H' → s'.heap.Ns C m → FpOk X pins H' C → compPost (model X.prog X.w) X.A X.xe use Qf (.ref D) C (.ok .next) s') :
    wpAny (model X.prog X.w) X.A (comprehension (.ListComp elt [⟨tg, iter, ifs, 0⟩] scope pos) scope X.env pos' (newList []) false (eval iter X.env) use) Qf X.xe s := by
  have hfree : ∀ y ∈ scope.names, y.2 = .free → ∃ c, X.env.cells.lookup y.1 = some c := fun y hy e => by
    rcases ok.free y hy e with k | k
    · exact I.ok.has _ (.inl k)
    · exact I.ok.has _ (.inr k)
  refine wpAny_comprehension_free (use := use) rfl hs (closure_ok hfree) ok.kind (fun y hy e => by rw [ok.uniq y hy, e])
    (thn (hi pins s σ H _ I h) fun xv s1 hx => thn hx fun itv s2 h2 => ?_)
  obtain ⟨it, fp, tn, J, H2, e, I2, T, st2, f2, q⟩ := h2
  subst e
  refine wpAny_newObj_type (newEnv_comp ?_) (by show 0 ≤ sizeLine; decide)
  generalize hD : s2.heap.objs.size = D
  have hDn : H2 D = none := I2.hok.fresh (Nat.le_of_eq hD)
  obtain ⟨W, ⟨m0, w0⟩, turn⟩ := q D hDn
  generalize hs3 : ({ s2 with heap := s2.heap.push { cls := .type "list", data := .seq ([] : List Value).toArray } } : Shared) = s3
  have I3 : Inv X pins σ (upd H2 D (.lst [])) s3 := by
    rw [← hs3]
    refine I2.laid (t' := s2.toks) (fun b o e => Heap.get?_push_of_some _ e) (Nat.le_of_eq hD) ⟨Nat.zero_le _, [], 0, .nil, ?_⟩
    rw [← hD]
    exact Heap.get?_push_size _ rfl
  have h3 : s3.heap = s2.heap.push { cls := .type "list", data := .seq ([] : List Value).toArray } := by rw [← hs3]
  have sz : ∀ b ∈ fp, b < s2.heap.objs.size := fun b hb => by
    obtain ⟨o, e, _⟩ := T.obj _ _ st2 b hb
    exact Heap.lt_size e
  have f3 : ∀ b ∈ fp, FpOk X pins (upd H2 D (.lst [])) b ∧ b < s3.heap.objs.size := fun b hb => by
    have hlt := sz b hb
    refine ⟨⟨?_, (f2 b hb).2⟩, by rw [h3, Heap.size_push]; exact Nat.lt_succ_of_lt hlt⟩
    rw [upd_ne (by rw [← hD]; exact Nat.ne_of_lt hlt)]
    exact (f2 b hb).1
  have st3 : tn 0 s3.heap := T.keep _ _ _ st2 fun b _ o e => by rw [h3]; exact Heap.get?_push_of_some _ e
  have I4 := block_start I3 ok hN f3
  have pg := hg s3 (upd H2 D (.lst [])) s3.heap.objs.size (cellsFrom (s3.heap.objs.size + 1) scope.names (cloFrom X.env.cells scope.names [])) fp
  have pt := ht s3 (upd H2 D (.lst [])) s3.heap.objs.size (cellsFrom (s3.heap.objs.size + 1) scope.names (cloFrom X.env.cells scope.names [])) fp
  have pe := he s3 (upd H2 D (.lst [])) s3.heap.objs.size (cellsFrom (s3.heap.objs.size + 1) scope.names (cloFrom X.env.cells scope.names [])) fp
  show codeAny _ _ (.compStart (.ListComp elt [⟨tg, iter, ifs, 0⟩] scope pos) 0 (.ref it) (.ref D) (compEnvC scope (cellsFrom (s3.heap.objs.size + 1) scope.names (cloFrom X.env.cells scope.names [])) s3.heap.objs.size X.env)) (compPost (model X.prog X.w) X.A X.xe use Qf (.ref D) s3.heap.objs.size) { s3 with heap := pushCells (s3.heap.push { cls := .type "dict", data := .dict #[] }) scope.names }
  have nfp : ∀ b ∈ fp, (upd H2 D (.lst [])) b = none := fun b hb => (f3 b hb).1.1
  generalize hce : compEnvC scope (cellsFrom (s3.heap.objs.size + 1) scope.names (cloFrom X.env.cells scope.names [])) s3.heap.objs.size X.env = ce at I4 pg pt pe ⊢
  have cL : ce.locals = s3.heap.objs.size := by subst hce; rfl
  generalize hH3 : upd H2 D (.lst []) = H3 at I3 I4 pg pt pe w0 nfp f3
  generalize hs4 : ({ s3 with heap := pushCells (s3.heap.push { cls := .type "dict", data := .dict #[] }) scope.names } : Shared) = s4 at I4 ⊢
  have st4 : tn 0 s4.heap := T.keep _ _ _ st3 fun b _ o e => by rw [← hs4]; exact pushCells_keeps _ _ _ _ (Heap.get?_push_of_some _ e)
  have stat : ∀ {σ' : St} {H' : Hp} {s' : Shared}, Inv (X.blk s3 H3 scope ce fp) [] σ' H' s' → (∀ b ∈ fp, H' b = none) → ∀ b ∈ fp, FpOk (X.blk s3 H3 scope ce fp) [] H' b := fun {σ' H' s'} I' hn b hb =>
    ⟨hn b hb, (I'.ok.exf b hb).1, I'.ok.exfs b hb, .inl hb, fun x c e => (I'.ok.exf b hb).2 x c e, fun p hp => absurd (show p ∈ ([] : List (Addr × Obj)) ++ [] from hp) (by simp)⟩
  have loop : codeAny (model X.prog X.w) X.A (.compLoop (.ListComp elt [⟨tg, iter, ifs, 0⟩] scope pos) 0 (.ref it) (.ref D) ce) (compPost (model X.prog X.w) X.A X.xe use Qf (.ref D) s3.heap.objs.size) s4 := by
    refine compLoop_any (fun n s' => ∃ i H', Inv (X.blk s3 H3 scope ce fp) [] (wipe σ (own.map (·.2))) H' s' ∧ tn i s'.heap ∧ (∀ b ∈ fp, H' b = none) ∧ W i n H') ?_ m0 ⟨0, H3, I4, st4, nfp, w0⟩
    rintro n s5 ⟨i, H5, I5, st5, n5, w5⟩
    rcases turn i n H5 w5 with ⟨stop, qq⟩ | ⟨go, Nx, hNx, step⟩
    · have td := T.done (X.blk s3 H3 scope ce fp) rfl rfl rfl hc i [] s5 _ H5 (fun _ _ => False) I5 (stat I5 n5) st5 stop
      refine thnF td fun r s6 ⟨hr, I6⟩ => ?_
      subst hr
      have I7 : Inv X pins σ H5 s6 := I3.call' (ch := fp) I6.os I6.base I6.hok I6.bare fun b hb => ⟨(f3 b hb).1.2.2.2.1, (f3 b hb).1.2.1, (f3 b hb).1.2.2.2.2.1, (f3 b hb).1.2.2.2.2.2⟩
      have nC : H5 s3.heap.objs.size = none := by
        have z : H5 ce.locals = none := I6.free
        rw [cL] at z
        exact z
      obtain ⟨m, hn, _⟩ := I6.loc
      have hn : s6.heap.Ns ce.locals m := hn
      rw [cL] at hn
      exact hRR D s3.heap.objs.size s6 m H5 I7 qq hn (I3.fpOk (Nat.le_refl _) nC)
    · have ti := T.item (X.blk s3 H3 scope ce fp) rfl rfl rfl hc i [] s5 _ H5 (fun _ _ => False) I5 (stat I5 n5) st5 go
      refine thnF ti fun r s6 ⟨u, hr, h6⟩ => ?_
      subst hr
      refine thnF h6 fun _ s7 ⟨x, H7, I7, r7, y7, st7, n7⟩ => ?_
      have I7' := I7.pinned (stat I7 n7) (T.obj _ _ st7)
      refine thnF (pg _ s7 _ H7 x u _ I7' r7 (step x H7 y7)) fun _ s8 ⟨σ8, H8, I8, hw8, q8⟩ => ?_
      refine thnF (pt _ s8 σ8 H8 _ I8 q8) fun b s9 ⟨H9, I9, q9⟩ => ?_
      have fin : ∀ {s' : Shared} {H' : Hp}, Inv (X.blk s3 H3 scope ce fp) ([] ++ pinsAt fp s7.heap) σ8 H' s' → Nx H' → ∃ m, m < n ∧ ∃ i H', Inv (X.blk s3 H3 scope ce fp) [] (wipe σ (own.map (·.2))) H' s' ∧ tn i s'.heap ∧ (∀ b ∈ fp, H' b = none) ∧ W i m H' := fun {s' H'} I' nx => by
        obtain ⟨m', hm, w'⟩ := hNx H' nx
        have pin' : ∀ b ∈ fp, ∀ o, s7.heap.get? b = some o → s'.heap.get? b = some o ∧ H' b = none := fun b hb o e =>
          let z := I'.pin (b, o) (List.mem_append_right _ (List.mem_append_right _ (mem_pinsAt hb e)))
          ⟨z.1, z.2.1⟩
        have hl : (wipe σ (own.map (·.2))).length = σ8.length := by rw [← hw8, wipe_length]
        refine ⟨m', hm, i + 1, H', (I'.unpinned (pins := [])).weak hl (fun j v e => ?_), T.keep _ _ _ st7 fun b hb o e => (pin' b hb o e).1, fun b hb => ?_, w'⟩
        · rw [← hw8] at e
          exact (wipe_some e).1
        · obtain ⟨o, e, _⟩ := T.obj _ _ st7 b hb
          exact (pin' b hb o e).2
      cases b with
      | false =>
        simp only [Bool.false_eq_true, if_false] at q9 ⊢
        exact fin I9 q9
      | true =>
        simp only [if_true] at q9 ⊢
        refine thnF (pe _ s9 σ8 H9 _ I9 q9) fun z s10 ⟨yv, H10, I10, r10, acc, hD10, hz10, nx⟩ => ?_
        exact app_ok (X := X.blk s3 H3 scope ce fp) I10 hD10 hz10 r10 fun s11 I11 => fin I11 nx
  exact codeAny_compStart_list loop (T.self X.A 0 _ _ _ st4 loop)
theorem pe_lc {elt tg iter : Expr} {ifs : List Expr} {scope : Scope} {own : List (Str × Nat)} {pos : Pos} {wi : TI} {g : TG} {tt : TT} {te : TE} (hc : X.calm = true) (hN : X.N.Nodup) (hi : PI X tg iter wi) (ok : BlkOk X.N X.env.scope scope own)
    (hg : ∀ (s : Shared) (H : Hp) (C : Addr) (cl : List (Str × Addr)) (fp : List Addr), PG (X.blk s H scope (compEnvC scope cl C X.env) fp) tg g) (ht : ∀ (s : Shared) (H : Hp) (C : Addr) (cl : List (Str × Addr)) (fp : List Addr), PTs (X.blk s H scope (compEnvC scope cl C X.env) fp) ifs tt)
    (he : ∀ (s : Shared) (H : Hp) (C : Addr) (cl : List (Str × Addr)) (fp : List Addr), PE (X.blk s H scope (compEnvC scope cl C X.env) fp) elt te) (hs : ∀ x, foldedSetIterable iter X.env x = pure x := by intro _; rfl) :
    PE X (.ListComp elt [⟨tg, iter, ifs, 0⟩] scope pos) (tLc wi g tt te (own.map (·.2))) := by
  intro pins s σ H Q I h
  rw [eval_ListComp]
  refine lc_core hc hN I hi ok hg ht he hs h fun D C s' m H' I' q hn f => ⟨m, hn, fun h'' sb => ?_⟩
  obtain ⟨f0, f1, f2, f3, f4, f5⟩ := f
  exact ⟨.ref D, H', I'.turned (t' := s'.toks) (fun b o hb e => (sb.2 b hb).trans e) f0 f1 f3 f4 f5, rfl, q⟩
end
theorem lc_range {lo : Int} {n : Nat} {g : TG} {tt : TT} {te : TE} {vs : List Nat} {σ : St} {H1 : Hp} {D : Addr} {Qd : Hp → Prop} (Pv : Nat → Hp → Prop) (h0 : Pv 0 (upd H1 D (.lst [])))
    (hs : ∀ i H, i < n → Pv i H → g (.int (lo + i)) (wipe σ vs) H fun σ2 H2 => wipe σ2 vs = wipe σ vs ∧ tt σ2 H2 fun b H3 =>
      if b = true then te σ2 H3 fun y H4 => ∃ acc, H4 D = some (.lst acc) ∧ acc.length < sizeLine ∧ Pv (i + 1) (upd H4 D (.lst (acc ++ [y]))) else Pv (i + 1) H3) (hd : ∀ H, Pv n H → Qd H) :
    ∃ W : Nat → Nat → Hp → Prop, (∃ m, W 0 m (upd H1 D (.lst []))) ∧ ∀ i m H, W i m H →
      ((Itr lo n).stop i H ∧ Qd H) ∨ ((Itr lo n).go i H ∧ ∃ Nx : Hp → Prop, (∀ H', Nx H' → ∃ m', m' < m ∧ W (i + 1) m' H') ∧ ∀ x H', (Itr lo n).yld i H x H' → g x (wipe σ vs) H' fun σ2 H2 => wipe σ2 vs = wipe σ vs ∧ tt σ2 H2 fun b H3 =>
        if b = true then te σ2 H3 fun y H4 => ∃ acc, H4 D = some (.lst acc) ∧ acc.length < sizeLine ∧ Nx (upd H4 D (.lst (acc ++ [y]))) else Nx H3) := by
  refine ⟨fun i m H => m = n - i ∧ i ≤ n ∧ Pv i H, ⟨n, by simp, Nat.zero_le _, h0⟩, ?_⟩
  rintro i m H ⟨rfl, hi, p⟩
  by_cases hlt : i < n
  · refine .inr ⟨hlt, Pv (i + 1), fun H' p' => ⟨n - (i + 1), by omega, rfl, hlt, p'⟩, fun x H' y => ?_⟩
    obtain ⟨e, y⟩ := y
    subst e y
    exact hs i _ hlt p
  · have e : i = n := by omega
    subst e
    exact .inl ⟨Nat.le_refl _, hd H p⟩
theorem lc_list {K : PySem.W.Frag} {a : Addr} {xs : List V} {g : TG} {tt : TT} {te : TE} {vs : List Nat} {σ : St} {H1 : Hp} {D : Addr} {Qd : Hp → Prop} (Pv : Nat → Hp → Prop) (h0 : Pv 0 (upd H1 D (.lst []))) (hl : ∀ i H, i ≤ xs.length → Pv i H → SqL K H a xs)
    (hs : ∀ i x H, xs[i]? = some x → Pv i H → g x (wipe σ vs) H fun σ2 H2 => wipe σ2 vs = wipe σ vs ∧ tt σ2 H2 fun b H3 =>
      if b = true then te σ2 H3 fun y H4 => ∃ acc, H4 D = some (.lst acc) ∧ acc.length < sizeLine ∧ Pv (i + 1) (upd H4 D (.lst (acc ++ [y]))) else Pv (i + 1) H3) (hd : ∀ H, Pv xs.length H → Qd H) :
    ∃ W : Nat → Nat → Hp → Prop, (∃ m, W 0 m (upd H1 D (.lst []))) ∧ ∀ i m H, W i m H →
      ((Itl K a).stop i H ∧ Qd H) ∨ ((Itl K a).go i H ∧ ∃ Nx : Hp → Prop, (∀ H', Nx H' → ∃ m', m' < m ∧ W (i + 1) m' H') ∧ ∀ x H', (Itl K a).yld i H x H' → g x (wipe σ vs) H' fun σ2 H2 => wipe σ2 vs = wipe σ vs ∧ tt σ2 H2 fun b H3 =>
        if b = true then te σ2 H3 fun y H4 => ∃ acc, H4 D = some (.lst acc) ∧ acc.length < sizeLine ∧ Nx (upd H4 D (.lst (acc ++ [y]))) else Nx H3) := by
  refine ⟨fun i m H => m = xs.length - i ∧ i ≤ xs.length ∧ Pv i H, ⟨xs.length, by simp, Nat.zero_le _, h0⟩, ?_⟩
  rintro i m H ⟨rfl, hi, p⟩
  have q := hl i H hi p
  by_cases hlt : i < xs.length
  · refine .inr ⟨⟨xs, xs[i], q, by simp [hlt]⟩, Pv (i + 1), fun H' p' => ⟨xs.length - (i + 1), by omega, rfl, hlt, p'⟩, fun x H' y => ?_⟩
    obtain ⟨e, y⟩ := y
    subst e
    exact hs i x _ (y xs q) p
  · have e : i = xs.length := by omega
    subst e
    exact .inl ⟨⟨xs, q, Nat.le_refl _⟩, hd H p⟩
end L2
namespace L2
open PySem PySem.Spec PyProof.Rows
section
variable {prog : Program} {w : World} {A : Around} {R : Result → Shared → Prop} {s : Shared} {elt t0 i0 t1 i1 : Expr} {ifs0 ifs1 : List Expr} {scope : Scope} {pos : Pos} {it acc : Value} {env : Env}
end
section
variable {X : Cx}
end
end L2
namespace L2
open PySem PySem.Spec PyProof.Rows
section
variable {κ : Type} [DecidableEq κ]
def valV (kvs : List (κ × V)) (k : κ) : Option V := (kvs.find? fun kv => decide (kv.1 = k)).map (·.2)
def putK (kvs : List (κ × V)) (k : κ) (v : V) : List (κ × V) :=
  if (kvs.any fun kv => decide (kv.1 = k)) = true then kvs.map (fun kv => if kv.1 = k then (kv.1, v) else kv) else kvs ++ [(k, v)]
def dropK (kvs : List (κ × V)) (k : κ) : List (κ × V) := kvs.filter fun kv => decide (kv.1 ≠ k)
theorem valV_pos {p : κ × V} {r : List (κ × V)} {k : κ} (e : p.1 = k) : valV (p :: r) k = some p.2 := by simp [valV, List.find?_cons, e]
theorem valV_neg {p : κ × V} {r : List (κ × V)} {k : κ} (e : ¬ p.1 = k) : valV (p :: r) k = valV r k := by simp [valV, List.find?_cons, e]
theorem RelO.getD {o : Option V} {u : Option Value} {d : V} {d' : Value} (r : RelO o u) (rd : RelV d d') : RelV (o.getD d) (u.getD d') := by
  cases o with
  | none => cases u with
    | none => exact rd
    | some _ => exact (show False from r).elim
  | some _ => cases u with
    | none => exact (show False from r).elim
    | some _ => exact r
theorem KV.val {kvs : List (κ × V)} {vs : List (κ × Value)} (r : KV kvs vs) (k : κ) : RelO (valV kvs k) (valueAt vs k) := by
  unfold KV at r
  induction r with
  | nil => exact True.intro
  | @cons p q ps qs h t ih =>
    obtain ⟨h1, h2⟩ := h
    by_cases e : p.1 = k
    · have e' : q.1 = k := h1.symm.trans e
      have b : valueAt (q :: qs) k = some q.2 := by simp [valueAt, List.find?_cons, e']
      rw [valV_pos e, b]; exact h2
    · have e' : ¬ q.1 = k := fun z => e (h1.trans z)
      have b : valueAt (q :: qs) k = valueAt qs k := by simp [valueAt, List.find?_cons, e']
      rw [valV_neg e, b]; exact ih
theorem KV.any {kvs : List (κ × V)} {vs : List (κ × Value)} (r : KV kvs vs) (k : κ) : (kvs.any fun kv => decide (kv.1 = k)) = vs.any fun kv => decide (kv.1 = k) := by
  unfold KV at r
  induction r with
  | nil => rfl
  | cons h t ih => rw [List.any_cons, List.any_cons, ih, h.1]
theorem KV.drop {kvs : List (κ × V)} {vs : List (κ × Value)} (r : KV kvs vs) (k : κ) : KV (dropK kvs k) (without vs k) := by
  unfold KV at r ⊢
  unfold dropK without
  induction r with
  | nil => exact .nil
  | @cons p q ps qs h t ih =>
    obtain ⟨h1, h2⟩ := h
    rw [List.filter_cons, List.filter_cons]
    by_cases e : p.1 = k
    · have a : ¬ decide (p.1 ≠ k) = true := by simp [e]
      have b : ¬ decide (q.1 ≠ k) = true := by simp [h1.symm.trans e]
      rw [if_neg a, if_neg b]; exact ih
    · have e' : ¬ q.1 = k := fun z => e (h1.trans z)
      have a : decide (p.1 ≠ k) = true := by simp [e]
      have b : decide (q.1 ≠ k) = true := by simp [e']
      rw [if_pos a, if_pos b]; exact .cons ⟨h1, h2⟩ ih
theorem KV.keys {kvs : List (κ × V)} {vs : List (κ × Value)} (r : KV kvs vs) : kvs.map (·.1) = vs.map (·.1) := by
  unfold KV at r
  induction r with
  | nil => rfl
  | cons h t ih => rw [List.map_cons, List.map_cons, ih, h.1]
theorem KV.length {kvs : List (κ × V)} {vs : List (κ × Value)} (r : KV kvs vs) : kvs.length = vs.length := Paired.length r
end
abbrev KT (H : Hp) : List (List Key × V) → List (List Key × Addr × Value) → Prop := Paired fun p q => p.1 = q.1 ∧ H q.2.1 = some (.tup (p.1.map kV)) ∧ RelV p.2 q.2.2
theorem KT.val {H : Hp} {kvs : List (List Key × V)} {xs : List (List Key × Addr × Value)} (r : KT H kvs xs) (k : List Key) : RelO (valV kvs k) ((atKey xs k).map (·.2)) := by
  induction r with
  | nil => exact True.intro
  | @cons p q ps qs h t ih =>
    obtain ⟨h1, _, h2⟩ := h
    by_cases e : p.1 = k
    · have e' : q.1 = k := h1.symm.trans e
      have b : atKey (q :: qs) k = some q.2 := by simp [atKey, List.find?_cons, e']
      rw [valV_pos e, b]; exact h2
    · have e' : ¬ q.1 = k := fun z => e (h1.trans z)
      have b : atKey (q :: qs) k = atKey qs k := by simp [atKey, List.find?_cons, e']
      rw [valV_neg e, b]; exact ih
theorem KT.keeps {H H' : Hp} {kvs : List (List Key × V)} {xs : List (List Key × Addr × Value)} (r : KT H kvs xs) (ht : ∀ b ys, H b = some (.tup ys) → H' b = some (.tup ys)) : KT H' kvs xs :=
  Paired.mapP r fun _ _ z => ⟨z.1, ht _ _ z.2.1, z.2.2⟩
section
variable {P : Program} {w : World} {H : Hp} {h : Heap} {a : Addr}
end
def DGet (H : Hp) (a : Addr) (y : V) (r : Option V) : Prop :=
  (∃ kvs k, Rd H a (.dK kvs) ∧ y = kV k ∧ r = valV kvs k) ∨ ∃ kvs k b, Rd H a (.dT kvs) ∧ y = .ref b ∧ H b = some (.tup (k.map kV)) ∧ r = valV kvs k
def DPut (H : Hp) (a : Addr) (y v : V) (H' : Hp) : Prop :=
  (∃ kvs k, H a = some (.dK kvs) ∧ y = kV k ∧ kvs.length < sizeLine ∧ H' = upd H a (.dK (putK kvs k v))) ∨
  ∃ kvs k b, H a = some (.dT kvs) ∧ y = .ref b ∧ H b = some (.tup (k.map kV)) ∧ kvs.length < sizeLine ∧ H' = upd H a (.dT (putK kvs k v))
theorem DGet.k {H : Hp} {a : Addr} {kvs : List (Key × V)} {k : Key} (e : H a = some (.dK kvs)) : DGet H a (kV k) (valV kvs k) := .inl ⟨kvs, k, .inl e, rfl, rfl⟩
theorem DGet.t {H : Hp} {a b : Addr} {kvs : List (List Key × V)} {k : List Key} (e : H a = some (.dT kvs)) (eb : H b = some (.tup (k.map kV))) : DGet H a (.ref b) (valV kvs k) := .inr ⟨kvs, k, b, .inl e, rfl, eb, rfl⟩
theorem DPut.k {H : Hp} {a : Addr} {kvs : List (Key × V)} {k : Key} {v : V} (e : H a = some (.dK kvs)) (hl : kvs.length < sizeLine) : DPut H a (kV k) v (upd H a (.dK (putK kvs k v))) := .inl ⟨kvs, k, e, rfl, hl, rfl⟩
theorem DPut.t {H : Hp} {a b : Addr} {kvs : List (List Key × V)} {k : List Key} {v : V} (e : H a = some (.dT kvs)) (eb : H b = some (.tup (k.map kV))) (hl : kvs.length < sizeLine) :
    DPut H a (.ref b) v (upd H a (.dT (putK kvs k v))) := .inr ⟨kvs, k, b, e, rfl, eb, hl, rfl⟩
section
variable {X : Cx} {pins : List (Addr × Obj)} {σ : St} {H : Hp} {s : Shared} {a : Addr} {y v : V} {u r : Value} {o : Option V} {A : Around} {E : Value → Shared → Prop}
end
section
variable {X : Cx} {pins : List (Addr × Obj)} {σ : St} {H : Hp} {s : Shared} {a : Addr} {kvs : List (Key × V)} {k : Key} {u : Value} {A : Around} {E : Value → Shared → Prop}
end
def NoSl (i : Expr) : Prop := ∀ ov iv, subscripted i false ov iv = operate [ov, iv] (getItem ov iv)
theorem subD_of {prog : Program} {w : World} {A : Around} {E : Value → Shared → Prop} {s : Shared} {env : Env} {value slice : Expr} {pos : Pos} {T id : String} {Q : Value → Shared → Prop}
    (hl : typeLookup (.type T) "__getitem__" = pure (some (.builtin id))) (hs : NoSl slice)
    (h : wpAny (model prog w) A (eval value env) (fun o s₁ => wpAny (model prog w) A (eval slice env) (fun i s₂ => s₂.TypeIs o T ∧ wpAny (model prog w) A (getItem o i) Q E s₂) E s₁) E s) :
    wpAny (model prog w) A (eval (.Subscript value slice pos) env) Q E s := by
  refine Subscript_ (wpAny_mono h (fun o s₁ h₁ => wpAny_mono h₁ (fun i s₂ h₂ => ?_) fun _ _ x => x) fun _ _ x => x)
  obtain ⟨hT, h₂⟩ := h₂
  unfold subscriptTail
  refine wpAny_bind ?_
  rw [getitemInPython_of_ne hT.not_modules]
  refine wpAny_bind (wpAny_specialOf hT hl ?_)
  have fin : wpAny (model prog w) A (subscripted slice false o i) (fun r s₃ => wpAny (model prog w) A (letTemporaryGo value o r >>= fun _ => pure r) Q E s₃) E s₂ := by
    rw [hs o i]
    exact wpAny_operating (wpAny_mono h₂ (fun r s₃ h₃ => wpAny_bind (wpAny_letTemporaryGo (wpAny_pure h₃))) fun _ _ x => x)
  first
    | exact wpAny_pure (wpAny_bind fin)
    | exact wpAny_bind (wpAny_pure (wpAny_bind fin))
    | exact wpAny_bind fin
section
variable {X : Cx} {o i e value : Expr} {pos pos' tpos : Pos} {td ty tv : TE}
end
section
variable {X : Cx} {pos : Pos}
end
structure M1 (X : Cx) (o : Expr) (m : Str) (apos : Pos) (e : Expr) (cpos : Pos) : Prop where
  base : attributeBase o m X.env (eval o X.env) = eval o X.env
  few : ((backTo cpos (starEach [e] X.env)).all (fun x => !x.1) && (backToKw cpos (keywordEach [] X.env)).all (fun x => x.1.isSome)
    && decide (([e] : List Expr).length + ([] : List Keyword).length + (if ([] : List Keyword).isEmpty then 0 else 1) < 30)) = true
  line : (apos.endLine == cpos.line) = true
  trees : backTo cpos (starEach [e] X.env) = [(false, eval e X.env)]
structure M2 (X : Cx) (o : Expr) (m : Str) (apos : Pos) (e f : Expr) (cpos : Pos) : Prop where
  base : attributeBase o m X.env (eval o X.env) = eval o X.env
  few : ((backTo cpos (starEach [e, f] X.env)).all (fun x => !x.1) && (backToKw cpos (keywordEach [] X.env)).all (fun x => x.1.isSome)
    && decide (([e, f] : List Expr).length + ([] : List Keyword).length + (if ([] : List Keyword).isEmpty then 0 else 1) < 30)) = true
  line : (apos.endLine == cpos.line) = true
  trees : backTo cpos (starEach [e, f] X.env) = [(false, eval e X.env), (false, eval f X.env)]
section
variable {X : Cx} {pins : List (Addr × Obj)} {σ : St} {H : Hp} {s : Shared} {a : Addr} {y d : V} {u r : Value} {o : Option V} {A : Around} {E : Value → Shared → Prop}
end
section
variable {X : Cx} {o e f : Expr} {apos cpos : Pos} {td ty tx : TE}
end
section
variable {X : Cx} {pins : List (Addr × Obj)} {σ : St} {H : Hp} {s : Shared} {a : Addr} {kvs : List (Key × V)} {A : Around} {E : Value → Shared → Prop}
end
section
variable {X : Cx} {pins : List (Addr × Obj)} {σ : St} {H : Hp} {s : Shared} {a : Addr} {y : V} {u : Value} {A : Around} {E : Value → Shared → Prop}
end
end L2
namespace L2
open PySem PySem.Spec PyProof.Rows
section
variable {prog : Program} {w : World} {A : Around} {E : Value → Shared → Prop}
end
section
variable {X : Cx}
end
end L2
namespace L2
open PySem PySem.Spec PyProof.Rows
section
variable {X : Cx} {pins : List (Addr × Obj)} {σ : St} {H : Hp} {s : Shared} {h' : Heap}
theorem Inv.turnedNew {t' : Nat} {ch : List Addr} {T : Addr} {ob : HO} (I : Inv X pins σ H s) (k : ∀ b o, b ∉ ch → s.heap.get? b = some o → h'.get? b = some o) (hf : ∀ b ∈ ch, FpOk X pins H b) (hT : s.heap.objs.size ≤ T)
    (new : ObjOk X.prog X.w (upd H T ob) h' T ob) : Inv X pins σ (upd H T ob) { s with heap := h', toks := t' } := by
  have hn : H T = none := I.hok.fresh hT
  have nit : ∀ b u, H b = some u → b ∉ ch := fun b u e z => by
    have q := (hf b z).1
    rw [q] at e; cases e
  refine I.step (g' := s.gens) (d' := s.drawn) (ch := ch) (fun b hb => ⟨(hf b hb).2.2.2.1, (hf b hb).2.1, (hf b hb).2.2.2.2.1, (hf b hb).2.2.2.2.2⟩) (fun b o _ _ hc e _ => k b o hc e) (fun b o _ _ hc e _ => ⟨o.slots, k b o hc e⟩)
    (fun b o _ e n => ?_) (fun b o hc e => ⟨o, k b o hc e⟩) (fun b xs e => ?_) (fun b o u e => ?_) (fun b ps e => ⟨#[], ?_⟩) (fun m hm => ?_) (fun b u e => ?_) I.bare
  · rw [upd_ne (Nat.ne_of_lt (Nat.lt_of_lt_of_le (Heap.lt_size e) hT))]; exact n
  · rw [upd_ne (ne_of_none e hn)]; exact e
  · rw [upd_ne (ne_of_none e hn)]; exact e
  · rw [upd_ne (ne_of_none e hn), e]; simp
  · obtain ⟨o, es, ep, ho, r⟩ := hm
    exact ⟨o, es, ep, k _ o (fun z => (hf _ z).2.1 rfl) ho, r⟩
  · by_cases hb : b = T
    · subst hb
      rw [upd_same] at e
      cases e
      exact new
    · rw [upd_ne hb] at e
      refine (I.hok b u e).stay (fun c v hc q => k c v ?_ q) (fun c q => by rw [upd_ne (ne_of_none q hn)]; exact q) fun c xs q => by rw [upd_ne (ne_of_none q hn)]; exact q
      rcases hc with z | z
      · rw [z]; exact nit b u e
      · exact nit c _ z
end
section
variable {X : Cx}
theorem pi_one {tg : Expr} {pins : List (Addr × Obj)} {σ : St} {H : Hp} {s : Shared} {R : It → Hp → Prop} {J : It} {tn : Nat → Heap → Prop} {tk : Nat} (I : Inv X pins σ H s) (o : Obj)
    (T : Turn X.prog X.w X.K tg J [s.heap.objs.size] s.heap.objs.size tn) (st : tn 0 (s.heap.push o)) (q : R J H) : PIE X pins σ tg R (.ref s.heap.objs.size) { s with heap := s.heap.push o, toks := tk } := by
  refine ⟨s.heap.objs.size, [s.heap.objs.size], tn, J, H, rfl, I.kept fun b ob e => Heap.get?_push_of_some _ e, T, st, fun b hb => ?_, q⟩
  have e : b = s.heap.objs.size := by simpa using hb
  subst e
  exact I.fpOk (Nat.le_refl _) (I.hok.fresh (Nat.le_refl _))
end
def Itc (lo c : Int) (n : Nat) : It := ⟨fun i _ => i < n, fun i H x H' => H' = H ∧ x = .int (lo + (i : Nat) * c), fun i _ => n ≤ i⟩
theorem turn_rangeC {P : Program} {w : World} {K : PySem.W.Frag} {tg : Expr} (it : Addr) (lo c : Int) (n : Nat) : Turn P w K tg (Itc lo c n) [it] it (fun i h => IsRangeIter h it (lo + (i : Nat) * c) ((n : Int) - (i : Nat)) c) where
  mem := by simp
  obj := fun i h st b hb => by
    have e : b = it := by simpa using hb
    subst e
    exact ⟨_, st, fun v z => nomatch z⟩
  keep := fun i h h' st k => k it (by simp) _ st
  item := by
    intro X hP hw hK hc i pins s σ H E I hf st hg
    subst hP hw hK
    obtain ⟨f0, f1, f2, f3, f4, f5⟩ := hf it (by simp)
    have W := Walks.range (prog := X.prog) (w := X.w) (I.ok.hd hc) it lo c n
    refine W.item i s _ _ hg st fun v h' tk hv st' kk => ?_
    obtain ⟨t, rfl⟩ := hv
    have I1 : Inv X pins σ H { s with heap := h', toks := tk } := I.turned (fun b o hb e => kk b o (by simpa using hb) e) f0 f1 f3 f4 f5
    exact ⟨_, rfl, go_of (s := { s with heap := h', toks := tk }) (n := "range_iterator") st' rfl rfl (by decide) ⟨.int (lo + (i : Nat) * c), H, I1, ⟨t, rfl⟩, ⟨rfl, rfl⟩, st', fun b hb => (hf b hb).1⟩⟩
  done := by
    intro X hP hw hK hc i pins s σ H E I hf st hg
    subst hP hw hK
    obtain ⟨f0, f1, f2, f3, f4, f5⟩ := hf it (by simp)
    exact wpAny_pyNext_range_end (I.ok.hd hc) st (by have : n ≤ i := hg; omega) fun h' eb => ⟨rfl, I.turned (t' := s.toks) (fun b o hb e => eb b o hb e) f0 f1 f3 f4 f5⟩
  self := fun A i s Q E st h => wpAny_pyIter_rangeiter st h
def RgC (i j c : Int) (n : Nat) : Prop := c ≠ 0 ∧ c.natAbs < 1073741824 ∧ Builtin.Range.small i j c = true ∧ Builtin.Range.rangeSize i j c = n
theorem RgC.neg {i j : Int} (ha : -(2 ^ 62) ≤ i) (ha' : i < 2 ^ 62) (hb : -(2 ^ 62) ≤ j) (hb' : j < 2 ^ 62) : RgC i j (-1) (i - j).toNat :=
  ⟨by decide, by decide, PySem.W.small_down ha ha' hb hb', PySem.W.rangeSize_downNat i j⟩
def iRng3 (ta : TA) : TI := fun σ H R => ta σ H fun vs H1 => ∃ (i j c : Int) (n : Nat), vs = [.int i, .int j, .int c] ∧ RgC i j c n ∧ R (Itc i c n) H1
section
variable {X : Cx} {tg : Expr}
theorem pi_range3 {a b c : Expr} {ta : TA} {p pos : Pos} (hg : Gl X "range") (hm : X.mg "range" = none) (ha : PA X [a, b, c] ta)
    (hs : starEach [a, b, c] X.env = (false, eval a X.env) :: starEach [b, c] X.env := by rfl) (hpl : (backTo pos (starEach [b, c] X.env)).any (·.1) = false := by rfl) :
    PI X tg (.Call (.Name "range" p) [a, b, c] [] pos) (iRng3 ta) := by
  intro pins s σ H R I h
  refine Call_ (ld_blt I hg hm boot_range (PyProof.Rows.callWith_type1 (thn (ha pos pins s σ H _ I h) fun us s1 ⟨vs, H1, I1, r1, q1⟩ => ?_) hs hpl))
  obtain ⟨i, j, k, n, e, ⟨c0, c1, c2, c3⟩, q⟩ := q1
  subst e
  cases r1 with
  | cons r rr =>
    cases rr with
    | cons r' rr =>
      cases rr with
      | cons r'' rr =>
        cases rr
        obtain ⟨t, rfl⟩ := r
        obtain ⟨t', rfl⟩ := r'
        obtain ⟨t'', rfl⟩ := r''
        refine call_range_3 c0 ?_ (.inl (PyProof.noPylong_small c1))
        refine wpAny_pyIter_range (IsRange.new ..) c2 ?_
        have I2 : Inv X pins σ H1 { s1 with heap := s1.heap.push { cls := .type "range", data := .fields #[.int i t, .int j t', .int k t''] } } := I1.kept (t' := s1.toks) fun b o e => Heap.get?_push_of_some _ e
        refine pi_one (tk := s1.toks) I2 _ (turn_rangeC _ i k n) ?_ q
        have e1 : i + ((0 : Nat) : Int) * k = i := by simp
        have e2 : (n : Int) - ((0 : Nat) : Int) = Builtin.Range.rangeSize i j k := by rw [c3]; simp
        show IsRangeIter _ _ (i + ((0 : Nat) : Int) * k) ((n : Int) - ((0 : Nat) : Int)) k
        rw [e1, e2]
        exact Heap.get?_push_size _ rfl
end
theorem for_rangeC {lo c : Int} {n : Nat} {g : TG} {tb : TS} {D : Ends} {σ : St} {H : Hp} (Pv : Nat → St → Hp → Prop) (h0 : Pv 0 σ H)
    (hs : ∀ i σ H, i < n → Pv i σ H → g (.int (lo + (i : Nat) * c)) σ H fun σ2 H2 => tb { D with nx := Pv (i + 1), ct := Pv (i + 1), bk := D.nx } σ2 H2) (hd : ∀ σ H, Pv n σ H → D.nx σ H) :
    ∃ W : Nat → Nat → St → Hp → Prop, (∃ m, W 0 m σ H) ∧ ∀ i m σ H, W i m σ H →
      ((Itc lo c n).stop i H ∧ D.nx σ H) ∨ ((Itc lo c n).go i H ∧ ∃ N : St → Hp → Prop, (∀ σ' H', N σ' H' → ∃ m', m' < m ∧ W (i + 1) m' σ' H') ∧ ∀ x H', (Itc lo c n).yld i H x H' → g x σ H' fun σ2 H2 => tb { D with nx := N, ct := N, bk := D.nx } σ2 H2) := by
  refine ⟨fun i m σ H => m = n - i ∧ i ≤ n ∧ Pv i σ H, ⟨n, by simp, Nat.zero_le _, h0⟩, ?_⟩
  rintro i m σ H ⟨rfl, hi, p⟩
  by_cases hlt : i < n
  · refine .inr ⟨hlt, Pv (i + 1), fun σ' H' p' => ⟨n - (i + 1), by omega, rfl, hlt, p'⟩, fun x H' y => ?_⟩
    obtain ⟨e, y⟩ := y
    subst e y
    exact hs i σ _ hlt p
  · have e : i = n := by omega
    subst e
    exact .inl ⟨Nat.le_refl _, hd σ H p⟩
section
variable {X : Cx} {tg : Expr}
end
section
variable {prog : Program} {w : World} {A : Around} {E : Value → Shared → Prop} {s : Shared}
end
section
variable {X : Cx} {pins : List (Addr × Obj)} {σ : St} {H : Hp} {s : Shared} {d : Addr} {o : Obj}
end
section
variable {P : Program} {w : World} {K : PySem.W.Frag} {tg : Expr} {d : Addr} {o : Obj} {es : Array DictEntry} {ep : Nat}
end
section
variable {X : Cx} {tg e : Expr} {td : TE} {apos cpos : Pos}
end
def Ite (K : PySem.W.Frag) (a : Addr) : It :=
  ⟨fun i H => ∃ (xs : List V) (x : V), SqL K H a xs ∧ xs[i]? = some x, fun i H v H' => ∃ T x, v = .ref T ∧ H T = none ∧ H' = upd H T (.tup [.int (i : Nat), x]) ∧ ∀ xs, SqL K H a xs → xs[i]? = some x, fun i H => ∃ xs : List V, SqL K H a xs ∧ xs.length ≤ i⟩
theorem turn_enum {P : Program} {w : World} {K : PySem.W.Frag} {elts : List Expr} {kk : Nat} {tpos : Pos} (a e it : Addr) :
    Turn P w K (.Tuple elts kk tpos) (Ite K a) [e, it] e (fun i h => (∃ old, IsEnum h e it ((i : Nat) : Int) old) ∧ h.IsListIter it a i ∧ e ≠ it) where
  mem := by simp
  obj := fun i h st b hb => by
    obtain ⟨⟨old, he⟩, ⟨o, ho, hc, hd⟩, _⟩ := st
    have e' : b = e ∨ b = it := by simpa using hb
    rcases e' with z | z
    · rw [z]; exact ⟨_, he, fun v q => nomatch q⟩
    · rw [z]; exact ⟨o, ho, fun v q => by rw [hd] at q; cases q⟩
  keep := fun i h h' st k => let ⟨⟨old, he⟩, hi, hne⟩ := st; ⟨⟨old, k e (by simp) _ he⟩, hi.at fun o q => k it (by simp) o q, hne⟩
  item := by
    intro X hP hw hK hc i pins s σ H E I hf st hg
    subst hP hw hK
    obtain ⟨⟨old, he⟩, hit, hne⟩ := st
    obtain ⟨xs, x, hq, hx⟩ := hg
    obtain ⟨its, rv, p, hz⟩ := I.list hq
    obtain ⟨u, hu, ru⟩ := rv.get hx
    have hel : e < s.heap.objs.size := Heap.lt_size he
    have hil : it < s.heap.objs.size := by obtain ⟨_, q, _⟩ := hit; exact Heap.lt_size q
    refine wpAny_pyNext_enum_item he hit p.isList (x := u) (by simpa using hu) hne fun h' ho hit' hT hsz hk => ?_
    refine ⟨_, rfl, wpAny_letOwnedTupleGo_enum (s := { s with heap := h', toks := s.toks + 1 }) ho fun h'' he' sb => ?_⟩
    have hT2 : h''.get? s.heap.objs.size = some { cls := .type "tuple", data := .seq #[.int i s.toks, u] } := (sb.2 _ (Nat.ne_of_gt hel)).trans hT
    have new : ObjOk X.prog X.w (upd H s.heap.objs.size (.tup [.int (i : Nat), x])) h'' s.heap.objs.size (.tup [.int (i : Nat), x]) :=
      ⟨by show 2 ≤ sizeLine; decide, [.int i s.toks, u], .cons ⟨_, rfl⟩ (.cons ru .nil), ⟨_, hT2, rfl, _, rfl⟩⟩
    have I1 : Inv X pins σ (upd H s.heap.objs.size (.tup [.int (i : Nat), x])) { s with heap := h'', toks := s.toks + 1 } :=
      I.turnedNew (ch := [e, it]) (fun b ob hb q => (sb.2 b (fun z => hb (by simp [z]))).trans (hk b ob (fun z => hb (by simp [z])) (fun z => hb (by simp [z])) q)) hf (Nat.le_refl _) new
    refine ⟨.ref s.heap.objs.size, _, I1, rfl, ⟨_, x, rfl, I.hok.fresh (Nat.le_refl _), rfl, fun ys hy => by rw [I.list_inj hy hq]; exact hx⟩, ⟨⟨u, ?_⟩, hit'.at fun o q => (sb.2 it (Ne.symm hne)).trans q, hne⟩, fun b hb => ?_⟩
    · have e1 : ((i + 1 : Nat) : Int) = (i : Int) + 1 := by omega
      rw [e1]; exact he'
    · have hb' : b < s.heap.objs.size := by
        have e' : b = e ∨ b = it := by simpa using hb
        rcases e' with z | z
        · rw [z]; exact hel
        · rw [z]; exact hil
      rw [upd_ne (Nat.ne_of_lt hb')]
      exact (hf b hb).1
  done := by
    intro X hP hw hK hc i pins s σ H E I hf st hg
    subst hP hw hK
    obtain ⟨⟨old, he⟩, hit, hne⟩ := st
    obtain ⟨xs, hq, hx⟩ := hg
    obtain ⟨its, rv, p, hz⟩ := I.list hq
    obtain ⟨f0, f1, f2, f3, f4, f5⟩ := hf it (by simp)
    have hl := rv.length
    exact wpAny_pyNext_enum_end (I.ok.hd hc) he hit p.isList (by simp; omega) fun h' eb => ⟨rfl, I.turned (t' := s.toks) (fun b o hb q => eb b o hb q) f0 f1 f3 f4 f5⟩
  self := fun A i s Q E st h => let ⟨⟨_, he⟩, _⟩ := st; wpAny_pyIter_enum he h
def iEnum (K : PySem.W.Frag) (ta : TA) : TI := fun σ H R => ta σ H fun vs H1 => ∃ a xs, vs = [.ref a] ∧ SqL K H1 a xs ∧ R (Ite K a) H1
theorem pi_enum {X : Cx} {e : Expr} {ta : TA} {p pos tpos : Pos} {elts : List Expr} {kk : Nat} (hg : Gl X "enumerate") (hm : X.mg "enumerate" = none) (ha : PA X [e] ta) (hs : starEach [e] X.env = [(false, eval e X.env)] := by rfl) :
    PI X (.Tuple elts kk tpos) (.Call (.Name "enumerate" p) [e] [] pos) (iEnum X.K ta) := by
  intro pins s σ H R I h
  refine Call_ (ld_blt I hg hm boot_enumerate (PyProof.Rows.callWith_type1 (thn (ha pos pins s σ H _ I h) fun us s1 ⟨vs, H1, I1, r1, q1⟩ => ?_) hs rfl))
  obtain ⟨a, xs, ex, hq, q⟩ := q1
  subst ex
  cases r1 with
  | cons r rr =>
    cases rr
    cases r
    obtain ⟨its, rv, p', hz⟩ := I1.list hq
    refine call_enumerate_list p'.isList fun h' he hit hsz hk => wpAny_pyIter_enum he ?_
    have I2 : Inv X pins σ H1 { s1 with heap := h' } := I1.kept (t' := s1.toks) hk
    refine ⟨s1.heap.objs.size + 1, [s1.heap.objs.size + 1, s1.heap.objs.size], _, _, H1, rfl, I2, turn_enum a (s1.heap.objs.size + 1) s1.heap.objs.size, ⟨⟨.none, he⟩, hit, Nat.succ_ne_self _⟩, fun b hb => ?_, q⟩
    have e' : b = s1.heap.objs.size + 1 ∨ b = s1.heap.objs.size := by simpa using hb
    have hle : s1.heap.objs.size ≤ b := by
      rcases e' with z | z
      · rw [z]; exact Nat.le_add_right _ _
      · rw [z]; exact Nat.le_refl _
    exact I1.fpOk hle (I1.hok.fresh hle)
end L2
section
namespace Bits
open PySem PyProof.Rows
end Bits
end
section
namespace TL
open PySem PySem.Builtin PySem.Builtin.Str PySem.StrLaws
abbrev tl (x : Str) : List Nat := x.cps.toList
def pre (S l : List Nat) : Bool := l.take S.length == S
def par (S : List Nat) : List Nat → List Nat → Option (List Nat × List Nat)
  | _, [] => none
  | acc, c :: r => if pre S (c :: r) = true then some (acc, (c :: r).drop S.length) else par S (acc ++ [c]) r
end TL
end
namespace L2
open PySem PySem.Spec PyProof.Rows
section
variable {X : Cx} {pins : List (Addr × Obj)} {σ : St} {H : Hp} {s : Shared} {Q : VK}
end
section
variable {X : Cx}
end
section
variable {X : Cx} {o e : Expr} {to te : TE}
end
end L2
namespace L2
open PySem PySem.Spec PyProof.Rows
section
variable {X : Cx}
end
theorem IsPart.raw {v : Value} {o : Option Int} (p : IsPart v o) : ∃ l : Option (Int × Tok), v = partValue l ∧ l.map (·.1) = o := by
  cases p with
  | none => exact ⟨none, rfl, rfl⟩
  | int i t => exact ⟨some (i, t), rfl, rfl⟩
end L2
namespace Att
open PySem PySem.W PySem.Calls PyProof.Rows
section
variable {prog : Program} {w : World} {A : Around} {E : Value → Shared → Prop} {s : Shared} {K : Frag}
end
end Att
namespace L2
open PySem PySem.Spec PyProof.Rows
end L2
namespace L2
open PySem PySem.Spec PyProof.Rows
end L2
namespace L2
open PySem PySem.Spec PyProof.Rows
def inClass (s : Stmt) (j : Nat) : Stmt := match s with
  | .ClassDef _ _ _ body _ _ _ _ _ _ _ => body.getD j (.Pass ⟨0, 0, 0, 0⟩)
  | _ => .Pass ⟨0, 0, 0, 0⟩
def defArgs (s : Stmt) : Arguments := match s with
  | .FunctionDef _ a _ _ _ _ _ _ _ _ => a
  | _ => { posonlyargs := [], args := [], vararg := none, kwonlyargs := [], kw_defaults := [], kwarg := none, defaults := [] }
def defBody (s : Stmt) : List Stmt := match s with
  | .FunctionDef _ _ b _ _ _ _ _ _ _ => b
  | _ => []
def defScope (s : Stmt) : Scope := match s with
  | .FunctionDef _ _ _ _ _ _ sc _ _ _ => sc
  | _ => { kind := .function, names := [], isGenerator := false, isCoroutine := false }
abbrev CX0 : CXT := fun _ _ _ _ _ _ => False
abbrev E0 : XK := fun _ _ _ => False
theorem pass0 {X : Cx} : Passes CX0 X E0 := fun _ _ _ _ _ _ _ h => h.elim
structure Fun (K : PySem.W.Frag) (x qual : Str) (st : Stmt) (f : Addr) (fd : FuncData) : Prop where
  ex : ∃ (oc : Value) (od : Option Addr) (kV doc pm : Value) (an : Option Addr) (cdv ct : Value) (osl : Array (Option Value)),
    fd = PySem.W.fnOf x qual (defArgs st) (defBody st) (defScope st) .none kV doc pm an cdv ct ∧ K.lookup f = some ⟨oc, od, .func fd, osl⟩ ∧ PySem.W.codeIn K cdv qual = true
  kp : PySem.W.keepIn K (.ref f) = true
section
variable {P : Program} {w : World} {K : PySem.W.Frag} {mg : Str → Option Value} {base : Heap}
theorem Fun.ok {x qual : Str} {st : Stmt} {f : Addr} {fd : FuncData} {N ps : List Str} {k : Nat} {sp : Sp} (F : Fun K x qual st f fd) (S : FnScope N ps (defScope st)) (len : ∀ vs H Q E, sp vs H Q E → vs.length = ps.length)
    (hbody : ∀ (cdv : Value) (A : Around) (outer : List Env) (s : Shared) (H : Hp) (vs : List V) (Q : VK) (E : XK), Room k (A.deeper (envOfC qual (defScope st) s.heap.objs.size f cdv)) → sp vs H Q E →
      ∃ t, PSs (cxOf CX0 P w K mg base N qual (defScope st) f cdv A outer s H E).nox (defBody st) t ∧ t { nx := fun _ H' => Q .non H', rt := Q } (start N vs) H) : FnOk P w K mg base CX0 (k + 1) f fd ps sp := by
  obtain ⟨oc, od, kV, doc, pm, an, cdv, ct, osl, rfl, lk, hcd⟩ := F.ex
  refine fn_of lk hcd S len fun A outer s H vs Q E hr hsp => ?_
  obtain ⟨t, h, q⟩ := hbody cdv A outer s H vs Q E hr hsp
  exact ⟨t, h.nox, q⟩
theorem Fun.binds {x qual : Str} {st : Stmt} {f : Addr} {fd : FuncData} {ps : List Str} (F : Fun K x qual st f fd)
    (h : ∀ (kV doc pm : Value) (an : Option Addr) (cdv ct : Value) (us : List Value), us.length = ps.length → bindArgs (PySem.W.fnOf x qual (defArgs st) (defBody st) (defScope st) .none kV doc pm an cdv ct) ⟨us, []⟩ = pure (ps.zip us)) : Binds K fd ps [] := by
  obtain ⟨oc, od, kV, doc, pm, an, cdv, ct, osl, rfl, lk, hcd⟩ := F.ex
  exact .all (h kV doc pm an cdv ct)
theorem fun_mk {x qual : Str} {st : Stmt} {f : Addr} {oc : Value} {od an : Option Addr} {osl : Array (Option Value)} {kV doc pm cdv ct : Value} (l : K.lookup f = some ⟨oc, od, .func (PySem.W.fnOf x qual (defArgs st) (defBody st) (defScope st) .none kV doc pm an cdv ct), osl⟩)
    (c : PySem.W.codeIn K cdv qual = true) (k : PySem.W.keepIn K (.ref f) = true) : Fun K x qual st f (PySem.W.fnOf x qual (defArgs st) (defBody st) (defScope st) .none kV doc pm an cdv ct) := ⟨⟨oc, od, kV, doc, pm, an, cdv, ct, osl, rfl, l, c⟩, k⟩
end
section
variable {X : Cx}
theorem pv (i : Nat) {x : Str} {pos : Pos} (hN : X.N[i]? = some x := by rfl) (hv : Vis X.env.scope x := by first | exact Or.inl rfl | exact Or.inr (Or.inl rfl) | exact Or.inr (Or.inr rfl)) (hd : (x == ("__debug__" : Str)) = false := by decide)
    (hcd : (x == ("__classdict__" : Str)) = false := by decide) : PE X (.Name x pos) (tVar i) := pe_var hN hv hd hcd
end
theorem iteF {A B : Prop} (h : B) : if false = true then A else B := by
  rw [if_neg Bool.false_ne_true]
  exact h
theorem iteT {A B : Prop} (h : A) : if true = true then A else B := by
  rw [if_pos rfl]
  exact h
theorem ite2 {c A B : Prop} [Decidable c] (h1 : c → A) (h2 : ¬ c → B) : if c then A else B := by
  by_cases h : c
  · rw [if_pos h]
    exact h1 h
  · rw [if_neg h]
    exact h2 h
def Same (H H' : Hp) : Prop := ∀ b o, H b = some o → H' b = some o
theorem Same.refl (H : Hp) : Same H H := fun _ _ h => h
theorem Same.trans {H H1 H2 : Hp} (a : Same H H1) (b : Same H1 H2) : Same H H2 := fun c o h => b c o (a c o h)
theorem Same.free {H H' : Hp} (e : Same H H') {l : Addr} (h : H' l = Option.none) : H l = Option.none := by
  cases q : H l with
  | none => rfl
  | some o =>
    rw [e l o q] at h
    cases h
theorem Same.seq {K : PySem.W.Frag} {H H' : Hp} {a : Addr} {xs : List V} (e : Same H H') (h : SqL K H a xs) : SqL K H' a xs := by
  rcases h with (h | ⟨o, h⟩) | h
  · exact .inl (.inl (e _ _ h))
  · exact .inl (.inr ⟨o, e _ _ h⟩)
  · exact .inr h
section
variable {κ : Type} [DecidableEq κ]
end
theorem sum_take : ∀ {l : List Int} {i : Nat} {z : Int}, l[i]? = some z → (l.take (i + 1)).sum = (l.take i).sum + z
  | [], i, z, h => by simp at h
  | a :: r, 0, z, h => by
    have e : a = z := Option.some.inj h
    subst e
    show ([a] : List Int).sum = ([] : List Int).sum + a
    rw [List.sum_cons]
    exact Int.add_comm _ _
  | a :: r, i + 1, z, h => by
    have ih := sum_take (l := r) (i := i) (z := z) h
    show (a :: r.take (i + 1)).sum = (a :: r.take i).sum + z
    rw [List.sum_cons, List.sum_cons, ih]
    omega
theorem Same.made {H H1 : Hp} {x dx C : Addr} (nx : H x = Option.none) (nd : H dx = Option.none) (k : ∀ b o, (upd (upd H dx (.own x)) x (.ins C dx [])) b = some o → b ≠ x → H1 b = some o) : Same H H1 := fun b o e =>
  k b o (by rw [upd_ne (ne_of_none e nx), upd_ne (ne_of_none e nd)]; exact e) (ne_of_none e nx)
end L2
section
namespace L2
open PySem PySem.Spec PyProof.Rows
open PySem.W (WData Codec OpenSpec Well WellAll ReadsW ReadsAllW)
mutual
inductive Dw (K : PySem.W.Frag) (H : Hp) : V → WData → Prop
  | non : Dw K H .non .none
  | bl (b : Bool) : Dw K H (.bl b) (.bool b)
  | int (i : Int) : Dw K H (.int i) (.int i)
  | str (x : Str) : Dw K H (.str x) (.str x)
  | byt (b : Array UInt8) : Dw K H (.byt b) (.bytes b.toList)
  | lst {a : Addr} {xs : List V} {ds : List WData} : SqL K H a xs → DwAll K H xs ds → Dw K H (.ref a) (.list ds)
  | tup {a : Addr} {xs : List V} {ds : List WData} : SqT K H a xs → DwAll K H xs ds → Dw K H (.ref a) (.tuple ds)
inductive DwAll (K : PySem.W.Frag) (H : Hp) : List V → List WData → Prop
  | nil : DwAll K H [] []
  | cons {v : V} {vs : List V} {d : WData} {ds : List WData} : Dw K H v d → DwAll K H vs ds → DwAll K H (v :: vs) (d :: ds)
end
theorem dw_ints {K : PySem.W.Frag} {H : Hp} : ∀ ns : List Int, DwAll K H (ns.map V.int) (ns.map WData.int)
  | [] => .nil
  | n :: r => .cons (.int n) (dw_ints r)
theorem ints_dw {K : PySem.W.Frag} {H : Hp} : ∀ (ns : List Int) (xs : List V), DwAll K H xs (ns.map WData.int) → xs = ns.map V.int
  | [], xs, h => by
    cases h
    rfl
  | n :: r, xs, h => by
    cases h with
    | cons h1 h2 =>
      cases h1
      rw [ints_dw r _ h2] <;> rfl
section
variable {P : Program} {w : World} {K : PySem.W.Frag} {H : Hp} {h : Heap} {R : PySem.W.WRecords} {cl : Str → Option Addr}
theorem sqL_at {a : Addr} {xs : List V} (hok : HOk P w H h) (KX : K.In h) (q : SqL K H a xs) : ∃ (its : List Value) (o : Obj) (n : Nat), Vals xs its ∧ h.get? a = some o ∧ o.cls = .type "list" ∧ o.data = .seq its.toArray n := by
  rcases q with q | ⟨o, its, n, e, hc, _, hd, _, hv⟩
  · obtain ⟨_, its, n, hv, e⟩ := (show ObjOk P w H h a (.lst xs) from q.ok hok)
    exact ⟨its, _, n, hv, e, rfl, rfl⟩
  · exact ⟨its.toList, o, n, hv, KX _ _ e, hc, by simp [hd]⟩
theorem sqT_at {a : Addr} {xs : List V} (hok : HOk P w H h) (KX : K.In h) (q : SqT K H a xs) : ∃ (its : List Value) (o : Obj) (n : Nat), Vals xs its ∧ h.get? a = some o ∧ o.cls = .type "tuple" ∧ o.data = .seq its.toArray n := by
  rcases q with q | ⟨o, its, n, e, hc, hd, _, hv⟩
  · obtain ⟨_, its, hv, o, e, hc, n, hd⟩ := (show ObjOk P w H h a (.tup xs) from q.ok hok)
    exact ⟨its, o, n, hv, e, hc, hd⟩
  · exact ⟨its.toList, o, n, hv, KX _ _ e, hc, by simp [hd]⟩
mutual
theorem Dw.reads (hok : HOk P w H h) (KX : K.In h) : ∀ (d : WData) (v : V) (u : Value), Dw K H v d → RelV v u → ∃ as, ReadsW R cl h u d as
  | .none, _, _, x, r => by
    cases x
    cases r
    exact ⟨_, ReadsW.none⟩
  | .bool b, _, _, x, r => by
    cases x
    cases r
    exact ⟨_, ReadsW.bool b⟩
  | .int i, _, _, x, r => by
    cases x
    obtain ⟨t, rfl⟩ := r
    exact ⟨_, ReadsW.int i t⟩
  | .str s, _, _, x, r => by
    cases x
    obtain ⟨t, rfl⟩ := r
    exact ⟨_, ReadsW.str s t⟩
  | .bytes b, _, _, x, r => by
    cases x
    obtain ⟨t, rfl⟩ := r
    exact ⟨_, ReadsW.bytes _ t⟩
  | .list ds, _, _, x, r => by
    cases x with
    | lst hs ha =>
      cases r
      obtain ⟨its, o, n, rv, ho, hc, hd⟩ := sqL_at hok KX hs
      obtain ⟨as, hr⟩ := Dw.readsAll hok KX ds _ its ha rv
      exact ⟨_, ReadsW.list ho hc hd hr⟩
  | .tuple ds, _, _, x, r => by
    cases x with
    | tup hs ha =>
      cases r
      obtain ⟨its, o, n, rv, ho, hc, hd⟩ := sqT_at hok KX hs
      obtain ⟨as, hr⟩ := Dw.readsAll hok KX ds _ its ha rv
      exact ⟨_, ReadsW.tuple ho hc hd hr⟩
  | .float _, _, _, x, _ => by cases x
  | .dict _, _, _, x, _ => by cases x
  | .bytearray _, _, _, x, _ => by cases x
  | .set _, _, _, x, _ => by cases x
  | .frozenset _, _, _, x, _ => by cases x
  | .obj _ _, _, _, x, _ => by cases x
theorem Dw.readsAll (hok : HOk P w H h) (KX : K.In h) : ∀ (ds : List WData) (vs : List V) (us : List Value), DwAll K H vs ds → Vals vs us → ∃ as, ReadsAllW R cl h us ds as
  | [], _, _, x, r => by
    cases x
    cases r
    exact ⟨_, ReadsAllW.nil⟩
  | d :: ds, _, _, x, r => by
    cases x with
    | cons h1 h2 =>
      cases r with
      | cons r1 r2 =>
        obtain ⟨as, q1⟩ := Dw.reads hok KX d _ _ h1 r1
        obtain ⟨bs, q2⟩ := Dw.readsAll hok KX ds _ _ h2 r2
        exact ⟨_, ReadsAllW.cons q1 q2⟩
end
end
mutual
def plW : WData → Bool
  | .none => true
  | .bool _ => true
  | .int _ => true
  | .str _ => true
  | .bytes _ => true
  | .list xs => plWs xs
  | .tuple xs => plWs xs
  | _ => false
def plWs : List WData → Bool
  | [] => true
  | x :: r => plW x && plWs r
end
theorem plWs_map {α : Type} {f : α → WData} (h : ∀ a, plW (f a) = true) : ∀ l : List α, plWs (l.map f) = true
  | [] => rfl
  | x :: r => by
    show (plW (f x) && plWs (r.map f)) = true
    rw [h x, plWs_map h r] <;> rfl
theorem pl_enc : ∀ (c : Codec) (a : c.denote), plW (c.enc a) = true
  | .unit, _ => rfl
  | .bool, _ => rfl
  | .int _ _, _ => rfl
  | .nat _ _, _ => rfl
  | .u8, _ => rfl
  | .bytes _ _, _ => rfl
  | .text _ _ _ _, _ => rfl
  | .list _ _ c, a => plWs_map (fun x => pl_enc c x) a
  | .pair c d, a => by
    show (plW (c.enc a.1) && (plW (d.enc a.2) && true)) = true
    rw [pl_enc c a.1, pl_enc d a.2] <;> rfl
  | .triple c d e, a => by
    show (plW (c.enc a.1) && (plW (d.enc a.2.1) && (plW (e.enc a.2.2) && true))) = true
    rw [pl_enc c a.1, pl_enc d a.2.1, pl_enc e a.2.2] <;> rfl
  | .option c, none => rfl
  | .option c, some x => pl_enc c x
theorem pl_encAll : ∀ (cs : List Codec) (a : Codec.denoteAll cs), plWs (Codec.encAll cs a) = true
  | [], _ => rfl
  | c :: cs, a => by
    show (plW (c.enc a.1) && plWs (Codec.encAll cs a.2)) = true
    rw [pl_enc c a.1, pl_encAll cs a.2] <;> rfl
theorem weight_mem : ∀ {xs : List WData} {d : WData}, d ∈ xs → d.weight ≤ WData.weightAll xs
  | [], d, h => absurd h (by simp)
  | x :: r, d, h => by
    show d.weight ≤ x.weight + 1 + WData.weightAll r
    rcases List.mem_cons.mp h with e | m
    · rw [e]
      omega
    · have z := weight_mem m
      omega
def toV : Value → V
  | .none => .non
  | .bool b => .bl b
  | .int i _ => .int i
  | .str x _ => .str x
  | .bytes b _ => .byt b
  | .ref a => .ref a
  | _ => .non
def OkU (A : List Addr) : Value → Prop
  | .none => True
  | .bool _ => True
  | .int _ _ => True
  | .str _ _ => True
  | .bytes _ _ => True
  | .ref a => a ∈ A
  | _ => False
theorem OkU.mono {A B : List Addr} (h : ∀ a ∈ A, a ∈ B) : ∀ {u : Value}, OkU A u → OkU B u := fun {u} x => by
  cases u with
  | ref a => exact h a x
  | none => trivial
  | bool b => trivial
  | int i t => trivial
  | str s t => trivial
  | bytes b t => trivial
  | _ => exact False.elim x
theorem relV_toV {A : List Addr} {u : Value} (x : OkU A u) : RelV (toV u) u := by
  cases u with
  | ref a => rfl
  | none => rfl
  | bool b => rfl
  | int i t => exact ⟨t, rfl⟩
  | str s t => exact ⟨t, rfl⟩
  | bytes b t => exact ⟨t, rfl⟩
  | _ => exact False.elim x
theorem vals_toV {A : List Addr} : ∀ {vs : List Value}, (∀ u ∈ vs, OkU A u) → Vals (vs.map toV) vs
  | [], _ => .nil
  | u :: r, h => .cons (relV_toV (h u (List.mem_cons_self ..))) (vals_toV fun x hx => h x (List.mem_cons_of_mem _ hx))
def ArgOb (h : Heap) (A : List Addr) (a : Addr) : Prop := ∃ vs : List Value, vs.length ≤ sizeLine ∧ (∀ u ∈ vs, OkU A u) ∧
  (h.get? a = some { cls := .type "list", data := .seq vs.toArray } ∨ h.get? a = some { cls := .type "tuple", data := .seq vs.toArray })
theorem ArgOb.mono {h : Heap} {A B : List Addr} {a : Addr} (k : ∀ a ∈ A, a ∈ B) (x : ArgOb h A a) : ArgOb h B a := by
  obtain ⟨vs, h1, h2, h3⟩ := x
  exact ⟨vs, h1, fun u hu => (h2 u hu).mono k, h3⟩
theorem wellAll_len {P : Params} {h : Heap} : ∀ {vs : List Value} {ds : List WData}, WellAll P h vs ds → vs.length = ds.length
  | _, _, .nil => rfl
  | _, _, .cons _ b => by
    show _ + 1 = _ + 1
    rw [wellAll_len b]
theorem well_list {P : Params} {h : Heap} {v : Value} {ds : List WData} (x : Well P h v (.list ds)) : ∃ (a : Addr) (vs : List Value), v = .ref a ∧ h.get? a = some { cls := .type "list", data := .seq vs.toArray } ∧ WellAll P h vs ds := by
  cases x with
  | list ho hall => exact ⟨_, _, rfl, ho, hall⟩
theorem well_tuple {P : Params} {h : Heap} {v : Value} {ds : List WData} (x : Well P h v (.tuple ds)) : ∃ (a : Addr) (vs : List Value), v = .ref a ∧ h.get? a = some { cls := .type "tuple", data := .seq vs.toArray } ∧ WellAll P h vs ds := by
  cases x with
  | tuple ho hall => exact ⟨_, _, rfl, ho, hall⟩
theorem well_cons {P : Params} {h : Heap} {us : List Value} {d : WData} {ds : List WData} (x : WellAll P h us (d :: ds)) : ∃ (v : Value) (vs : List Value), us = v :: vs ∧ Well P h v d ∧ WellAll P h vs ds := by
  cases x with
  | cons a b => exact ⟨_, _, rfl, a, b⟩
theorem line_of {n : Nat} (h : n ≤ 1048576) : n ≤ sizeLine := Nat.le_trans h (by decide)
section
variable {P : Params} {h : Heap}
mutual
theorem area_one : ∀ (d : WData) (v : Value), Well P h v d → plW d = true → d.weight ≤ 1048576 → ∃ A : List Addr, OkU A v ∧ ∀ a ∈ A, ArgOb h A a
  | .none, _, x, _, _ => by
    cases x
    exact ⟨[], trivial, fun a m => absurd m (by simp)⟩
  | .bool b, _, x, _, _ => by
    cases x
    exact ⟨[], trivial, fun a m => absurd m (by simp)⟩
  | .int i, _, x, _, _ => by
    cases x
    exact ⟨[], trivial, fun a m => absurd m (by simp)⟩
  | .str s, _, x, _, _ => by
    cases x
    exact ⟨[], trivial, fun a m => absurd m (by simp)⟩
  | .bytes b, _, x, _, _ => by
    cases x
    exact ⟨[], trivial, fun a m => absurd m (by simp)⟩
  | .list ds, _, x, p, z => by
    obtain ⟨a, vs, rfl, ho, hall⟩ := well_list x
    have z2 : WData.weightAll ds ≤ 1048576 := z
    obtain ⟨A, h1, h2⟩ := area_all ds _ hall p fun d hd => Nat.le_trans (weight_mem hd) z2
    have k : ∀ b ∈ A, b ∈ a :: A := fun b hb => List.mem_cons_of_mem _ hb
    refine ⟨a :: A, List.mem_cons_self .., fun b hb => ?_⟩
    rcases List.mem_cons.mp hb with e | m
    · rw [e]
      exact ⟨vs, line_of (by rw [wellAll_len hall]; exact Nat.le_trans (PySem.W.length_le_weightAllW ds) z2), fun u hu => (h1 u hu).mono k, .inl ho⟩
    · exact (h2 b m).mono k
  | .tuple ds, _, x, p, z => by
    obtain ⟨a, vs, rfl, ho, hall⟩ := well_tuple x
    have z2 : WData.weightAll ds ≤ 1048576 := z
    obtain ⟨A, h1, h2⟩ := area_all ds _ hall p fun d hd => Nat.le_trans (weight_mem hd) z2
    have k : ∀ b ∈ A, b ∈ a :: A := fun b hb => List.mem_cons_of_mem _ hb
    refine ⟨a :: A, List.mem_cons_self .., fun b hb => ?_⟩
    rcases List.mem_cons.mp hb with e | m
    · rw [e]
      exact ⟨vs, line_of (by rw [wellAll_len hall]; exact Nat.le_trans (PySem.W.length_le_weightAllW ds) z2), fun u hu => (h1 u hu).mono k, .inr ho⟩
    · exact (h2 b m).mono k
  | .float _, _, _, p, _ => Bool.noConfusion (show false = true from p)
  | .dict _, _, _, p, _ => Bool.noConfusion (show false = true from p)
  | .bytearray _, _, _, p, _ => Bool.noConfusion (show false = true from p)
  | .set _, _, _, p, _ => Bool.noConfusion (show false = true from p)
  | .frozenset _, _, _, p, _ => Bool.noConfusion (show false = true from p)
  | .obj _ _, _, _, p, _ => Bool.noConfusion (show false = true from p)
theorem area_all : ∀ (ds : List WData) (vs : List Value), WellAll P h vs ds → plWs ds = true → (∀ d ∈ ds, d.weight ≤ 1048576) → ∃ A : List Addr, (∀ u ∈ vs, OkU A u) ∧ ∀ a ∈ A, ArgOb h A a
  | [], _, x, _, _ => by
    cases x
    exact ⟨[], fun u m => absurd m (by simp), fun a m => absurd m (by simp)⟩
  | d :: ds, _, x, p, z => by
    obtain ⟨v, vs, rfl, x1, x2⟩ := well_cons x
    have q : plW d = true ∧ plWs ds = true := Bool.and_eq_true_iff.mp p
    obtain ⟨A, a1, a2⟩ := area_one d v x1 q.1 (z d (List.mem_cons_self ..))
    obtain ⟨B, b1, b2⟩ := area_all ds vs x2 q.2 fun e he => z e (List.mem_cons_of_mem _ he)
    have kA : ∀ b ∈ A, b ∈ A ++ B := fun b hb => List.mem_append.mpr (.inl hb)
    have kB : ∀ b ∈ B, b ∈ A ++ B := fun b hb => List.mem_append.mpr (.inr hb)
    refine ⟨A ++ B, fun u hu => ?_, fun b hb => ?_⟩
    · rcases List.mem_cons.mp hu with e | m
      · rw [e]
        exact a1.mono kA
      · exact (b1 u m).mono kB
    · rcases List.mem_append.mp hb with m | m
      · exact (a2 b m).mono kA
      · exact (b2 b m).mono kB
end
end
def hoOf (o : Obj) : Option HO := match o.data with
  | .seq vs _ => if (o.cls == Value.type "list") = true then some (.frz o (.lst (vs.toList.map toV))) else some (.frz o (.tup (vs.toList.map toV)))
  | _ => none
def argH (K : PySem.W.Frag) (h : Heap) (A : List Addr) : Hp := fun b => if b ∈ A then (if (K.lookup b).isNone = true then (h.get? b).bind hoOf else none) else none
def OnlyF (H : Hp) : Prop := ∀ b, H b = none ∨ ∃ o u, H b = some (.frz o u)
theorem hoOf_lst (vs : List Value) : hoOf { cls := .type "list", data := .seq vs.toArray } = some (.frz { cls := .type "list", data := .seq vs.toArray } (.lst (vs.map toV))) := by
  show (if (Value.type "list" == Value.type "list") = true then some (HO.frz { cls := .type "list", data := .seq vs.toArray } (.lst (vs.toArray.toList.map toV))) else some (HO.frz { cls := .type "list", data := .seq vs.toArray } (.tup (vs.toArray.toList.map toV)))) = _
  rw [if_pos (beq_self_eq_true _)]
theorem hoOf_tup (vs : List Value) : hoOf { cls := .type "tuple", data := .seq vs.toArray } = some (.frz { cls := .type "tuple", data := .seq vs.toArray } (.tup (vs.map toV))) := by
  show (if (Value.type "tuple" == Value.type "list") = true then some (HO.frz { cls := .type "tuple", data := .seq vs.toArray } (.lst (vs.toArray.toList.map toV))) else some (HO.frz { cls := .type "tuple", data := .seq vs.toArray } (.tup (vs.toArray.toList.map toV)))) = _
  rw [if_neg (by decide)]
section
variable {P : Program} {w : World} {K : PySem.W.Frag} {h : Heap} {A : List Addr}
theorem argH_at {b : Addr} {o : Obj} (hb : b ∈ A) (hk : K.lookup b = none) (e : h.get? b = some o) : argH K h A b = hoOf o := by
  unfold argH
  rw [if_pos hb, hk, if_pos (show (none : Option Obj).isNone = true from rfl), e] <;> rfl
theorem of_argH {b : Addr} {u : HO} (q : argH K h A b = some u) : b ∈ A ∧ K.lookup b = none := by
  unfold argH at q
  by_cases hb : b ∈ A
  · rw [if_pos hb] at q
    cases hk : K.lookup b with
    | none => exact ⟨hb, rfl⟩
    | some o =>
      rw [hk, if_neg (by simp)] at q
      cases q
  · rw [if_neg hb] at q
    cases q
theorem argH_is (ar : ∀ a ∈ A, ArgOb h A a) {b : Addr} {u : HO} (q : argH K h A b = some u) : K.lookup b = none ∧ ∃ vs : List Value, vs.length ≤ sizeLine ∧ (∀ u ∈ vs, OkU A u) ∧
    ((h.get? b = some { cls := .type "list", data := .seq vs.toArray } ∧ u = .frz { cls := .type "list", data := .seq vs.toArray } (.lst (vs.map toV))) ∨
     (h.get? b = some { cls := .type "tuple", data := .seq vs.toArray } ∧ u = .frz { cls := .type "tuple", data := .seq vs.toArray } (.tup (vs.map toV)))) := by
  obtain ⟨hb, hk⟩ := of_argH q
  obtain ⟨vs, h1, h2, h3⟩ := ar b hb
  refine ⟨hk, vs, h1, h2, ?_⟩
  rcases h3 with e | e
  · rw [argH_at hb hk e, hoOf_lst] at q
    exact .inl ⟨e, (Option.some.inj q).symm⟩
  · rw [argH_at hb hk e, hoOf_tup] at q
    exact .inr ⟨e, (Option.some.inj q).symm⟩
theorem argH_only (ar : ∀ a ∈ A, ArgOb h A a) : OnlyF (argH K h A) := fun b => by
  cases q : argH K h A b with
  | none => exact .inl rfl
  | some u =>
    obtain ⟨_, vs, _, _, ⟨_, e⟩ | ⟨_, e⟩⟩ := argH_is ar q
    · exact .inr ⟨_, _, by rw [e]⟩
    · exact .inr ⟨_, _, by rw [e]⟩
theorem argH_ok (ar : ∀ a ∈ A, ArgOb h A a) : HOk P w (argH K h A) h := fun b u q => by
  obtain ⟨_, vs, h1, h2, ⟨e, rfl⟩ | ⟨e, rfl⟩⟩ := argH_is ar q
  · exact ⟨e, by rw [List.length_map]; exact h1, vs, _, vals_toV h2, e⟩
  · exact ⟨e, by rw [List.length_map]; exact h1, vs, vals_toV h2, _, e, rfl, _, rfl⟩
theorem seq_inj {c c' : Value} {vs us : List Value} (e : (some { cls := c, data := .seq vs.toArray } : Option Obj) = some { cls := c', data := .seq us.toArray }) : c = c' ∧ vs = us := by
  have e1 := Option.some.inj e
  have e2 : c = c' := congrArg Obj.cls e1
  have e3 : Data.seq vs.toArray = Data.seq us.toArray := congrArg Obj.data e1
  injection e3 with e4
  refine ⟨e2, ?_⟩
  have e5 := congrArg Array.toList e4
  simpa using e5
theorem argL (KX : K.In h) (ar : ∀ a ∈ A, ArgOb h A a) {a : Addr} {vs : List Value} (ha : a ∈ A) (e : h.get? a = some { cls := .type "list", data := .seq vs.toArray }) : (∀ u ∈ vs, OkU A u) ∧ SqL K (argH K h A) a (vs.map toV) := by
  obtain ⟨us, h1, h2, h3⟩ := ar a ha
  have hu : us = vs := by
    rcases h3 with q | q
    · rw [e] at q
      exact (seq_inj q).2.symm
    · rw [e] at q
      exact absurd (Value.type.inj (seq_inj q).1) (by decide)
  subst hu
  refine ⟨h2, ?_⟩
  cases hk : K.lookup a with
  | none => exact .inl (.inr ⟨_, by rw [argH_at ha hk e, hoOf_lst]⟩)
  | some o =>
    have e2 := KX a o hk
    rw [e] at e2
    obtain rfl := Option.some.inj e2
    exact .inr ⟨_, us.toArray, _, hk, rfl, rfl, rfl, by rw [List.size_toArray]; exact h1, by simpa using vals_toV h2⟩
theorem argT (KX : K.In h) (ar : ∀ a ∈ A, ArgOb h A a) {a : Addr} {vs : List Value} (ha : a ∈ A) (e : h.get? a = some { cls := .type "tuple", data := .seq vs.toArray }) : (∀ u ∈ vs, OkU A u) ∧ SqT K (argH K h A) a (vs.map toV) := by
  obtain ⟨us, h1, h2, h3⟩ := ar a ha
  have hu : us = vs := by
    rcases h3 with q | q
    · rw [e] at q
      exact absurd (Value.type.inj (seq_inj q).1) (by decide)
    · rw [e] at q
      exact (seq_inj q).2.symm
  subst hu
  refine ⟨h2, ?_⟩
  cases hk : K.lookup a with
  | none => exact .inl (.inr ⟨_, by rw [argH_at ha hk e, hoOf_tup]⟩)
  | some o =>
    have e2 := KX a o hk
    rw [e] at e2
    obtain rfl := Option.some.inj e2
    exact .inr ⟨_, us.toArray, _, hk, rfl, rfl, by rw [List.size_toArray]; exact h1, by simpa using vals_toV h2⟩
mutual
theorem dw_one {Pm : Params} (KX : K.In h) (ar : ∀ a ∈ A, ArgOb h A a) : ∀ (d : WData) (v : Value), Well Pm h v d → plW d = true → OkU A v → Dw K (argH K h A) (toV v) d
  | .none, _, x, _, _ => by
    cases x
    exact .non
  | .bool b, _, x, _, _ => by
    cases x
    exact .bl b
  | .int i, _, x, _, _ => by
    cases x
    exact .int i
  | .str s, _, x, _, _ => by
    cases x
    exact .str s
  | .bytes b, _, x, _, _ => by
    cases x
    have z := Dw.byt (K := K) (H := argH K h A) b.toArray
    exact z
  | .list ds, _, x, p, hu => by
    obtain ⟨a, vs, rfl, ho, hall⟩ := well_list x
    obtain ⟨h2, hs⟩ := argL KX ar hu ho
    exact .lst hs (dw_all KX ar ds _ hall p h2)
  | .tuple ds, _, x, p, hu => by
    obtain ⟨a, vs, rfl, ho, hall⟩ := well_tuple x
    obtain ⟨h2, hs⟩ := argT KX ar hu ho
    exact .tup hs (dw_all KX ar ds _ hall p h2)
  | .float _, _, _, p, _ => Bool.noConfusion (show false = true from p)
  | .dict _, _, _, p, _ => Bool.noConfusion (show false = true from p)
  | .bytearray _, _, _, p, _ => Bool.noConfusion (show false = true from p)
  | .set _, _, _, p, _ => Bool.noConfusion (show false = true from p)
  | .frozenset _, _, _, p, _ => Bool.noConfusion (show false = true from p)
  | .obj _ _, _, _, p, _ => Bool.noConfusion (show false = true from p)
theorem dw_all {Pm : Params} (KX : K.In h) (ar : ∀ a ∈ A, ArgOb h A a) : ∀ (ds : List WData) (vs : List Value), WellAll Pm h vs ds → plWs ds = true → (∀ u ∈ vs, OkU A u) → DwAll K (argH K h A) (vs.map toV) ds
  | [], _, x, _, _ => by
    cases x
    exact .nil
  | d :: ds, _, x, p, hu => by
    obtain ⟨v, vs, rfl, x1, x2⟩ := well_cons x
    have q : plW d = true ∧ plWs ds = true := Bool.and_eq_true_iff.mp p
    exact .cons (dw_one KX ar d v x1 q.1 (hu _ (List.mem_cons_self ..))) (dw_all KX ar ds vs x2 q.2 fun u m => hu u (List.mem_cons_of_mem _ m))
end
end
theorem spec_call {P : Program} {w : World} {K : PySem.W.Frag} {mg mb : Str → Option Value} {CX : CXT} {k : Nat} {fa : Addr} {fd : FuncData} {ps : List Str} {sp : Sp} {s₁ : Shared} {vals : List Value} {ds : List WData} {R : PySem.W.WRecords} {cl : Str → Option Addr} {d0 : WData}
    (KX : K.In s₁.heap) (hns : s₁.heap.Ns mainGlobals mg) (hb : s₁.heap.Ns builtinsNs mb) (hbb : ∀ x : Str, x ≠ "__name__" → mb x = bootBuiltins x) (hlim : s₁.heap.NoLimit) (hg : s₁.gens = #[])
    (hwl : WellAll w.params s₁.heap vals ds) (hpl : plWs ds = true) (hwt : ∀ d ∈ ds, d.weight ≤ 1048576) (hr : Room k callerA)
    (F : ∀ base : Heap, K.In base → base.Ns mainGlobals mg → FnOk P w K mg base CX k fa fd ps sp) (hbind : ∀ (s : Shared) (us : List Value), us.length = ps.length → BindsTo s fd ⟨us, []⟩ (ps.zip us)) (hlen : ds.length = ps.length)
    (hsp : ∀ (H : Hp) (xs : List V), OnlyF H → DwAll K H xs ds → sp xs H (fun v H' => Dw K H' v d0) fun _ _ _ => False)
    (hCX : ∀ H e s', CX [] H s₁ (fun _ _ _ => False) e s' → False) :
    codeAny (model P w) callerA (.call (.ref fa) ⟨vals, []⟩) (fun r s' => ∃ u as, r = .ok (.ret u) ∧ ReadsW R cl s'.heap u d0 as ∧ OldK s₁.heap s'.heap ∧ s'.os = s₁.os ∧ AllBare s'.gens) s₁ := by
  obtain ⟨A, ho, ar⟩ := area_all ds vals hwl hpl hwt
  have hO : OnlyF (argH K s₁.heap A) := argH_only ar
  have hok : HOk P w (argH K s₁.heap A) s₁.heap := argH_ok ar
  have hS := dw_all KX ar ds vals hwl hpl ho
  have hV := vals_toV ho
  have hK : ∀ b u, argH K s₁.heap A b = some u → K.lookup b = none := fun b u q => (argH_is ar q).1
  have noA : ∀ {b : Addr} {o : Obj} {es : Array DictEntry} {ep : Nat}, s₁.heap.get? b = some o → o.data = .dict es ep → argH K s₁.heap A b = none := fun {b o es ep} e d => by
    cases q : argH K s₁.heap A b with
    | none => rfl
    | some u =>
      obtain ⟨_, vs, _, _, ⟨e2, _⟩ | ⟨e2, _⟩⟩ := argH_is ar q
      · rw [e2] at e
        cases e
        have d' : Data.seq vs.toArray _ = Data.dict es ep := d
        cases d'
      · rw [e2] at e
        cases e
        have d' : Data.seq vs.toArray _ = Data.dict es ep := d
        cases d'
  generalize argH K s₁.heap A = H at hO hok hS hK noA
  have base_of : ∀ {b : Addr} {o : Obj}, s₁.heap.get? b = some o → H b = none → (hidT s₁.heap H).get? b = some o := fun e n => hidT_get e n
  have nsK : ∀ {b : Addr} {m : Str → Option Value}, s₁.heap.Ns b m → (hidT s₁.heap H).Ns b m := fun {b m} ⟨o, es, ep, e, d, r⟩ => ⟨o, es, ep, base_of e (noA e d), d, r⟩
  have nK : ∀ b o, K.lookup b = some o → H b = none := fun b o e => by
    cases q : H b with
    | none => rfl
    | some u =>
      rw [hK b u q] at e
      cases e
  have hKb : K.In (hidT s₁.heap H) := fun b o e => base_of (KX b o e) (nK b o e)
  have hM : Mod K mg (hidT s₁.heap H) := ⟨hKb, nsK hns, ⟨mb, nsK hb, hbb⟩, let ⟨mc, h1, h2⟩ := hlim; ⟨mc, nsK h1, h2⟩⟩
  have e0 : Env0 P w K mg (hidT s₁.heap H) callerA [] s₁ H := ⟨rfl, hM, fun b o e => of_hidT e, Nat.le_of_eq (hidT_size _ _), trivial, fun b hb => absurd (show b ∈ ([] : List Addr) from hb) (by simp), hok, .of_eq hg⟩
  have hl : vals.length = ps.length := by rw [wellAll_len hwl]; exact hlen
  refine codeAny_mono ((F _ hKb (nsK hns)).run callerA [] s₁ H ⟨vals, []⟩ vals (vals.map toV) _ _ hr e0 (hbind s₁ vals hl) hV (hsp H _ hO hS)) fun r s' x => ?_
  cases r with
  | error e => exact (hCX H e s' x).elim
  | ok fl =>
    cases fl with
    | next => exact False.elim x
    | brk => exact False.elim x
    | cont => exact False.elim x
    | ret u =>
      obtain ⟨v, H', os, bare, un, hok', r', q⟩ := x
      have kept : ∀ b o, s₁.heap.get? b = some o → s'.heap.get? b = some o := fun b o e => by
        cases q2 : H b with
        | none => exact un.keep b o e q2 (by intro z; exact absurd (show b ∈ ([] : List Addr) from z) (by simp)) (by simp)
        | some u2 =>
          rcases hO b with z | ⟨ob, u3, z⟩
          · rw [q2] at z
            cases z
          · have z2 := un.frzs b ob _ z
            obtain ⟨e1, _⟩ := hok b _ z
            obtain ⟨e2, _⟩ := hok' b _ z2
            rw [e] at e1
            cases e1
            exact e2
      have KX' : K.In s'.heap := fun b o e => kept b o (KX b o e)
      obtain ⟨as, hrd⟩ := Dw.reads (R := R) (cl := cl) hok' KX' d0 v u q r'
      exact ⟨u, as, rfl, hrd, OldK.of_keep kept, os, bare⟩
theorem layable_weight {ds : List WData} (h : WData.layableAll ds = true) : ∀ d ∈ ds, d.weight ≤ 1048576 := fun d hd =>
  (PySem.W.layableW_iff.mp (List.all_eq_true.mp h d hd)).2.2
theorem encAll_len : ∀ (cs : List Codec) (a : Codec.denoteAll cs), (Codec.encAll cs a).length = cs.length
  | [], _ => rfl
  | c :: cs, a => by
    show (Codec.encAll cs a.2).length + 1 = cs.length + 1
    rw [encAll_len cs a.2]
theorem walk_spec {r : OpenSpec} {k : Nat} {q : Program} {loose : List Str} {XP : (Str → Option Value) → Heap → Prop} {YP : World → Heap → Prop} {d : DefRec} {K : Params → PySem.W.Frag} {CX : World → CXT} {ps : List Str} {sp : World → Sp}
    (hwell : r.wellSaid = true) (hdf : d.params.defaults = []) (hlen : r.args.length = ps.length) (hr : Room k callerA)
    (hY : ∀ (w : World) (h : Heap), YP w h → (K w.params).In h)
    (F : ∀ (w : World) (mg : Str → Option Value) (fa : Addr) (h : Heap), YP w h → (K w.params).In h → h.Ns mainGlobals mg → mg d.name = some (.ref fa) →
      ∃ fd : FuncData, (∀ (s : Shared) (us : List Value), us.length = ps.length → BindsTo s fd ⟨us, []⟩ (ps.zip us)) ∧
        ∀ base : Heap, (K w.params).In base → base.Ns mainGlobals mg → FnOk r.prog w (K w.params) mg base (CX w) k fa fd ps (sp w))
    (hsp : ∀ (w : World) (H : Hp) (xs : List V) (a : Codec.denoteAll r.args), OnlyF H → Codec.withinAll r.args a = true → Codec.app r.args r.asked a = true → DwAll (K w.params) H xs (Codec.encAll r.args a) →
      sp w xs H (fun v H' => Dw (K w.params) H' v (r.ret.enc (Codec.app r.args r.f a))) fun _ _ _ => False)
    (hCX : ∀ (w : World) (H : Hp) (s : Shared) (e : Value) (s' : Shared), CX w [] H s (fun _ _ _ => False) e s' → False) :
    PySem.W.WalkOS q loose XP YP r d [] (fun f vs => PySem.call f vs) := by
  intro w s_0 s₁ mg mb G Y fa o pm cd doc dV kV ho hd hcd hD hmg hg args vals as hpre hlay hrd hwl hlo
  obtain ⟨a, e1, e2⟩ := PySem.W.os_pre_some hpre
  obtain ⟨e3, hwi⟩ := Codec.encAll_of_decAll r.args args a e1
  subst e3
  have KX := hY w _ Y
  obtain ⟨fd, hb, hF⟩ := F w mg fa _ Y KX G.T.g hmg
  refine PySem.W.enter_call (codeAny_mono (spec_call (R := []) (cl := classAt s_0.heap) (d0 := r.ret.enc (Codec.app r.args r.f a)) KX G.T.g G.T.b G.T.builtins G.T.nolimit hg hwl (pl_encAll _ _) (layable_weight hlay) hr hF hb (by rw [encAll_len]; exact hlen)
    (fun H xs hO hS => hsp w H xs a hO hwi e2 hS) fun H e s' => hCX w H s₁ e s') fun r' s' hq => ?_)
  obtain ⟨u, as', rfl, h1, h2, h3, h4⟩ := hq
  exact ⟨.inl ⟨u, _, as', rfl, fun _ => rfl, h1, (OpenSpec.post_iff hwell hwi _ _).mpr rfl, fun z => Bool.noConfusion (show false = true from z)⟩, h2, h3, h4⟩
theorem walk_specK {r : OpenSpec} {k : Nat} {q : Program} {loose : List Str} {XP : (Str → Option Value) → Heap → Prop} {YP : World → Heap → Prop} {d : DefRec} {K : Params → PySem.W.Frag} {CX : CXT} {ps : List Str} {sp : PySem.W.Frag → Sp}
    (hwell : r.wellSaid = true) (hdf : d.params.defaults = []) (hlen : r.args.length = ps.length) (hr : Room k callerA)
    (hY : ∀ (w : World) (h : Heap), YP w h → (K w.params).In h)
    (F : ∀ (w : World) (mg : Str → Option Value) (fa : Addr) (h : Heap), YP w h → (K w.params).In h → h.Ns mainGlobals mg → mg d.name = some (.ref fa) →
      ∃ fd : FuncData, (∀ (s : Shared) (us : List Value), us.length = ps.length → BindsTo s fd ⟨us, []⟩ (ps.zip us)) ∧
        ∀ base : Heap, (K w.params).In base → base.Ns mainGlobals mg → FnOk r.prog w (K w.params) mg base CX k fa fd ps (sp (K w.params)))
    (hsp : ∀ (K : PySem.W.Frag) (H : Hp) (xs : List V) (a : Codec.denoteAll r.args), OnlyF H → Codec.withinAll r.args a = true → Codec.app r.args r.asked a = true → DwAll K H xs (Codec.encAll r.args a) →
      sp K xs H (fun v H' => Dw K H' v (r.ret.enc (Codec.app r.args r.f a))) fun _ _ _ => False)
    (hCX : ∀ (H : Hp) (s : Shared) (e : Value) (s' : Shared), CX [] H s (fun _ _ _ => False) e s' → False) :
    PySem.W.WalkOS q loose XP YP r d [] (fun f vs => PySem.call f vs) :=
  walk_spec (K := K) (CX := fun _ => CX) (sp := fun w => sp (K w.params)) hwell hdf hlen hr hY F (fun w H xs a h1 h2 h3 h4 => hsp (K w.params) H xs a h1 h2 h3 h4) fun _ H s e s' => hCX H s e s'
end L2
end
set_option linter.all false
namespace Ak

/-- over all choices of the kinds of these weights, by how many and how heavy -/
def T : List Nat → (Nat → Nat → Rat) → Rat
  | [], f => f 0 0
  | w :: ws, f => T ws f + T ws (fun k v => f (k + 1) (v + w))
def E : List Nat → (Nat → Nat → Rat) → Rat
  | [], _ => 0
  | w :: ws, f => (w : Rat) * T ws f + E ws f + E ws (fun k v => f (k + 1) (v + w))
def sm : List Nat → Nat
  | [] => 0
  | w :: l => w + sm l
/-- a value for each kind, each as heavy as it is, together -/
def dsum : List Nat → (Nat → Rat) → Rat
  | [], _ => 0
  | w :: l, G => (w : Rat) * G 0 + dsum l (fun j => G (j + 1))
/-- the weights of those that are lacking -/
def lackW : List Nat → Nat → List Nat
  | [], _ => []
  | w :: l, h => if h.testBit 0 then lackW l (h / 2) else w :: lackW l (h / 2)

theorem T_add : ∀ (L : List Nat) (f g : Nat → Nat → Rat), T L (fun k v => f k v + g k v) = T L f + T L g
  | [], f, g => rfl
  | w :: ws, f, g => by
    simp only [T]
    rw [T_add ws f g, T_add ws (fun k v => f (k + 1) (v + w)) (fun k v => g (k + 1) (v + w))]
    grind
theorem T_mul (c : Rat) : ∀ (L : List Nat) (f : Nat → Nat → Rat), T L (fun k v => c * f k v) = c * T L f
  | [], f => rfl
  | w :: ws, f => by
    simp only [T]
    rw [T_mul c ws f, T_mul c ws (fun k v => f (k + 1) (v + w))]
    grind
theorem T_congr : ∀ (L : List Nat) (f g : Nat → Nat → Rat), (∀ w ∈ L, 0 < w) → (∀ k v, (0 < k → 0 < v) → v ≤ sm L → f k v = g k v) → T L f = T L g
  | [], f, g, _, h => h 0 0 (fun q => q) (Nat.le_refl _)
  | w :: ws, f, g, hp, h => by
    simp only [T]
    have hw : 0 < w := hp w (List.mem_cons_self ..)
    rw [T_congr ws f g (fun x hx => hp x (List.mem_cons_of_mem _ hx)) (fun k v q e => h k v q (by simp only [sm]; omega)),
      T_congr ws (fun k v => f (k + 1) (v + w)) (fun k v => g (k + 1) (v + w)) (fun x hx => hp x (List.mem_cons_of_mem _ hx)) (fun k v q e => h (k + 1) (v + w) (fun _ => by omega) (by simp only [sm]; omega))]
theorem E_eq : ∀ (L : List Nat) (f : Nat → Nat → Rat), E L f = (sm L : Rat) * T L f - T L (fun k v => (v : Rat) * f k v)
  | [], f => by simp [E, T, sm]; grind
  | w :: ws, f => by
    simp only [E, T, sm]
    have e1 := E_eq ws f
    have e2 := E_eq ws (fun k v => f (k + 1) (v + w))
    have e3 : T ws (fun k v => ((v + w : Nat) : Rat) * f (k + 1) (v + w)) = T ws (fun k v => (v : Rat) * f (k + 1) (v + w)) + (w : Rat) * T ws (fun k v => f (k + 1) (v + w)) := by
      rw [← T_mul, ← T_add]
      congr 1
      funext k v
      push_cast
      grind
    rw [e1, e2, e3]
    push_cast
    grind
theorem or_one_even {h : Nat} : (h ||| 1).testBit 0 = true := by simp
theorem or_one_div {h : Nat} : (h ||| 1) / 2 = h / 2 := by
  apply Nat.eq_of_testBit_eq
  intro i
  rw [Nat.testBit_div_two, Nat.testBit_div_two, Nat.testBit_or]
  have : Nat.testBit 1 (i + 1) = false := by
    rw [Nat.testBit_succ]; simp
  rw [this]; simp
theorem or_pow_succ_div {h j : Nat} : (h ||| 2 ^ (j + 1)) / 2 = (h / 2) ||| 2 ^ j := by
  apply Nat.eq_of_testBit_eq
  intro i
  rw [Nat.testBit_div_two, Nat.testBit_or, Nat.testBit_or, Nat.testBit_div_two, Nat.testBit_two_pow, Nat.testBit_two_pow]
  congr 1
  simp
theorem or_pow_succ_zero {h j : Nat} : (h ||| 2 ^ (j + 1)).testBit 0 = h.testBit 0 := by
  rw [Nat.testBit_or, Nat.testBit_two_pow]; simp
theorem draw_E : ∀ (l : List Nat) (h : Nat) (f : Nat → Nat → Rat),
    dsum l (fun i => T (lackW l (h ||| 2 ^ i)) f) = ((sm l : Rat) - (sm (lackW l h) : Rat)) * T (lackW l h) f + E (lackW l h) f
  | [], h, f => by simp [dsum, sm, lackW, E, T]; grind
  | w :: l, h, f => by
    simp only [dsum, lackW, or_pow_succ_zero, or_pow_succ_div, Nat.pow_zero, or_one_even, or_one_div, if_true]
    by_cases hb : h.testBit 0 = true
    · simp only [hb, if_true, sm]
      have := draw_E l (h / 2) f
      rw [this]
      push_cast
      grind
    · simp only [hb, if_false, sm, T, E]
      have e1 := draw_E l (h / 2) f
      have e2 := draw_E l (h / 2) (fun k v => f (k + 1) (v + w))
      have e3 : ∀ (l : List Nat) (F G : Nat → Rat), dsum l (fun i => F i + G i) = dsum l F + dsum l G := by
        intro l
        induction l with
        | nil => intro F G; simp [dsum]; grind
        | cons a l ih => intro F G; simp only [dsum]; rw [ih]; grind
      simp only [Bool.false_eq_true, if_false, T, E, sm]
      rw [e3, e1, e2]
      push_cast
      grind
theorem draw (l : List Nat) (h : Nat) (f : Nat → Nat → Rat) :
    dsum l (fun i => T (lackW l (h ||| 2 ^ i)) f) = T (lackW l h) (fun k v => ((sm l : Rat) - (v : Rat)) * f k v) := by
  rw [draw_E, E_eq]
  have : T (lackW l h) (fun k v => ((sm l : Rat) - (v : Rat)) * f k v) = (sm l : Rat) * T (lackW l h) f - T (lackW l h) (fun k v => (v : Rat) * f k v) := by
    have e : T (lackW l h) (fun k v => ((sm l : Rat) - (v : Rat)) * f k v) = T (lackW l h) (fun k v => (sm l : Rat) * f k v + (-1 : Rat) * ((v : Rat) * f k v)) := by
      congr 1; funext k v; grind
    rw [e, T_add, T_mul, T_mul]; grind
  rw [this]; grind
end Ak
set_option linter.all false
namespace Ak
def sgn (k : Nat) : Rat := if k % 2 = 0 then 1 else -1
theorem sgn_zero : sgn 0 = 1 := rfl
theorem sgn_succ (k : Nat) : sgn (k + 1) = - sgn k := by
  unfold sgn
  by_cases h : k % 2 = 0
  · rw [if_pos h, if_neg (by omega)]
  · rw [if_neg h, if_pos (by omega)]; grind
theorem T_sgn : ∀ (L : List Nat), T L (fun k _ => sgn k) = if L = [] then 1 else 0
  | [] => by simp [T, sgn_zero]
  | w :: ws => by
    simp only [T, sgn_succ]
    have : T ws (fun k v => - sgn k) = (-1 : Rat) * T ws (fun k _ => sgn k) := by
      rw [← T_mul]; congr 1; funext k v; grind
    rw [this]; simp; grind
/-- how many rows of so many draws are whole behind them -/
def Vq (l : List Nat) (n h : Nat) : Rat := T (lackW l h) (fun k v => sgn k * ((sm l : Rat) - (v : Rat)) ^ n)
theorem Vq_zero (l : List Nat) (h : Nat) : Vq l 0 h = if lackW l h = [] then 1 else 0 := by
  unfold Vq
  rw [← T_sgn]; congr 1; funext k v; grind
theorem Vq_succ (l : List Nat) (n h : Nat) : dsum l (fun i => Vq l n (h ||| 2 ^ i)) = Vq l (n + 1) h := by
  unfold Vq
  rw [draw]
  congr 1; funext k v
  grind
/-- the mean -/
def Mq (l : List Nat) (h : Nat) : Rat := T (lackW l h) (fun k v => if k = 0 then 0 else - sgn k * ((sm l : Rat) / (v : Rat)))
theorem lack_pos : ∀ {l : List Nat} {h : Nat}, (∀ w ∈ l, 0 < w) → ∀ w ∈ lackW l h, 0 < w
  | [], h, _, w, m => by simp [lackW] at m
  | a :: l, h, hp, w, m => by
    have ih := lack_pos (l := l) (h := h / 2) (fun x hx => hp x (List.mem_cons_of_mem _ hx))
    simp only [lackW] at m
    split at m
    · exact ih w m
    · rcases List.mem_cons.mp m with rfl | m
      · exact hp _ (List.mem_cons_self ..)
      · exact ih w m
theorem lack_le : ∀ (l : List Nat) (h : Nat), sm (lackW l h) ≤ sm l
  | [], h => Nat.le_refl _
  | a :: l, h => by
    have ih := lack_le l (h / 2)
    simp only [lackW]
    split
    · simp only [sm]; omega
    · simp only [sm]; omega
theorem Mq_draw {l : List Nat} (hp : ∀ w ∈ l, 0 < w) (h : Nat) : dsum l (fun i => Mq l (h ||| 2 ^ i)) = (sm l : Rat) * Mq l h - (if lackW l h = [] then 0 else (sm l : Rat)) := by
  unfold Mq
  rw [draw]
  have e : T (lackW l h) (fun k v => ((sm l : Rat) - (v : Rat)) * (if k = 0 then 0 else - sgn k * ((sm l : Rat) / (v : Rat)))) =
      T (lackW l h) (fun k v => (sm l : Rat) * (if k = 0 then 0 else - sgn k * ((sm l : Rat) / (v : Rat))) + (sm l : Rat) * (if k = 0 then 0 else sgn k)) := by
    refine T_congr _ _ _ (lack_pos hp) fun k v hk hv => ?_
    by_cases h0 : k = 0
    · simp only [h0, if_true]; grind
    · simp only [h0, if_false]
      have hv0 : (v : Rat) ≠ 0 := by
        have := hk (by omega)
        intro q
        have : v = 0 := by exact_mod_cast q
        omega
      have : (v : Rat) * ((sm l : Rat) / (v : Rat)) = (sm l : Rat) := by
        rw [Rat.mul_comm]; exact Rat.div_mul_cancel hv0
      grind
  have e2 : T (lackW l h) (fun k v => if k = 0 then 0 else sgn k) = (if lackW l h = [] then 1 else 0) - 1 := by
    have e3 : T (lackW l h) (fun k v => if k = 0 then 0 else sgn k) = T (lackW l h) (fun k v => sgn k + (-1 : Rat) * (if k = 0 then 1 else 0)) := by
      congr 1; funext k v
      by_cases h0 : k = 0
      · simp [h0, sgn_zero]; grind
      · simp [h0]; grind
    have e4 : ∀ (L : List Nat) (c : Nat → Nat → Rat), (∀ k v, 0 < k → c k v = 0) → T L c = c 0 0 := by
      intro L
      induction L with
      | nil => intro c _; rfl
      | cons w ws ih =>
        intro c hc
        simp only [T]
        rw [ih c hc, ih (fun k v => c (k + 1) (v + w)) (fun k v _ => hc _ _ (by omega)), hc (0 + 1) _ (by omega)]
        grind
    rw [e3, T_add, T_mul, T_sgn, e4 (lackW l h) (fun k _ => if k = 0 then (1 : Rat) else 0) (fun k v hk => by simp; omega)]
    simp; grind
  rw [e, T_add, T_mul, T_mul, e2]
  by_cases hL : lackW l h = []
  · simp only [hL, if_true]; grind
  · simp only [hL, if_false]; grind
theorem dsum_add : ∀ (l : List Nat) (F G : Nat → Rat), dsum l (fun i => F i + G i) = dsum l F + dsum l G
  | [], F, G => by simp [dsum]; grind
  | a :: l, F, G => by simp only [dsum]; rw [dsum_add l]; grind
theorem dsum_mul (c : Rat) : ∀ (l : List Nat) (F : Nat → Rat), dsum l (fun i => c * F i) = c * dsum l F
  | [], F => by simp [dsum]
  | a :: l, F => by simp only [dsum]; rw [dsum_mul c l]; grind
theorem dsum_one : ∀ (l : List Nat), dsum l (fun _ => 1) = (sm l : Rat)
  | [] => by simp [dsum, sm]
  | a :: l => by simp only [dsum, sm]; rw [dsum_one l]; push_cast; grind
theorem dsum_congr : ∀ (l : List Nat) (F G : Nat → Rat), (∀ i, i < l.length → F i = G i) → dsum l F = dsum l G
  | [], F, G, _ => rfl
  | a :: l, F, G, h => by
    simp only [dsum]
    rw [h 0 (by simp), dsum_congr l _ _ (fun i hi => h (i + 1) (by simp; omega))]
theorem dsum_snoc : ∀ (l : List Nat) (w : Nat) (F : Nat → Rat), dsum (l ++ [w]) F = dsum l F + (w : Rat) * F l.length
  | [], w, F => by simp [dsum]; grind
  | a :: l, w, F => by
    simp only [List.cons_append, dsum, List.length_cons]
    rw [dsum_snoc l]; grind
theorem dsum_lack : ∀ (l : List Nat) (h : Nat), dsum l (fun i => if h.testBit i then 0 else 1) = (sm (lackW l h) : Rat)
  | [], h => by simp [dsum, sm, lackW]
  | a :: l, h => by
    have ih := dsum_lack l (h / 2)
    simp only [dsum, lackW]
    have e : (fun j => if h.testBit (j + 1) = true then (0 : Rat) else 1) = fun j => if (h / 2).testBit j = true then 0 else 1 := by
      funext j; rw [Nat.testBit_div_two]
    rw [e, ih]
    split
    · grind
    · simp only [sm]; push_cast; grind
theorem or_bit {h i : Nat} (b : h.testBit i = true) : h ||| 2 ^ i = h := by
  apply Nat.eq_of_testBit_eq
  intro j
  rw [Nat.testBit_or, Nat.testBit_two_pow]
  by_cases e : i = j
  · subst e; simp [b]
  · simp [e]
/-- the mean out of the means where one more is had -/
theorem Mq_next {l : List Nat} (hp : ∀ w ∈ l, 0 < w) (h : Nat) (hL : lackW l h ≠ []) :
    (sm (lackW l h) : Rat) * Mq l h = (sm l : Rat) + dsum l (fun i => if h.testBit i then 0 else Mq l (h ||| 2 ^ i)) := by
  have e := Mq_draw hp h
  rw [if_neg hL] at e
  have e1 : dsum l (fun i => Mq l (h ||| 2 ^ i)) = dsum l (fun i => (if h.testBit i then 0 else Mq l (h ||| 2 ^ i)) + Mq l h * (1 + (-1 : Rat) * (if h.testBit i then 0 else 1))) := by
    refine dsum_congr _ _ _ fun i _ => ?_
    by_cases b : h.testBit i = true
    · simp only [b, if_true, or_bit b]; grind
    · simp only [b, if_false]; grind
  rw [e1, dsum_add, dsum_mul, dsum_add, dsum_mul, dsum_one, dsum_lack] at e
  grind
theorem Mq_full {l : List Nat} {h : Nat} (hL : lackW l h = []) : Mq l h = 0 := by
  unfold Mq; rw [hL]; rfl
end Ak
set_option linter.all false
namespace Ak
open Kp292
/-! ### the specification's sums over sets, as T -/
theorem foldl_add : ∀ (l : List Nat) (a : Nat), l.foldl (fun (a b : Nat) => a + b) a = a + sm l
  | [], a => by simp [sm]
  | x :: l, a => by simp only [List.foldl_cons, sm]; rw [foldl_add l]; omega
theorem sum_sm (l : List Nat) : Kp291.sum l = sm l := by
  unfold Kp291.sum; rw [foldl_add]; omega
theorem weight_nil (m : Nat) : weight [] m = 0 := rfl
theorem weight_cons (w : Nat) (l : List Nat) (m : Nat) : weight (w :: l) m = (if m.testBit 0 then w else 0) + weight l (m / 2) := by
  unfold weight
  rw [sum_sm, sum_sm, List.length_cons, List.range_succ_eq_map, List.map_cons, List.map_map]
  simp only [sm, List.getD_cons_zero]
  congr 2
  apply List.map_congr_left
  intro i _
  simp [Function.comp, Nat.testBit_succ]
theorem size_nil (m : Nat) : size [] m = 0 := rfl
theorem size_cons (w : Nat) (l : List Nat) (m : Nat) : size (w :: l) m = (if m.testBit 0 then 1 else 0) + size l (m / 2) := by
  unfold size
  rw [List.length_cons, List.range_succ_eq_map, List.filter_cons, List.filter_map]
  have e : ((fun i => Nat.testBit m i) ∘ Nat.succ) = fun i => Nat.testBit (m / 2) i := by
    funext i; simp [Function.comp, Nat.testBit_succ]
  rw [e]
  split
  · simp; omega
  · simp
theorem within_nil (m q : Nat) : within [] m q = true := rfl
theorem within_cons (w : Nat) (l : List Nat) (m q : Nat) : within (w :: l) m q = ((!m.testBit 0 || q.testBit 0) && within l (m / 2) (q / 2)) := by
  unfold within
  rw [List.length_cons, List.range_succ_eq_map, List.all_cons, List.all_map]
  congr 2
  funext i; simp [Function.comp, Nat.testBit_succ]
theorem lacking_nil (h : Nat) : lacking [] h = 0 := rfl
theorem sm_two : ∀ (l : List Nat), sm (l.map fun i => 2 ^ (i + 1)) = 2 * sm (l.map fun i => 2 ^ i)
  | [] => rfl
  | a :: l => by simp only [List.map_cons, sm]; rw [sm_two l, Nat.pow_succ]; omega
theorem lacking_cons (w : Nat) (l : List Nat) (h : Nat) : lacking (w :: l) h = (if h.testBit 0 then 0 else 1) + 2 * lacking l (h / 2) := by
  unfold lacking
  rw [sum_sm, sum_sm, List.length_cons, List.range_succ_eq_map, List.filter_cons, List.filter_map]
  have e : ((fun i => !Nat.testBit h i) ∘ Nat.succ) = fun i => !Nat.testBit (h / 2) i := by
    funext i; simp [Function.comp, Nat.testBit_succ]
  rw [e]
  have e2 := sm_two ((List.range l.length).filter fun i => !Nat.testBit (h / 2) i)
  by_cases b : h.testBit 0 = true
  · simp only [b, Bool.not_true, Bool.false_eq_true, if_false, if_true]
    rw [List.map_map, ← e2]
    simp [Function.comp_def]
  · have b' : h.testBit 0 = false := by simpa using b
    simp only [b', Bool.not_false, if_true, Bool.false_eq_true, if_false, List.map_cons, sm]
    rw [List.map_map, ← e2]
    simp [Function.comp_def]
theorem lacking_bit0 (w : Nat) (l : List Nat) (h : Nat) : (lacking (w :: l) h).testBit 0 = !h.testBit 0 := by
  rw [lacking_cons, Nat.testBit_zero]
  by_cases b : h.testBit 0 = true
  · simp [b]
  · have b' : h.testBit 0 = false := by simpa using b
    simp [b']
theorem lacking_div (w : Nat) (l : List Nat) (h : Nat) : lacking (w :: l) h / 2 = lacking l (h / 2) := by
  rw [lacking_cons]
  split <;> omega
/-- a sum over all masks below 2 ^ n -/
def rsum (N : Nat) (f : Nat → Rat) : Rat := ((List.range N).map f).sum
theorem rsum_succ (N : Nat) (f : Nat → Rat) : rsum (N + 1) f = rsum N f + f N := by
  unfold rsum
  rw [List.range_succ, List.map_append, List.sum_append]
  simp; grind
theorem rsum_double : ∀ (N : Nat) (f : Nat → Rat), rsum (2 * N) f = rsum N (fun m => f (2 * m) + f (2 * m + 1))
  | 0, f => rfl
  | N + 1, f => by
    rw [rsum_succ, ← rsum_double N, show 2 * (N + 1) = 2 * N + 1 + 1 by omega, rsum_succ, rsum_succ]; grind
theorem rsum_add (N : Nat) (f g : Nat → Rat) : rsum N (fun m => f m + g m) = rsum N f + rsum N g := by
  induction N with
  | zero => simp [rsum]; grind
  | succ N ih => rw [rsum_succ, rsum_succ, rsum_succ, ih]; grind
theorem rsum_congr (N : Nat) (f g : Nat → Rat) (h : ∀ m, m < N → f m = g m) : rsum N f = rsum N g := by
  induction N with
  | zero => rfl
  | succ N ih => rw [rsum_succ, rsum_succ, ih (fun m hm => h m (by omega)), h N (by omega)]
theorem rsum_T : ∀ (l : List Nat) (h : Nat) (f : Nat → Nat → Rat), rsum (2 ^ l.length) (fun m => if within l m (lacking l h) then f (size l m) (weight l m) else 0) = T (lackW l h) f
  | [], h, f => by simp [rsum, within_nil, size_nil, weight_nil, lackW, T]; grind
  | w :: l, h, f => by
    rw [List.length_cons, Nat.pow_succ, Nat.mul_comm, rsum_double]
    have e0 : ∀ m, (2 * m) / 2 = m := by intro m; omega
    have e1 : ∀ m, (2 * m + 1) / 2 = m := by intro m; omega
    have b0 : ∀ m, (2 * m).testBit 0 = false := by intro m; rw [Nat.testBit_zero]; simp
    have b1 : ∀ m, (2 * m + 1).testBit 0 = true := by intro m; rw [Nat.testBit_zero]; simp
    simp only [within_cons, size_cons, weight_cons, lacking_bit0, lacking_div, e0, e1, b0, b1]
    have ih := rsum_T l (h / 2)
    by_cases b : h.testBit 0 = true
    · simp only [b, lackW, if_true]
      rw [← ih]
      apply rsum_congr
      intro m _
      simp; grind
    · have b' : h.testBit 0 = false := by simpa using b
      simp only [b', lackW, Bool.false_eq_true, if_false, T]
      rw [← ih, ← ih, ← rsum_add]
      apply rsum_congr
      intro m _
      simp only [Bool.not_false, Bool.or_true, Bool.true_and, if_true, Bool.true_or, Nat.zero_add, Nat.add_comm 1, Nat.add_comm w]
/-! ### fractions -/
def val (a : Frac) : Rat := mkRat a.up a.down
def Red (a : Frac) : Prop := 0 < a.down ∧ Int.gcd a.up (a.down : Int) = 1
theorem val_num {a : Frac} (h : Red a) : (val a).num = a.up ∧ (val a).den = a.down := by
  have hc : a.up.natAbs.Coprime a.down := by
    have := h.2
    unfold Int.gcd at this
    simpa using this
  have : val a = ⟨a.up, a.down, by have := h.1; omega, hc⟩ := by
    unfold val
    exact (Rat.mk_eq_mkRat ..).symm
  rw [this]
  exact ⟨rfl, rfl⟩
theorem gcd_pos {a : Frac} (h : 0 < a.down) : 0 < Int.gcd a.up (a.down : Int) := by
  apply Int.gcd_pos_of_ne_zero_right
  omega
theorem low_red {a : Frac} (h : 0 < a.down) : Red (low a) ∧ val (low a) = val a := by
  have g0 := gcd_pos h
  have gu : (Int.gcd a.up (a.down : Int) : Int) ∣ a.up := Int.gcd_dvd_left ..
  have gd : Int.gcd a.up (a.down : Int) ∣ a.down := by
    have := Int.gcd_dvd_right a.up (a.down : Int)
    exact_mod_cast this
  unfold low
  simp only
  rw [if_neg (by omega)]
  generalize hg : Int.gcd a.up (a.down : Int) = g at g0 gu gd
  obtain ⟨u, hu⟩ := gu
  obtain ⟨d, hd⟩ := gd
  have e1 : a.up / (g : Int) = u := by rw [hu]; exact Int.mul_ediv_cancel_left _ (by omega)
  have e2 : a.down / g = d := by rw [hd]; exact Nat.mul_div_cancel_left _ g0
  rw [e1, e2]
  have d0 : 0 < d := by
    rcases Nat.eq_zero_or_pos d with z | z
    · rw [z] at hd; omega
    · exact z
  refine ⟨⟨d0, ?_⟩, ?_⟩
  · show Int.gcd u (d : Int) = 1
    rw [hu, hd] at hg
    push_cast at hg
    rw [Int.gcd_mul_left] at hg
    simp at hg
    have : g * Int.gcd u (d : Int) = g * 1 := by omega
    exact Nat.eq_of_mul_eq_mul_left g0 this
  · show mkRat u d = mkRat a.up a.down
    rw [hu, hd]
    exact (Rat.mkRat_mul_left (by omega)).symm
theorem val_mk (u : Int) (d : Nat) : val ⟨u, d⟩ = (u : Rat) / (d : Rat) := Rat.mkRat_eq_div u d
theorem add_red {a b : Frac} (ha : 0 < a.down) (hb : 0 < b.down) : Red (add a b) ∧ val (add a b) = val a + val b := by
  have h : 0 < (⟨a.up * (b.down : Int) + b.up * (a.down : Int), a.down * b.down⟩ : Frac).down := Nat.mul_pos ha hb
  refine ⟨(low_red h).1, (low_red h).2.trans ?_⟩
  exact (Rat.mkRat_add_mkRat a.up b.up (by omega) (by omega)).symm
theorem neg_val (a : Frac) : val (neg a) = - val a := by
  show mkRat (-a.up) a.down = - mkRat a.up a.down
  rw [Rat.mkRat_eq_div, Rat.mkRat_eq_div]
  push_cast
  grind
theorem over_red {a b : Nat} (hb : 0 < b) : Red (over a b) ∧ val (over a b) = (a : Rat) / (b : Rat) := by
  have := low_red (a := ⟨(a : Int), b⟩) hb
  refine ⟨this.1, this.2.trans ?_⟩
  rw [val_mk]
  push_cast
  rfl
theorem fold_red : ∀ (l : List Frac) (z : Frac), Red z → (∀ a ∈ l, 0 < a.down) → Red (l.foldl add z) ∧ val (l.foldl add z) = val z + (l.map val).sum
  | [], z, hz, _ => ⟨hz, by simp; grind⟩
  | a :: l, z, hz, h => by
    have h1 := add_red hz.1 (h a (List.mem_cons_self ..))
    have h2 := fold_red l (add z a) h1.1 (fun x hx => h x (List.mem_cons_of_mem _ hx))
    refine ⟨h2.1, ?_⟩
    rw [List.foldl_cons, h2.2, h1.2, List.map_cons, List.sum_cons]
    grind
theorem zero_red : Red zero := ⟨by decide, rfl⟩
theorem zero_val : val zero = 0 := by
  show mkRat 0 1 = 0
  simp
theorem sumF_red {l : List Frac} (h : ∀ a ∈ l, 0 < a.down) : Red (sumF l) ∧ val (sumF l) = (l.map val).sum := by
  have := fold_red l zero zero_red h
  refine ⟨this.1, this.2.trans ?_⟩
  rw [zero_val]; grind
theorem filter_sum (p : Nat → Bool) (g : Nat → Rat) : ∀ (L : List Nat), ((L.filter p).map g).sum = (L.map fun m => if p m then g m else 0).sum
  | [] => rfl
  | a :: L => by
    rw [List.filter_cons]
    by_cases h : p a = true
    · rw [if_pos h, List.map_cons, List.map_cons, List.sum_cons, List.sum_cons, filter_sum p g L, if_pos h]
    · rw [if_neg h, List.map_cons, List.sum_cons, filter_sum p g L, if_neg h]; grind
theorem signed_down (k : Nat) (a : Frac) : (signed k a).down = a.down := by
  unfold signed; split <;> rfl
theorem signed_val (k : Nat) (a : Frac) : val (signed k a) = sgn k * val a := by
  unfold signed sgn
  split
  · grind
  · rw [neg_val]; grind
theorem weight_le : ∀ (l : List Nat) (m : Nat), weight l m ≤ sm l
  | [], m => Nat.le_refl _
  | w :: l, m => by
    rw [weight_cons]
    have := weight_le l (m / 2)
    simp only [sm]
    split <;> omega
theorem weight_pos : ∀ (l : List Nat) (m : Nat), (∀ w ∈ l, 0 < w) → m ≠ 0 → m < 2 ^ l.length → 0 < weight l m
  | [], m, _, h0, h1 => by simp at h1; omega
  | w :: l, m, hp, h0, h1 => by
    rw [weight_cons]
    by_cases b : m.testBit 0 = true
    · rw [if_pos b]; have := hp w (List.mem_cons_self ..); omega
    · have b' : m % 2 = 0 := by simpa using b
      have := weight_pos l (m / 2) (fun x hx => hp x (List.mem_cons_of_mem _ hx)) (by omega) (by rw [List.length_cons, Nat.pow_succ] at h1; omega)
      omega
theorem size_zero : ∀ (l : List Nat) (m : Nat), m < 2 ^ l.length → (size l m = 0 ↔ m = 0)
  | [], m, h => by simp at h; simp [size_nil, h]
  | w :: l, m, h => by
    rw [size_cons]
    have ih := size_zero l (m / 2) (by rw [List.length_cons, Nat.pow_succ] at h; omega)
    rw [Nat.testBit_zero]
    by_cases b : m % 2 = 1
    · simp [b]; omega
    · simp [b]; rw [ih]; omega
theorem sm_pos : ∀ {l : List Nat}, (∀ w ∈ l, 0 < w) → l ≠ [] → 0 < sm l
  | [], _, h => absurd rfl h
  | w :: l, hp, _ => by have := hp w (List.mem_cons_self ..); simp only [sm]; omega
theorem cast_sub {a b : Nat} (h : b ≤ a) : ((a - b : Nat) : Rat) = (a : Rat) - (b : Rat) := by
  have e : (((a - b) + b : Nat) : Rat) = (a : Rat) := by rw [Nat.sub_add_cancel h]
  push_cast at e
  grind
/-- the specification's mean -/
theorem mean_red {l : List Nat} (hp : ∀ w ∈ l, 0 < w) (h : Nat) : Red (mean l h) ∧ val (mean l h) = Mq l h := by
  unfold mean
  have hd : ∀ a ∈ ((sets l).filter fun m => m != 0 && within l m (lacking l h)).map (fun m => signed (size l m + 1) (over (Kp291.sum l) (weight l m))), 0 < a.down := by
    intro a ha
    obtain ⟨m, hm, rfl⟩ := List.mem_map.mp ha
    obtain ⟨h1, h2⟩ := List.mem_filter.mp hm
    have h3 : m < 2 ^ l.length := List.mem_range.mp h1
    simp at h2
    rw [signed_down]
    exact (over_red (weight_pos l m hp h2.1 h3)).1.1
  have := sumF_red hd
  refine ⟨this.1, this.2.trans ?_⟩
  rw [List.map_map, filter_sum]
  show rsum (2 ^ l.length) _ = _
  unfold Mq
  rw [← rsum_T]
  apply rsum_congr
  intro m hm
  have hz := size_zero l m hm
  simp only [Function.comp]
  by_cases hw : within l m (lacking l h) = true
  · by_cases h0 : m = 0
    · subst h0
      have hs := hz.mpr rfl
      simp [hs]
    · have hs : ¬ size l m = 0 := fun q => h0 (hz.mp q)
      simp only [hw, hs, if_true, if_false]
      simp [h0]
      rw [signed_val, (over_red (weight_pos l m hp h0 hm)).2, sgn_succ, sum_sm]
  · simp [hw]
theorem allBy_red {l : List Nat} (hp : ∀ w ∈ l, 0 < w) (hl : l ≠ []) (h n : Nat) : Red (allBy l h n) ∧ val (allBy l h n) = Vq l n h / (sm l : Rat) ^ n := by
  unfold allBy
  have hS := sm_pos hp hl
  have hd : ∀ a ∈ ((sets l).filter fun m => within l m (lacking l h)).map (fun m => signed (size l m) (over ((Kp291.sum l - weight l m) ^ n) (Kp291.sum l ^ n))), 0 < a.down := by
    intro a ha
    obtain ⟨m, hm, rfl⟩ := List.mem_map.mp ha
    rw [signed_down, sum_sm]
    exact (over_red (Nat.pow_pos hS)).1.1
  have := sumF_red hd
  refine ⟨this.1, this.2.trans ?_⟩
  rw [List.map_map, filter_sum]
  show rsum (2 ^ l.length) _ = _
  have e : Vq l n h / (sm l : Rat) ^ n = T (lackW l h) (fun k v => ((sm l : Rat) ^ n)⁻¹ * (sgn k * ((sm l : Rat) - (v : Rat)) ^ n)) := by
    rw [T_mul]; unfold Vq; grind
  rw [e, ← rsum_T]
  apply rsum_congr
  intro m hm
  simp only [Function.comp]
  by_cases hw : within l m (lacking l h) = true
  · simp only [hw, if_true]
    rw [signed_val, sum_sm, (over_red (Nat.pow_pos hS)).2]
    have e2 := cast_sub (weight_le l m)
    have e3 : (((sm l - weight l m) ^ n : Nat) : Rat) = ((sm l : Rat) - (weight l m : Rat)) ^ n := by
      rw [← e2]; push_cast; rfl
    have e4 : ((sm l ^ n : Nat) : Rat) = (sm l : Rat) ^ n := by push_cast; rfl
    rw [e3, e4]
    grind
  · simp [hw]
end Ak
set_option linter.all false
namespace Ak
open Kp292
/-! ### half -/
theorem heavy_fold (l : List Nat) (n : Nat) : ∀ (L : List Nat) (a : Int), ((L.foldl (fun (a : Int) (m : Nat) => let v := (((Kp291.sum l - weight l m) ^ n : Nat) : Int)
    if size l m % 2 = 0 then a + v else a - v) a : Int) : Rat) = (a : Rat) + (L.map fun m => sgn (size l m) * ((sm l : Rat) - (weight l m : Rat)) ^ n).sum
  | [], a => by simp; grind
  | m :: L, a => by
    rw [List.foldl_cons, heavy_fold l n L, List.map_cons, List.sum_cons]
    have e2 := cast_sub (weight_le l m)
    have e3 : ((((Kp291.sum l - weight l m) ^ n : Nat) : Int) : Rat) = ((sm l : Rat) - (weight l m : Rat)) ^ n := by
      rw [← e2, sum_sm]; push_cast; rfl
    unfold sgn
    by_cases h : size l m % 2 = 0
    · simp only [h, if_true]
      rw [Rat.intCast_add, e3]; grind
    · simp only [h, if_false]
      rw [Rat.intCast_sub, e3]; grind
theorem heavy_eq (l : List Nat) (h n : Nat) : ((heavyUp l h n : Int) : Rat) = Vq l n h := by
  unfold heavyUp Vq
  rw [heavy_fold, filter_sum, ← rsum_T]
  show _ + rsum (2 ^ l.length) _ = _
  push_cast
  grind
/-- rows that are not whole, bounded: each lacking kind may be the one that never came -/
def lackB : List Nat → Nat → (Nat → Rat) → Rat
  | [], _, _ => 0
  | w :: l, h, f => (if h.testBit 0 then 0 else f w) + lackB l (h / 2) f
theorem dsum_const (c : Rat) (l : List Nat) : dsum l (fun _ => c) = c * (sm l : Rat) := by
  rw [← dsum_one, ← dsum_mul]; congr 1; funext i; grind
theorem lackB_draw : ∀ (l : List Nat) (h : Nat) (f : Nat → Rat), dsum l (fun i => lackB l (h ||| 2 ^ i) f) = (sm l : Rat) * lackB l h f - lackB l h (fun w => (w : Rat) * f w)
  | [], h, f => by simp [dsum, lackB, sm]; grind
  | w :: l, h, f => by
    simp only [dsum, lackB, or_pow_succ_zero, or_pow_succ_div, Nat.pow_zero, or_one_even, or_one_div, if_true, sm]
    rw [dsum_add, dsum_const, lackB_draw l (h / 2) f]
    push_cast
    by_cases b : h.testBit 0 = true
    · simp only [b, if_true]; grind
    · simp only [b, if_false, Bool.false_eq_true]; grind
theorem lackB_sub : ∀ (l : List Nat) (h : Nat) (f g : Nat → Rat), lackB l h (fun w => f w - g w) = lackB l h f - lackB l h g
  | [], h, f, g => by simp [lackB]; grind
  | w :: l, h, f, g => by
    simp only [lackB]; rw [lackB_sub l]
    split <;> grind
theorem lackB_mul (c : Rat) : ∀ (l : List Nat) (h : Nat) (f : Nat → Rat), lackB l h (fun w => c * f w) = c * lackB l h f
  | [], h, f => by simp [lackB]
  | w :: l, h, f => by
    simp only [lackB]; rw [lackB_mul c l]
    split <;> grind
theorem lackB_le : ∀ (l : List Nat) (h : Nat) (f : Nat → Rat) (c : Rat), (∀ w ∈ l, f w ≤ c) → 0 ≤ c → lackB l h f ≤ (l.length : Rat) * c
  | [], h, f, c, _, _ => by simp [lackB]
  | w :: l, h, f, c, hf, hc => by
    simp only [lackB, List.length_cons]
    have := lackB_le l (h / 2) f c (fun x hx => hf x (List.mem_cons_of_mem _ hx)) hc
    have h1 := hf w (List.mem_cons_self ..)
    push_cast
    split <;> grind
theorem lackB_nonneg : ∀ (l : List Nat) (h : Nat) (f : Nat → Rat), (∀ w ∈ l, 0 ≤ f w) → 0 ≤ lackB l h f
  | [], h, f, _ => by simp [lackB]
  | w :: l, h, f, hf => by
    simp only [lackB]
    have := lackB_nonneg l (h / 2) f (fun x hx => hf x (List.mem_cons_of_mem _ hx))
    have h1 := hf w (List.mem_cons_self ..)
    split <;> grind
theorem lackB_one : ∀ (l : List Nat) (h : Nat), (1 : Rat) - (if lackW l h = [] then 1 else 0) ≤ lackB l h (fun _ => 1)
  | [], h => by simp [lackB, lackW]; grind
  | w :: l, h => by
    simp only [lackB, lackW]
    have ih := lackB_one l (h / 2)
    have h0 := lackB_nonneg l (h / 2) (fun _ => 1) (fun _ _ => by grind)
    by_cases b : h.testBit 0 = true
    · simp only [b, if_true]; grind
    · simp only [b, if_false, Bool.false_eq_true]
      simp; grind
theorem dsum_le : ∀ (l : List Nat) (F G : Nat → Rat), (∀ i, i < l.length → F i ≤ G i) → dsum l F ≤ dsum l G
  | [], F, G, _ => by simp [dsum]
  | w :: l, F, G, h => by
    simp only [dsum]
    have h0 : (0 : Rat) ≤ (w : Rat) := by exact_mod_cast Nat.zero_le w
    have h1 := Rat.mul_le_mul_of_nonneg_left (h 0 (by simp)) h0
    have h2 := dsum_le l (fun j => F (j + 1)) (fun j => G (j + 1)) (fun i hi => h (i + 1) (by simp; omega))
    grind
theorem Vq_bound (l : List Nat) : ∀ (n h : Nat), (sm l : Rat) ^ n - Vq l n h ≤ lackB l h (fun w => ((sm l : Rat) - (w : Rat)) ^ n)
  | 0, h => by
    rw [Vq_zero]
    have := lackB_one l h
    have e : (fun w : Nat => ((sm l : Rat) - (w : Rat)) ^ 0) = fun _ => 1 := by funext w; grind
    rw [e]; grind
  | n + 1, h => by
    rw [← Vq_succ]
    have e1 : (sm l : Rat) ^ (n + 1) = dsum l (fun _ => (sm l : Rat) ^ n) := by rw [dsum_const]; grind
    have e2 : dsum l (fun i => (sm l : Rat) ^ n + (-1 : Rat) * Vq l n (h ||| 2 ^ i)) = (sm l : Rat) ^ (n + 1) - dsum l (fun i => Vq l n (h ||| 2 ^ i)) := by
      rw [dsum_add, dsum_mul, e1]; grind
    have e3 := dsum_le l (fun i => (sm l : Rat) ^ n + (-1 : Rat) * Vq l n (h ||| 2 ^ i)) (fun i => lackB l (h ||| 2 ^ i) (fun w => ((sm l : Rat) - (w : Rat)) ^ n)) (fun i _ => by
      have := Vq_bound l n (h ||| 2 ^ i)
      grind)
    rw [e2, lackB_draw] at e3
    have e4 : lackB l h (fun w => ((sm l : Rat) - (w : Rat)) ^ (n + 1)) = (sm l : Rat) * lackB l h (fun w => ((sm l : Rat) - (w : Rat)) ^ n) - lackB l h (fun w => (w : Rat) * ((sm l : Rat) - (w : Rat)) ^ n) := by
      rw [← lackB_mul, ← lackB_sub]; congr 1; funext w; grind
    rw [e4]; exact e3
theorem pow_399 : ∀ S : Nat, S < 121 → 0 < S → 12 * (S - 1) ^ 399 ≤ S ^ 399 := by decide +kernel
theorem sm_le : ∀ (l : List Nat) (c : Nat), (∀ w ∈ l, w ≤ c) → sm l ≤ l.length * c
  | [], c, _ => by simp [sm]
  | w :: l, c, h => by
    have := sm_le l c (fun x hx => h x (List.mem_cons_of_mem _ hx))
    have := h w (List.mem_cons_self ..)
    simp only [sm, List.length_cons, Nat.add_mul]; omega
theorem mem_sm : ∀ {l : List Nat} {w : Nat}, w ∈ l → w ≤ sm l
  | [], w, h => by simp at h
  | a :: l, w, h => by
    simp only [sm]
    rcases List.mem_cons.mp h with rfl | h
    · omega
    · have := mem_sm h; omega
structure Ok (l : List Nat) : Prop where
  pos : ∀ w ∈ l, 0 < w
  top : ∀ w ∈ l, w ≤ 20
  len : l.length ≤ 6
theorem Ok.sm120 {l : List Nat} (o : Ok l) : sm l ≤ 120 := by
  have := sm_le l 20 o.top
  have := o.len
  omega
theorem half_end {l : List Nat} (o : Ok l) (hl : l ≠ []) (h : Nat) : (sm l : Rat) ^ 399 ≤ 2 * Vq l 399 h := by
  have b := Vq_bound l 399 h
  have hS := sm_pos o.pos hl
  have hc : ∀ w ∈ l, ((sm l : Rat) - (w : Rat)) ^ 399 ≤ (((sm l - 1) ^ 399 : Nat) : Rat) := by
    intro w hw
    have h1 := o.pos w hw
    have h2 := mem_sm hw
    have e : ((sm l : Rat) - (w : Rat)) ^ 399 = (((sm l - w) ^ 399 : Nat) : Rat) := by
      rw [← cast_sub h2]; push_cast; rfl
    rw [e]
    exact_mod_cast Nat.pow_le_pow_left (by omega) 399
  have h1 := lackB_le l h (fun w => ((sm l : Rat) - (w : Rat)) ^ 399) _ hc (by exact_mod_cast Nat.zero_le _)
  have h2 := pow_399 (sm l) (by have := o.sm120; omega) hS
  have h3 : (l.length : Rat) * (((sm l - 1) ^ 399 : Nat) : Rat) ≤ 6 * (((sm l - 1) ^ 399 : Nat) : Rat) := by
    have := Nat.mul_le_mul_right ((sm l - 1) ^ 399) o.len
    exact_mod_cast this
  have h4 : (12 : Rat) * (((sm l - 1) ^ 399 : Nat) : Rat) ≤ (sm l : Rat) ^ 399 := by exact_mod_cast h2
  grind
theorem half_find {l : List Nat} {h d : Nat} (hd : d < 400) (h1 : ∀ d', d' < d → 2 * Vq l d' h < (sm l : Rat) ^ d') (h2 : (sm l : Rat) ^ d ≤ 2 * Vq l d h) : half l h = some d := by
  unfold half
  have hi : ∀ n, (((Kp291.sum l ^ n : Nat) : Int) ≤ 2 * heavyUp l h n) ↔ (sm l : Rat) ^ n ≤ 2 * Vq l n h := by
    intro n
    rw [← heavy_eq, sum_sm]
    constructor
    · intro q
      have : ((((sm l) ^ n : Nat) : Int) : Rat) ≤ ((2 * heavyUp l h n : Int) : Rat) := by exact_mod_cast q
      push_cast at this
      exact this
    · intro q
      have : ((((sm l) ^ n : Nat) : Int) : Rat) ≤ ((2 * heavyUp l h n : Int) : Rat) := by push_cast; exact q
      exact_mod_cast this
  rw [List.find?_range_eq_some]
  refine ⟨by simpa using (hi d).mpr h2, List.mem_range.mpr hd, fun j hj => ?_⟩
  have := h1 j hj
  have hn : ¬ (((Kp291.sum l ^ j : Nat) : Int) ≤ 2 * heavyUp l h j) := by
    rw [hi]; grind
  simpa using hn
end Ak

set_option Elab.async false
set_option linter.all false
set_option maxRecDepth 100000
set_option maxHeartbeats 2000000
/-! RULES of my own over the layer: products and quotients of large ints, sum, enumerate, tables of defs. -/
namespace Ak
open PySem PySem.Spec PyProof.Rows L2
abbrev St := L2.St
section
variable {X : Cx}
theorem bits_le {i : Int} {n : Nat} (h : i.natAbs < 2 ^ n) : Builtin.Int.intBits i ≤ n := by
  unfold Builtin.Int.intBits
  split
  · exact Nat.zero_le _
  · rename_i h0
    have hz : i.natAbs ≠ 0 := by
      intro z
      apply h0
      have : i = 0 := by omega
      rw [this]
      rfl
    have := (Nat.log2_lt hz).mpr h
    omega
theorem mul_ok {i j : Int} (h : Builtin.Int.intBits i ≤ 60000000) (h' : Builtin.Int.intBits j ≤ 60000000) : IntMulOk i j := by
  unfold IntMulOk
  have e : Builtin.Int.intTooBig ((Builtin.Int.intBits i : Int) + (Builtin.Int.intBits j : Int)) = false := by
    unfold Builtin.Int.intTooBig
    have : bitsLine = 134217728 := rfl
    rw [this]
    simp only [decide_eq_false_iff_not]
    omega
  intro q
  rw [Bool.and_eq_true] at q
  have q2 := q.2
  push_cast at q2 e
  rw [e] at q2
  cases q2
theorem op_mulB : OpR X (binaryOp .Mult) (rI (fun i j => Builtin.Int.intBits i ≤ 60000000 ∧ Builtin.Int.intBits j ≤ 60000000) fun i j => .int (i * j)) := opI fun _ _ _ _ _ _ _ hc q => mul_int q (mul_ok hc.1 hc.2)
theorem op_fdivB : OpR X (binaryOp .FloorDiv) (rI (fun _ j => 0 < j ∧ j.natAbs.log2 < 9000) fun i j => .int (i / j)) := opI fun i j _ _ _ _ _ hc q => by
  have h1 : (0 : Int) < j := hc.1
  exact floordiv_int (by omega) (by rw [Int.fdiv_eq_ediv_of_nonneg i (by omega)]; exact q) (.inl (PyProof.noPylong_of_log2 hc.2))
/-- xs[i] as a value, for xs[i] += v -/
theorem get_list : PGet X (rIxL X.K) := by
  intro pins s σ H x y v u Q I rx ry h
  obtain ⟨p, xs, i, z, rfl, rfl, hq, he, q⟩ := h
  cases rx
  obtain ⟨t, rfl⟩ := ry
  obtain ⟨its, r, pl, hz⟩ := I.list hq
  obtain ⟨j, h1, h2, h3, h4, h5⟩ := atI_get he
  obtain ⟨w, ew, rw'⟩ := r.get h2
  have hl := r.length
  have hn := line63
  have fin : EP X pins σ Q w s := ⟨z, H, I, rw', q⟩
  by_cases h0 : 0 ≤ i
  · have hj : i.toNat = j := by
      rw [seqIndex_of h0 h5] at h1
      exact Option.some.inj h1
    exact wpAny_getItem_list pl.isList h0 (by omega) (by rw [hj]; simpa using ew) fin
  · have hj : (i + (its.toArray.size : Int)).toNat = j := by
      rw [seqIndex_neg (by omega) h4] at h1
      rw [List.size_toArray, ← hl]
      exact Option.some.inj h1
    exact wpAny_getItem_list_neg pl.isList (by omega) (by rw [List.size_toArray] <;> omega) (by omega) (by rw [hj]; simpa using ew) fin
theorem preSum_ints : ∀ (ns : List Int) (j : Nat), j ≤ ns.length → preSum (fun i => ns.getD i 0) j = (ns.take j).sum
  | ns, 0, _ => by simp [preSum]
  | ns, j + 1, h => by
    have ih := preSum_ints ns j (by omega)
    show preSum (fun i => ns.getD i 0) j + ns.getD j 0 = _
    rw [ih, L2.sum_take (l := ns) (i := j) (z := ns.getD j 0) (by rw [List.getD_eq_getElem?_getD, List.getElem?_eq_getElem (by omega)]; rfl)]
/-- sum of a list of ints of any size -/
theorem call_sum (hc : X.calm = true) : CallR X (.builtin "sum") (fun xs H Q => ∃ (p : Addr) (ns : List Int), xs = [.ref p] ∧ SqL X.K H p (ns.map V.int) ∧ Q (.int ns.sum) H) := by
  intro pins s σ H xs us Q I rv h
  obtain ⟨p, ns, rfl, hq, q⟩ := h
  cases rv with
  | cons r rr =>
    cases rr
    cases r
    obtain ⟨its, rs, pl, hz⟩ := I.list hq
    have hlen : its.length = ns.length := by have := rs.length; simpa using this.symm
    obtain ⟨o, n, ho, _⟩ := id pl
    have hne : p ≠ s.heap.objs.size := Nat.ne_of_lt (Heap.lt_size ho)
    have W := Walks.list (prog := X.prog) (w := X.w) (A := X.A.in1) (I.ok.hd hc) s.heap.objs.size p hne its.toArray
    refine call_sum_walkG (wpAny_pyIter_list pl.isList ?_)
    refine ⟨s.heap.objs.size, _, _, _, _, _, fun i => ns.getD i 0, rfl, W, ⟨⟨_, Heap.get?_push_size _ rfl, rfl, rfl⟩, pl.isList.at fun o e => Heap.get?_push_of_some _ e⟩, fun b hb => ?_, fun i v hP => ?_, fun h' tk t' hk => ?_⟩
    · rcases List.mem_cons.mp hb with rfl | hb
      · exact Heap.lt_size (Heap.get?_push_size _ rfl)
      · obtain rfl := List.mem_singleton.mp hb
        exact Heap.lt_size (Heap.get?_push_of_some _ ho)
    · have hP' : its[i]? = some v := by simpa using hP
      have hlt : i < its.length := (List.getElem?_eq_some_iff.mp hP').1
      obtain ⟨u, hu, ru⟩ := rs.get (i := i) (x := V.int (ns.getD i 0)) (by
        rw [List.getElem?_map, List.getElem?_eq_getElem (by omega)]
        simp [List.getD_eq_getElem?_getD, List.getElem?_eq_getElem (show i < ns.length by omega)])
      rw [hP'] at hu
      cases hu
      exact ru
    · have e : preSum (fun i => ns.getD i 0) its.toArray.size = ns.sum := by
        rw [List.size_toArray, preSum_ints _ _ (by omega), hlen, List.take_length]
      rw [e]
      refine ⟨.int ns.sum, H, I.kept (t' := tk) fun b o e => hk b o (fun hb => ?_) (Heap.get?_push_of_some _ e), ⟨_, rfl⟩, q⟩
      have : b = s.heap.objs.size := by simpa using hb
      exact absurd (Heap.lt_size e) (this ▸ Nat.lt_irrefl _)
/-- for k, x in enumerate(xs), the list left as it is -/
theorem for_enum {K : PySem.W.Frag} {a : Addr} {xs : List V} {g : TG} {tb : TS} {D : Ends} {σ : St} {H : Hp} (Pv : Nat → St → Hp → Prop) (h0 : Pv 0 σ H) (hl : ∀ i σ H, i ≤ xs.length → Pv i σ H → SqL K H a xs)
    (hs : ∀ i x σ H T, xs[i]? = some x → Pv i σ H → H T = none → g (.ref T) σ (upd H T (.tup [.int (i : Nat), x])) fun σ2 H2 => tb { D with nx := Pv (i + 1), ct := Pv (i + 1), bk := D.nx } σ2 H2) (hd : ∀ σ H, Pv xs.length σ H → D.nx σ H) :
    ∃ W : Nat → Nat → St → Hp → Prop, (∃ m, W 0 m σ H) ∧ ∀ i m σ H, W i m σ H →
      ((Ite K a).stop i H ∧ D.nx σ H) ∨ ((Ite K a).go i H ∧ ∃ N : St → Hp → Prop, (∀ σ' H', N σ' H' → ∃ m', m' < m ∧ W (i + 1) m' σ' H') ∧ ∀ x H', (Ite K a).yld i H x H' → g x σ H' fun σ2 H2 => tb { D with nx := N, ct := N, bk := D.nx } σ2 H2) := by
  refine ⟨fun i m σ H => m = xs.length - i ∧ i ≤ xs.length ∧ Pv i σ H, ⟨xs.length, by simp, Nat.zero_le _, h0⟩, ?_⟩
  rintro i m σ H ⟨rfl, hi, p⟩
  have q := hl i σ H hi p
  by_cases hlt : i < xs.length
  · refine .inr ⟨⟨xs, xs[i], q, by simp [hlt]⟩, Pv (i + 1), fun σ' H' p' => ⟨xs.length - (i + 1), by omega, rfl, hlt, p'⟩, fun v H' y => ?_⟩
    obtain ⟨T, x, rfl, hT, rfl, y⟩ := y
    exact hs i x σ H T (y xs q) p hT
  · have e : i = xs.length := by omega
    subst e
    exact .inl ⟨⟨xs, q, Nat.le_refl _⟩, hd σ H p⟩
/-! ### a table of the text's top: ints to defs -/
inductive KPairs : List DictEntry → List (Int × Addr) → Prop
  | nil : KPairs [] []
  | cons {h : Int} {k : Int} {t : Tok} {f : Addr} {es : List DictEntry} {D : List (Int × Addr)} : h = hashInt k → KPairs es D → KPairs (⟨h, .int k t, .ref f⟩ :: es) ((k, f) :: D)
structure KTab (K : PySem.W.Frag) (a : Addr) (D : List (Int × Addr)) : Prop where
  ns : (a == sysModules) = false
  nd : (D.map (·.1)).Nodup
  ob : ∃ (es : Array DictEntry) (ep : Nat), K.lookup a = some { cls := .type "dict", dict := none, data := .dict es ep, slots := #[] } ∧ KPairs es.toList D
def tabAt (D : List (Int × Addr)) (k : Int) : Option Addr := (D.find? fun p => decide (p.1 = k)).map (·.2)
theorem KPairs.pairs {P : Program} {w : World} : ∀ {es : List DictEntry} {D : List (Int × Addr)}, KPairs es D → Pairs (mixKind P w) es (D.map fun p => ((Sum.inl p.1 : Key), Value.ref p.2))
  | _, _, .nil => .nil
  | _, _, .cons (k := k) (t := t) (f := f) hh r => .cons (keyIs_int k t) rfl r.pairs
theorem KPairs.keys {P : Program} {w : World} : ∀ {es : List DictEntry} {D : List (Int × Addr)}, KPairs es D → ∀ e ∈ es, ∃ k, (mixKind P w).is k e.key = true ∧ e.hash = (mixKind P w).hash k
  | _, _, .nil, e, m => absurd m (by simp)
  | _, _, .cons (k := k) (t := t) (f := f) hh r, e, m => by
    rcases List.mem_cons.mp m with rfl | m
    · exact ⟨Sum.inl k, keyIs_int k t, hh⟩
    · exact r.keys e m
theorem KTab.dict {pins : List (Addr × Obj)} {σ : St} {H : Hp} {s : Shared} {a : Addr} {D : List (Int × Addr)} (T : KTab X.K a D) (I : Inv X pins σ H s) :
    s.heap.DictOf (mixKind X.prog X.w) a (D.map fun p => ((Sum.inl p.1 : Key), Value.ref p.2)) := by
  obtain ⟨es, ep, l, q⟩ := T.ob
  refine ⟨_, es, ep, I.kIn a _ l, ⟨rfl, rfl, rfl⟩, rfl, fun e m => q.keys e (by simpa using m), q.pairs, ?_⟩
  rw [List.map_map]
  have e : ((fun p : Key × Value => p.1) ∘ fun p : Int × Addr => ((Sum.inl p.1 : Key), Value.ref p.2)) = (Sum.inl : Int → Key) ∘ (fun p => p.1) := rfl
  rw [e, ← List.map_map]
  exact List.Pairwise.map _ (fun x y h z => h (Sum.inl.inj z)) T.nd
theorem tab_val (D : List (Int × Addr)) (k : Int) : valueAt (D.map fun p => ((Sum.inl p.1 : Key), Value.ref p.2)) (Sum.inl k) = (tabAt D k).map Value.ref := by
  unfold valueAt tabAt
  induction D with
  | nil => rfl
  | cons p D ih =>
    rw [List.map_cons, List.find?_cons, List.find?_cons]
    by_cases h : p.1 = k
    · have h' : decide ((Sum.inl p.1 : Key) = Sum.inl k) = true := by simp [h]
      simp [h]
    · have h' : decide ((Sum.inl p.1 : Key) = Sum.inl k) = false := by simp [h]
      simp only [h', decide_eq_false h]
      exact ih
variable {i o : Expr} {ti to : TE} {pos : Pos}
/-- k in TABLE -/
def tKIn (K : PySem.W.Frag) (ti to : TE) : TE := fun σ H Q => ti σ H fun y H1 => to σ H1 fun x H2 => ∃ a D k, x = .ref a ∧ y = .int k ∧ KTab K a D ∧ Q (.bl (tabAt D k).isSome) H2
theorem pc_kin (hi : PE X i ti) (ho : PE X o to) : PC X .In i o (tKIn X.K ti to) := by
  intro pins s σ H Q I h
  refine thn (hi pins s σ H _ I h) fun iv s1 ⟨y, H1, I1, ry, q1⟩ => thn (ho pins s1 σ H1 _ I1 q1) fun u s2 ⟨x, H2, I2, rx, a, D, k, ex, ey, T, q2⟩ => ?_
  subst ex ey
  obtain rfl : u = Value.ref a := rx
  obtain ⟨t, rfl⟩ := ry
  refine wpAny_in_of (knd := mixKind X.prog X.w) (k := Sum.inl k) (keyIs_int k t) T.ns (T.dict I2).mapOf ?_
  rw [tab_val, Option.isSome_map]
  exact ⟨.bl _, H2, I2.tok _, rfl, q2⟩
/-- TABLE[k] -/
def tKGet (K : PySem.W.Frag) (to ti : TE) : TE := fun σ H Q => to σ H fun x H1 => ti σ H1 fun y H2 => ∃ a D k f, x = .ref a ∧ y = .int k ∧ KTab K a D ∧ tabAt D k = some f ∧ Q (.ref f) H2
theorem pe_kget (ho : PE X o to) (hi : PE X i ti) (hs : NoSl i) : PE X (.Subscript o i pos) (tKGet X.K to ti) := by
  intro pins s σ H Q I h
  refine subD_of PySem.F.slot_dict_getitem.lookup hs (thn (ho pins s σ H _ I h) fun u s1 ⟨x, H1, I1, rx, q1⟩ => thn (hi pins s1 σ H1 _ I1 q1) fun iv s2 ⟨y, H2, I2, ry, a, D, k, f, ex, ey, T, hf, q2⟩ => ?_)
  subst ex ey
  obtain rfl : u = Value.ref a := rx
  obtain ⟨t, rfl⟩ := ry
  refine ⟨(T.dict I2).typeIs, wpAny_getItem_of (knd := mixKind X.prog X.w) (k := Sum.inl k) (v := Value.ref f) (keyIs_int k t) (T.dict I2).mapOf (by rw [tab_val, hf]; rfl) ?_⟩
  exact ⟨.ref f, H2, I2.tok _, rfl, q2⟩
/-- a def that may be called as a value -/
structure Callable (X : Cx) (f : Addr) (sp : Sp) : Prop where
  ok : ∃ (k : Nat) (fd : FuncData) (ps : List Str), FnOk X.prog X.w X.K X.mg X.base CX0 k f fd ps sp ∧ Room k X.A ∧ Binds X.K fd ps []
def tCallV (X : Cx) (tf : TE) (t : TA) : TE := fun σ H Q => tf σ H fun x H1 => ∃ f sp, x = .ref f ∧ PySem.W.keepIn X.K (.ref f) = true ∧ Callable X f sp ∧ t σ H1 fun vs H2 => sp vs H2 Q E0
theorem pe_callV {func e : Expr} {es : List Expr} {tf : TE} {t : TA} (hf : PE X func tf) (ha : PA X (e :: es) t)
    (hc : eval (.Call func (e :: es) [] pos) X.env = (do callWith pos (← eval func X.env) [] (backTo pos (starEach (e :: es) X.env)) (backToKw pos (keywordEach [] X.env))) := by rfl)
    (he : starEach (e :: es) X.env = (false, eval e X.env) :: starEach es X.env := by rfl) (hpl : (backTo pos (starEach es X.env)).any (·.1) = false := by rfl) :
    PE X (.Call func (e :: es) [] pos) (tCallV X tf t) := by
  intro pins s σ H Q I h
  refine Call_ (thn (hf pins s σ H _ I h) fun u s1 ⟨x, H1, I1, rx, f, sp, ex, hk, ⟨k, fd, ps, F, hr, hb⟩, q1⟩ => ?_) hc
  subst ex
  obtain rfl : u = Value.ref f := rx
  refine PySem.W.callWith_K (h₀ := X.base) I.ok.mod.kin hk (thn (ha pos pins s1 σ H1 _ I1 q1) fun us s2 ⟨vs, H2, I2, r, q⟩ => ⟨I2.kIn, ?_⟩) he hpl
  exact run_fn (dvs := []) (ds := []) F hr hb .nil pass0 I2 r (by rw [List.append_nil]; exact q)
end
end Ak

set_option Elab.async false
set_option linter.all false
set_option maxRecDepth 100000
set_option maxHeartbeats 2000000
namespace Ak
open PySem PySem.Spec PyProof.Rows L2
/-! ### the text by places -/
def top (i : Nat) : Stmt := PySem.Challenge.pw_albumkinds_s01_answers.main.body.getD i (.Pass ⟨0, 0, 0, 0⟩)
abbrev sGcd : Stmt := top 14
abbrev sLow : Stmt := top 15
abbrev sLess : Stmt := top 16
abbrev sBelow : Stmt := top 17
abbrev sTold : Stmt := top 18
abbrev sHad : Stmt := top 19
abbrev sLacks : Stmt := top 20
abbrev sWith : Stmt := top 21
section
variable {P : Program} {w : World} {K : PySem.W.Frag} {mg : Str → Option Value} {base : Heap}
/-- a def of the text that others call by its name -/
def Df (P : Program) (w : World) (K : PySem.W.Frag) (mg : Str → Option Value) (base : Heap) (x : Str) (k : Nat) (ps : List Str) (sp : Sp) : Prop :=
  ∃ f fd, FnOk P w K mg base CX0 k f fd ps sp ∧ mg x = some (.ref f) ∧ PySem.W.keepIn K (.ref f) = true ∧ Binds K fd ps []
theorem pe_df {X : Cx} {x : Str} {k : Nat} {ps : List Str} {sp : Sp} {p pos : Pos} {e : Expr} {es : List Expr} {t : TA} (D : Df X.prog X.w X.K X.mg X.base x k ps sp) (hr : Room k X.A) (hg : Gl X x) (ha : PA X (e :: es) t)
    (hdb : (x == ("__debug__" : Str)) = false := by decide) (he : starEach (e :: es) X.env = (false, eval e X.env) :: starEach es X.env := by rfl) (hpl : (backTo pos (starEach es X.env)).any (·.1) = false := by rfl) :
    PE X (.Call (.Name x p) (e :: es) [] pos) (tCall sp [] E0 t) := by
  obtain ⟨f, fd, F, hm, hk, hb⟩ := D
  exact pe_call F hr hg hm hk hb .nil pass0 ha hdb he hpl
theorem same_refl (H : Hp) : Same H H := fun _ _ h => h
theorem same_new {H H1 : Hp} {p : Addr} {o : HO} (s : Same H H1) (h : H1 p = Option.none) : Same H (upd H1 p o) := fun b u e => by
  rw [upd_ne (ne_of_none (s b u e) h)]
  exact s b u e
/-! ### common_measure -/
def spGcd : Sp := fun vs H Q _ => ∃ (a b : Nat), vs = [.int a, .int b] ∧ Q (.int (Nat.gcd a b : Nat)) H
theorem scGcd : FnScope ["first", "second", "rest"] ["first", "second"] (defScope sGcd) := ⟨rfl, rfl, rfl, by decide +kernel, rfl, by decide +kernel, by decide +kernel⟩
theorem ok_gcd {f : Addr} {fd : FuncData} (F : Fun K "common_measure" "common_measure" sGcd f fd) : FnOk P w K mg base CX0 1 f fd ["first", "second"] spGcd := by
  refine F.ok scGcd (fun vs H Q E h => ?_) (fun cdv A outer s H vs Q E hr h => ?_)
  · obtain ⟨a, b, rfl, _⟩ := h
    rfl
  · obtain ⟨a, b, rfl, k⟩ := h
    refine ⟨_, pss_cons (ps_while PassesOwn.never (pt_cmpR op_ne (pv 1) pe_int (nomark _))
      (pss_cons (ps_set (i := 2) scGcd.nd rfl (Or.inl rfl) (pe_op op_mod (pv 0) (pv 1)))
      (pss_cons (ps_set (i := 0) scGcd.nd rfl (Or.inl rfl) (pv 1))
      (pss_one (ps_set (i := 1) scGcd.nd rfl (Or.inl rfl) (pv 2))))))
      (pss_one (ps_ret (pv 0))), ?_⟩
    refine while_by (fun σ H' => ∃ (x y : Nat) (v : Option V), σ = [some (.int x), some (.int y), v] ∧ Nat.gcd x y = Nat.gcd a b ∧ H' = H)
      (fun σ _ => match σ with | [_, some (.int y), _] => y.toNat | _ => 0) ⟨a, b, none, rfl, rfl, rfl⟩ ?_ ?_
    · rintro σ H' ⟨x, y, v, rfl, hg, rfl⟩
      refine ⟨_, rfl, rfl, _, rfl, ?_⟩
      have e : decide (V.int (y : Int) = V.int 0) = ((y : Int) == 0) := dec_int
      rw [e]
      by_cases hy : y = 0
      · subst hy
        refine iteF ⟨_, rfl, ?_⟩
        have : x = Nat.gcd a b := by rw [← hg, Nat.gcd_zero_right]
        rw [this]
        exact k
      · have e2 : ((y : Int) == 0) = false := by simp; omega
        rw [e2]
        refine iteT ⟨_, rfl, _, rfl, _, _, rfl, rfl, (by show (0 : Int) < (y : Int); omega), _, rfl, _, rfl, ?_⟩
        refine ⟨⟨y, x % y, _, rfl, ?_, rfl⟩, ?_⟩
        · rw [← hg, Nat.gcd_comm x y, Nat.gcd_rec y x, Nat.gcd_comm]
        · show ((x : Int) % (y : Int)).toNat < ((y : Int)).toNat
          have : x % y < y := Nat.mod_lt _ (by omega)
          omega
    · rintro σ H' Q1 Q2 hq ⟨v, e1, c, x2, y, hy⟩
      exact ⟨v, e1, c, x2, y, hq _ _ hy⟩
/-! ### lowest -/
/-- a fraction, as the program's tuple -/
def fr (q : Rat) : List V := [.int q.num, .int (q.den : Int)]
theorem low_num {a b : Nat} (hb : 0 < b) : ((a : Int) / ((Nat.gcd a b : Nat) : Int)) = ((a : Rat) / (b : Rat)).num ∧ ((b : Int) / ((Nat.gcd a b : Nat) : Int)) = (((a : Rat) / (b : Rat)).den : Int) := by
  obtain ⟨h1, h2⟩ := over_red (a := a) hb
  obtain ⟨h3, h4⟩ := val_num h1
  rw [← h2, h3, h4]
  have hg : Int.gcd (a : Int) (b : Int) = Nat.gcd a b := rfl
  have h0 : Nat.gcd a b ≠ 0 := Nat.ne_of_gt (Nat.gcd_pos_of_pos_right _ hb)
  have e : Kp292.over a b = ⟨(a : Int) / ((Nat.gcd a b : Nat) : Int), b / Nat.gcd a b⟩ := by
    unfold Kp292.over Kp292.low
    show (if Int.gcd (a : Int) (b : Int) = 0 then _ else _) = _
    rw [hg, if_neg h0]
  rw [e]
  exact ⟨rfl, by push_cast; rfl⟩
def spLow : Sp := fun vs H Q _ => ∃ (a b : Nat), vs = [.int a, .int b] ∧ 0 < b ∧ b.log2 < 9000 ∧ ∀ (H' : Hp) (p : Addr), Same H H' → H' p = some (.tup (fr ((a : Rat) / (b : Rat)))) → Q (.ref p) H'
theorem scLow : FnScope ["above", "below", "common"] ["above", "below"] (defScope sLow) := ⟨rfl, rfl, rfl, by decide +kernel, rfl, by decide +kernel, by decide +kernel⟩
theorem log2_mono {a b : Nat} (h0 : a ≠ 0) (h : a ≤ b) {n : Nat} (hb : b.log2 < n) : a.log2 < n := by
  have hb0 : b ≠ 0 := by omega
  exact (Nat.log2_lt h0).mpr (Nat.lt_of_le_of_lt h ((Nat.log2_lt hb0).mp hb))
theorem ok_low {f : Addr} {fd : FuncData} (F : Fun K "lowest" "lowest" sLow f fd) (G : Df P w K mg base "common_measure" 1 ["first", "second"] spGcd) : FnOk P w K mg base CX0 2 f fd ["above", "below"] spLow := by
  refine F.ok scLow (fun vs H Q E h => ?_) (fun cdv A outer s H vs Q E hr h => ?_)
  · obtain ⟨a, b, rfl, _⟩ := h
    rfl
  · obtain ⟨a, b, rfl, hb, hl, k⟩ := h
    refine ⟨_, pss_cons (ps_set (i := 2) scLow.nd rfl (Or.inl rfl) (pe_df G hr rfl (pa_cons (pv 0) (pa_cons (pv 1) pa_nil))))
      (pss_one (ps_ret (pe_tup (pa_cons (pe_op op_fdivB (pv 0) (pv 2)) (pa_cons (pe_op op_fdivB (pv 1) (pv 2)) pa_nil))))), ?_⟩
    have h0 : 0 < Nat.gcd a b := Nat.gcd_pos_of_pos_right _ hb
    have hc : (0 : Int) < ((Nat.gcd a b : Nat) : Int) ∧ (((Nat.gcd a b : Nat) : Int)).natAbs.log2 < 9000 := by
      refine ⟨by omega, ?_⟩
      rw [Int.natAbs_natCast]
      exact log2_mono (by omega) (Nat.le_of_dvd hb (Nat.gcd_dvd_right _ _)) hl
    refine ⟨_, rfl, _, rfl, a, b, rfl, _, rfl, _, rfl, _, _, rfl, rfl, hc, _, rfl, _, rfl, _, _, rfl, rfl, hc, (by show 2 ≤ sizeLine; decide), fun t ht => ?_⟩
    obtain ⟨e1, e2⟩ := low_num (a := a) hb
    refine k _ t (same_new (same_refl H) ht) ?_
    rw [upd_same]
    show some (HO.tup [V.int ((a : Int) / ((Nat.gcd a b : Nat) : Int)), V.int ((b : Int) / ((Nat.gcd a b : Nat) : Int))]) = _
    rw [e1, e2]
    rfl
/-! ### told_fraction -/
def spTold (K : PySem.W.Frag) : Sp := fun vs H Q _ => ∃ (t : Addr) (x y : V), vs = [.ref t] ∧ SqT K H t [x, y] ∧ ∀ (H' : Hp) (p : Addr), Same H H' → H p = none → H' p = some (.lst [.int 0, x, y]) → Q (.ref p) H'
theorem scTold : FnScope ["fraction"] ["fraction"] (defScope sTold) := ⟨rfl, rfl, rfl, by decide +kernel, rfl, by decide +kernel, by decide +kernel⟩
theorem ok_told {f : Addr} {fd : FuncData} (F : Fun K "told_fraction" "told_fraction" sTold f fd) : FnOk P w K mg base CX0 1 f fd ["fraction"] (spTold K) := by
  refine F.ok scTold (fun vs H Q E h => ?_) (fun cdv A outer s H vs Q E hr h => ?_)
  · obtain ⟨t, x, y, rfl, _⟩ := h
    rfl
  · obtain ⟨t, x, y, rfl, ht, k⟩ := h
    refine ⟨_, pss_one (ps_ret (pe_lst (pa_cons pe_int (pa_cons (pe_ix ix_tup (pv 0) pe_int (fun _ _ => rfl)) (pa_cons (pe_ix ix_tup (pv 0) pe_int (fun _ _ => rfl)) pa_nil))))), ?_⟩
    refine ⟨_, rfl, t, _, _, _, rfl, rfl, ht, rfl, _, rfl, t, _, _, _, rfl, rfl, ht, rfl, (by show 3 ≤ sizeLine; decide), fun p hp => ?_⟩
    exact k _ p (same_new (same_refl H) hp) hp upd_same
/-! ### is_had -/
theorem and_bit (h i : Nat) : Builtin.bitAnd (h : Int) (1 * 2 ^ i) = ((h &&& 2 ^ i : Nat) : Int) := by
  rw [Int.one_mul]
  have e : (2 : Int) ^ i = ((2 ^ i : Nat) : Int) := by push_cast; rfl
  rw [e]
  rfl
theorem or_nat (x y : Nat) : Builtin.bitOr (x : Int) (y : Int) = ((x ||| y : Nat) : Int) := by
  have e1 : decide (0 ≤ Builtin.bitNot (x : Int)) = false := by
    unfold Builtin.bitNot
    simp only [decide_eq_false_iff_not]; omega
  have e2 : decide (0 ≤ Builtin.bitNot (y : Int)) = false := by
    unfold Builtin.bitNot
    simp only [decide_eq_false_iff_not]; omega
  have e3 : ∀ z : Int, Builtin.bitNot (Builtin.bitNot z) = z := fun z => by unfold Builtin.bitNot; omega
  unfold Builtin.bitOr Builtin.bitAnd
  rw [e1, e2]
  show Builtin.bitNot (Builtin.bitNot ((((Builtin.bitNot (Builtin.bitNot (x : Int))).toNat ||| (Builtin.bitNot (Builtin.bitNot (y : Int))).toNat : Nat)) : Int)) = _
  rw [e3, e3, e3]
  rfl
theorem or_bits (h i : Nat) : Builtin.bitOr (h : Int) (1 * 2 ^ i) = ((h ||| 2 ^ i : Nat) : Int) := by
  rw [Int.one_mul]
  have e : (2 : Int) ^ i = ((2 ^ i : Nat) : Int) := by push_cast; rfl
  rw [e, or_nat]
theorem and_zero (h i : Nat) : ((h &&& 2 ^ i) = 0) ↔ h.testBit i = false := by
  constructor
  · intro e
    have : (h &&& 2 ^ i).testBit i = false := by rw [e]; simp
    rw [Nat.testBit_and, Nat.testBit_two_pow] at this
    simpa using this
  · intro e
    apply Nat.eq_of_testBit_eq
    intro j
    rw [Nat.testBit_and, Nat.testBit_two_pow, Nat.zero_testBit]
    by_cases hj : i = j
    · subst hj; simp [e]
    · simp [hj]
def spHad : Sp := fun vs H Q _ => ∃ (h i : Nat), vs = [.int h, .int i] ∧ i ≤ 1000 ∧ Q (.bl (h.testBit i)) H
theorem scHad : FnScope ["had", "kind"] ["had", "kind"] (defScope sHad) := ⟨rfl, rfl, rfl, by decide +kernel, rfl, by decide +kernel, by decide +kernel⟩
theorem ok_had {f : Addr} {fd : FuncData} (F : Fun K "is_had" "is_had" sHad f fd) : FnOk P w K mg base CX0 1 f fd ["had", "kind"] spHad := by
  refine F.ok scHad (fun vs H Q E h => ?_) (fun cdv A outer s H vs Q E hr h => ?_)
  · obtain ⟨a, b, rfl, _⟩ := h
    rfl
  · obtain ⟨h, i, rfl, hi, k⟩ := h
    refine ⟨_, pss_one (ps_ret (pe_cmpR op_ne (pe_op op_and (pv 0) (pe_op op_shl pe_int (pv 1))) pe_int (nomark _))), ?_⟩
    refine ⟨_, rfl, _, rfl, _, _, rfl, rfl, ⟨by omega, by omega, by decide⟩, _, _, rfl, rfl, rfl, ?_⟩
    show Q (V.bl (!decide (V.int (Builtin.bitAnd (h : Int) (1 * 2 ^ ((i : Int)).toNat)) = V.int 0))) H
    rw [Int.toNat_natCast, and_bit, dec_int]
    have e : (!(((h &&& 2 ^ i : Nat) : Int) == 0)) = h.testBit i := by
      cases hb : h.testBit i with
      | false =>
        rw [(and_zero h i).mpr hb]
        rfl
      | true =>
        have : (h &&& 2 ^ i) ≠ 0 := fun q => by rw [(and_zero h i).mp q] at hb; cases hb
        have : ((((h &&& 2 ^ i : Nat) : Int)) == 0) = false := by simp; omega
        rw [this]
        rfl
    rw [e]
    exact k
/-! ### with_kind -/
theorem shl_one (n : Nat) : (1 : Int) * 2 ^ ((n : Int)).toNat = ((2 ^ n : Nat) : Int) := by
  rw [Int.toNat_natCast, Int.one_mul]; push_cast; rfl
def spWith : Sp := fun vs H Q _ => ∃ (h i : Nat), vs = [.int h, .int i] ∧ i ≤ 1000 ∧ Q (.int ((h + 2 ^ i : Nat) : Int)) H
theorem scWith : FnScope ["had", "kind"] ["had", "kind"] (defScope sWith) := ⟨rfl, rfl, rfl, by decide +kernel, rfl, by decide +kernel, by decide +kernel⟩
theorem ok_with {f : Addr} {fd : FuncData} (F : Fun K "with_kind" "with_kind" sWith f fd) : FnOk P w K mg base CX0 1 f fd ["had", "kind"] spWith := by
  refine F.ok scWith (fun vs H Q E h => ?_) (fun cdv A outer s H vs Q E hr h => ?_)
  · obtain ⟨a, b, rfl, _⟩ := h
    rfl
  · obtain ⟨h, i, rfl, hi, k⟩ := h
    refine ⟨_, pss_one (ps_ret (pe_op op_add (pv 0) (pe_op op_shl pe_int (pv 1)))), ?_⟩
    refine ⟨_, rfl, _, rfl, _, _, rfl, rfl, ⟨by omega, by omega, by decide⟩, _, _, rfl, rfl, ?_⟩
    show Q (V.int ((h : Int) + 1 * 2 ^ ((i : Int)).toNat)) H
    rw [shl_one, ← Int.natCast_add]
    exact k
end
end Ak

set_option linter.all false
namespace Ak
open Kp292
theorem lackW_snoc : ∀ (l : List Nat) (w h : Nat), lackW (l ++ [w]) h = lackW l h ++ (if h.testBit l.length then [] else [w])
  | [], w, h => by simp [lackW]
  | a :: l, w, h => by
    simp only [List.cons_append, lackW, List.length_cons]
    rw [lackW_snoc l w (h / 2), Nat.testBit_div_two]
    split <;> simp
theorem lack_bit : ∀ (l : List Nat) (h i : Nat), i < l.length → h.testBit i = false → (lackW l (h ||| 2 ^ i)).length + 1 = (lackW l h).length
  | [], h, i, hi, _ => by simp at hi
  | a :: l, h, 0, hi, hb => by
    simp only [lackW, Nat.pow_zero, or_one_even, or_one_div, if_true, hb, Bool.false_eq_true, if_false, List.length_cons]
  | a :: l, h, i + 1, hi, hb => by
    have ih := lack_bit l (h / 2) i (by simpa using hi) (by rw [Nat.testBit_div_two]; exact hb)
    simp only [lackW, or_pow_succ_zero, or_pow_succ_div]
    split
    · exact ih
    · simp only [List.length_cons]; omega
theorem lack_len : ∀ (l : List Nat) (h : Nat), (lackW l h).length ≤ l.length
  | [], h => Nat.le_refl _
  | a :: l, h => by
    have := lack_len l (h / 2)
    simp only [lackW]
    split <;> simp <;> omega
theorem sm_len : ∀ {l : List Nat}, (∀ w ∈ l, 0 < w) → l.length ≤ sm l
  | [], _ => Nat.le_refl _
  | a :: l, h => by
    have := sm_len (l := l) (fun x hx => h x (List.mem_cons_of_mem _ hx))
    have := h a (List.mem_cons_self ..)
    simp only [sm, List.length_cons]; omega
theorem Mq_bounds {l : List Nat} (o : Ok l) : ∀ (k h : Nat), (lackW l h).length = k → 0 ≤ Mq l h ∧ Mq l h ≤ 120 * (k : Rat)
  | 0, h, e => by
    rw [Mq_full (List.length_eq_zero_iff.mp e)]
    constructor
    · exact Rat.le_refl
    · simp
  | k + 1, h, e => by
    have hL : lackW l h ≠ [] := by intro z; rw [z] at e; simp at e
    have en := Mq_next o.pos h hL
    have ih : ∀ i, i < l.length → h.testBit i = false → 0 ≤ Mq l (h ||| 2 ^ i) ∧ Mq l (h ||| 2 ^ i) ≤ 120 * (k : Rat) := fun i hi hb =>
      Mq_bounds o k (h ||| 2 ^ i) (by have := lack_bit l h i hi hb; omega)
    have k0 : (0 : Rat) ≤ (k : Rat) := by exact_mod_cast Nat.zero_le k
    have h1 : dsum l (fun i => if h.testBit i then 0 else Mq l (h ||| 2 ^ i)) ≤ dsum l (fun i => (120 * (k : Rat)) * (if h.testBit i then 0 else 1)) := by
      refine dsum_le _ _ _ fun i hi => ?_
      by_cases hb : h.testBit i = true
      · simp only [hb, if_true]; grind
      · have := (ih i hi (by simpa using hb)).2
        simp only [hb, if_false]; grind
    have h2 : dsum l (fun _ => 0) ≤ dsum l (fun i => if h.testBit i then 0 else Mq l (h ||| 2 ^ i)) := by
      refine dsum_le _ _ _ fun i hi => ?_
      by_cases hb : h.testBit i = true
      · simp only [hb, if_true]; exact Rat.le_refl
      · have := (ih i hi (by simpa using hb)).1
        simp only [hb, if_false]; exact this
    rw [dsum_mul, dsum_lack] at h1
    rw [dsum_const] at h2
    have hS : (sm l : Rat) ≤ 120 := by exact_mod_cast o.sm120
    have hS0 : (0 : Rat) ≤ (sm l : Rat) := by exact_mod_cast Nat.zero_le _
    have hW : (1 : Rat) ≤ (sm (lackW l h) : Rat) := by
      have := sm_len (lack_pos (h := h) o.pos)
      have : 1 ≤ sm (lackW l h) := by omega
      exact_mod_cast this
    have hW0 : (0 : Rat) < (sm (lackW l h) : Rat) := by grind
    constructor
    · refine Rat.le_of_mul_le_mul_left ?_ hW0
      rw [en]; grind
    · refine Rat.le_of_mul_le_mul_left ?_ hW0
      rw [en]
      push_cast
      have h3 : (120 : Rat) * 1 ≤ 120 * (sm (lackW l h) : Rat) := Rat.mul_le_mul_of_nonneg_left hW (by grind)
      grind
theorem num_eq (q : Rat) : ((q.num : Int) : Rat) = q * ((q.den : Nat) : Rat) := by
  have e : mkRat q.num q.den = q := Rat.mkRat_self q
  rw [Rat.mkRat_eq_div] at e
  have hd : ((q.den : Nat) : Rat) ≠ 0 := by
    intro z
    have : q.den = 0 := by exact_mod_cast z
    exact q.den_nz this
  have := Rat.div_mul_cancel (a := ((q.num : Int) : Rat)) hd
  rw [e] at this
  exact this.symm
theorem int_le_720 (z : Int) (d : Nat) (h : (z : Rat) ≤ 720 * (d : Rat)) : z ≤ 720 * (d : Int) := by
  have e : ((720 * (d : Int) : Int) : Rat) = 720 * (d : Rat) := by
    rw [Rat.intCast_mul, Rat.intCast_natCast]
    rfl
  rw [← e] at h
  exact Rat.intCast_le_intCast.mp h
/-- the number above, as a natural number -/
theorem q_num {q : Rat} (b1 : 0 ≤ q) (b3 : q ≤ 720) : ∃ n : Nat, q.num = (n : Int) ∧ (n : Rat) = q * (q.den : Rat) ∧ n ≤ 720 * q.den := by
  have hn : 0 ≤ q.num := Rat.num_nonneg.mpr b1
  have e := num_eq q
  refine ⟨q.num.toNat, by omega, ?_, ?_⟩
  · rw [← e]
    have : ((q.num.toNat : Nat) : Int) = q.num := by omega
    exact_mod_cast this
  · have d0 : (0 : Rat) ≤ (q.den : Rat) := by exact_mod_cast Nat.zero_le _
    have : (q.num : Rat) ≤ 720 * (q.den : Rat) := by
      rw [e]
      exact Rat.mul_le_mul_of_nonneg_right b3 d0
    have h4 := int_le_720 _ _ this
    omega
theorem Mq_720 {l : List Nat} (o : Ok l) (h : Nat) : 0 ≤ Mq l h ∧ Mq l h ≤ 720 := by
  obtain ⟨b1, b2⟩ := Mq_bounds o _ h rfl
  have hk : (lackW l h).length ≤ 6 := Nat.le_trans (lack_len l h) o.len
  have hk' : ((lackW l h).length : Rat) ≤ 6 := by exact_mod_cast hk
  exact ⟨b1, by grind⟩
def bnd : Nat → Nat
  | 0 => 1
  | k + 1 => 120 * bnd k ^ (k + 1)
theorem bnd_pos : ∀ k, 0 < bnd k
  | 0 => by decide
  | k + 1 => Nat.mul_pos (by decide) (Nat.pow_pos (bnd_pos k))
theorem bnd_log : ∀ k, k < 7 → (bnd k).log2 < 9000 := by decide +kernel
theorem den_le {a b : Nat} (hb : 0 < b) : ((a : Rat) / (b : Rat)).den ≤ b := by
  obtain ⟨h1, h2⟩ := over_red (a := a) hb
  obtain ⟨h3, h4⟩ := val_num h1
  rw [← h2, h4]
  have h0 : Nat.gcd a b ≠ 0 := Nat.ne_of_gt (Nat.gcd_pos_of_pos_right _ hb)
  have e : over a b = ⟨(a : Int) / ((Nat.gcd a b : Nat) : Int), b / Nat.gcd a b⟩ := by
    unfold over low
    show (if Int.gcd (a : Int) (b : Int) = 0 then _ else _) = _
    have hg : Int.gcd (a : Int) (b : Int) = Nat.gcd a b := rfl
    rw [hg, if_neg h0]
  rw [e]
  exact Nat.div_le_self _ _
theorem add_bit : ∀ {i h : Nat}, h.testBit i = false → h + 2 ^ i = h ||| 2 ^ i
  | 0, h, b => by
    have e1 := or_one_div (h := h)
    have e2 := or_one_even (h := h)
    rw [Nat.testBit_zero] at b e2
    have b' : h % 2 = 0 := by simpa using b
    have e2' : (h ||| 1) % 2 = 1 := by simpa using e2
    rw [Nat.pow_zero]
    omega
  | i + 1, h, b => by
    have ih := add_bit (i := i) (h := h / 2) (by rw [Nat.testBit_div_two]; exact b)
    have e1 := or_pow_succ_div (h := h) (j := i)
    have e2 := or_pow_succ_zero (h := h) (j := i)
    rw [← ih] at e1
    rw [Nat.testBit_zero, Nat.testBit_zero] at e2
    have e3 : ((h ||| 2 ^ (i + 1)) % 2 = 1) ↔ (h % 2 = 1) := by
      constructor
      · intro q; simpa [q] using e2.symm
      · intro q; simpa [q] using e2
    rw [Nat.pow_succ] at *
    omega
end Ak

set_option Elab.async false
set_option linter.all false
set_option maxRecDepth 100000
set_option maxHeartbeats 2000000
namespace Ak
open PySem PySem.Spec PyProof.Rows L2
abbrev sBy : Stmt := top 22
abbrev sTable : Stmt := top 23
abbrev sLastT : Stmt := top 24
/-- a list of natural numbers, as the program's -/
abbrev zs (l : List Nat) : List Int := l.map fun n : Nat => (n : Int)
abbrev vz (l : List Nat) : List V := (zs l).map V.int
theorem vz_len (l : List Nat) : (vz l).length = l.length := by simp
theorem vz_at {l : List Nat} {i : Nat} {x : V} (h : (vz l)[i]? = some x) : ∃ n : Nat, l[i]? = some n ∧ x = .int (n : Int) := by
  rw [List.getElem?_map, List.getElem?_map] at h
  cases e : l[i]? with
  | none => rw [e] at h; cases h
  | some n => rw [e] at h; exact ⟨n, rfl, (Option.some.inj h).symm⟩
theorem vz_get {l : List Nat} {i n : Nat} (h : l[i]? = some n) : (vz l)[i]? = some (.int (n : Int)) := by
  rw [List.getElem?_map, List.getElem?_map, h]
  rfl
theorem zs_sum : ∀ (l : List Nat), (zs l).sum = (sm l : Int)
  | [] => rfl
  | a :: l => by
    have := zs_sum l
    simp only [zs, List.map_cons, List.sum_cons, sm] at this ⊢
    omega
theorem take_one {l : List Nat} {i n : Nat} (h : l[i]? = some n) : l.take (i + 1) = l.take i ++ [n] := by
  rw [List.take_add_one, h]
  rfl
theorem lt_of_at {l : List Nat} {i n : Nat} (h : l[i]? = some n) : i < l.length := (List.getElem?_eq_some_iff.mp h).1
theorem take_len {l : List Nat} {i n : Nat} (h : l[i]? = some n) : (l.take i).length = i := by
  rw [List.length_take]
  have := lt_of_at h
  omega
theorem nat_bits {x n : Nat} (h : x < 2 ^ n) (hn : n ≤ 60000000) : Builtin.Int.intBits (x : Int) ≤ 60000000 :=
  Nat.le_trans (bits_le (i := (x : Int)) (n := n) (by rw [Int.natAbs_natCast]; exact h)) hn
theorem pow_mul_lt {x y a b : Nat} (h : x < 2 ^ a) (h' : y < 2 ^ b) : x * y < 2 ^ (a + b) := by
  rw [Nat.pow_add]
  exact Nat.mul_lt_mul'' h h'
theorem pow_up {x a b : Nat} (h : x < 2 ^ a) (hab : a ≤ b) : x < 2 ^ b := Nat.lt_of_lt_of_le h (Nat.pow_le_pow_right (by decide) hab)
theorem pow_add_lt {x y a : Nat} (h : x < 2 ^ a) (h' : y < 2 ^ a) : x + y < 2 ^ (a + 1) := by
  rw [Nat.pow_succ]
  omega
theorem same_seqT {K : PySem.W.Frag} {H H' : Hp} {a : Addr} {xs : List V} (e : Same H H') (h : SqT K H a xs) : SqT K H' a xs := by
  rcases h with (h | ⟨o, h⟩) | h
  · exact .inl (.inl (e _ _ h))
  · exact .inl (.inr ⟨o, e _ _ h⟩)
  · exact .inr h
/-- the names of Python's own that the text leaves as they are -/
structure Own (mg : Str → Option Value) : Prop where
  sum : mg "sum" = none
  len : mg "len" = none
  range : mg "range" = none
  enumerate : mg "enumerate" = none
section
variable {P : Program} {w : World} {K : PySem.W.Frag} {mg : Str → Option Value} {base : Heap}
/-- the value that a table holds at a place -/
def AtV (K : PySem.W.Frag) (G : Nat → Rat) (l : List Nat) (ms : List V) (H : Hp) (m : Nat) : Prop := ∃ t, ms[m]? = some (.ref t) ∧ SqT K H t (fr (G m)) ∧ (G m).den ≤ bnd (lackW l m).length ∧ 0 ≤ G m ∧ G m ≤ 720
theorem AtV.same {K : PySem.W.Frag} {G : Nat → Rat} {l : List Nat} {ms : List V} {H H' : Hp} {m : Nat} (e : Same H H') (h : AtV K G l ms H m) : AtV K G l ms H' m := by
  obtain ⟨t, h1, h2, h3⟩ := h
  exact ⟨t, h1, same_seqT e h2, h3⟩
/-- the lacking kinds' values, each as heavy as it is, together with a start -/
def Nx (G : Nat → Rat) (l : List Nat) (h S : Nat) : Rat := (S : Rat) + dsum l (fun i => if h.testBit i then 0 else G (h ||| 2 ^ i))
def spBy (K : PySem.W.Frag) : Sp := fun vs H Q _ => ∃ (a m : Addr) (h S : Nat) (l : List Nat) (ms : List V) (G : Nat → Rat), vs = [.ref a, .int h, .ref m, .int S] ∧ SqL K H a (vz l) ∧ Ok l ∧ S ≤ 120 ∧ lackW l h ≠ [] ∧ SqL K H m ms ∧
  (∀ i, i < l.length → h.testBit i = false → AtV K G l ms H (h ||| 2 ^ i)) ∧ ∀ (H' : Hp) (p : Addr) (q : Rat), Same H H' → H' p = some (.tup (fr q)) → (sm (lackW l h) : Rat) * q = Nx G l h S → q.den ≤ bnd (lackW l h).length → Q (.ref p) H'
theorem scBy : FnScope ["weights", "had", "later", "start", "above", "below", "lacking_weight", "kind", "weight", "value"] ["weights", "had", "later", "start"] (defScope sBy) := ⟨rfl, rfl, rfl, by decide +kernel, rfl, by decide +kernel, by decide +kernel⟩
structure ByInv (G : Nat → Rat) (S : Nat) (l : List Nat) (h j A B W : Nat) : Prop where
  val : (A : Rat) = ((S : Rat) + dsum (l.take j) (fun i => if h.testBit i then 0 else G (h ||| 2 ^ i))) * (B : Rat)
  pos : 0 < B
  top : B ≤ bnd ((lackW l h).length - 1) ^ (lackW (l.take j) h).length
  sa : A < 2 ^ (100000 * (j + 1))
  sb : B < 2 ^ (100000 * (j + 1))
  wt : (W : Rat) = dsum (l.take j) (fun i => if h.testBit i then 0 else 1)
variable {G : Nat → Rat} {S : Nat}
theorem ByInv.start {l : List Nat} (hS : S ≤ 120) (h : Nat) : ByInv G S l h 0 S 1 0 := by
  refine ⟨?_, by decide, ?_, ?_, ?_, ?_⟩
  · simp [dsum]; grind
  · simp [lackW]
  · exact Nat.lt_of_le_of_lt hS (pow_up (a := 7) (by decide) (by decide))
  · exact pow_up (a := 1) (by decide) (by decide)
  · simp [dsum]
theorem ByInv.had {l : List Nat} {h j A B W x : Nat} (i : ByInv G S l h j A B W) (hx : l[j]? = some x) (hb : h.testBit j = true) : ByInv G S l h (j + 1) A B W := by
  have hj := take_len hx
  refine ⟨?_, i.pos, ?_, pow_up i.sa (by omega), pow_up i.sb (by omega), ?_⟩
  · rw [take_one hx, dsum_snoc, hj, if_pos hb, i.val]; grind
  · rw [take_one hx, lackW_snoc, hj, if_pos hb, List.append_nil]; exact i.top
  · rw [take_one hx, dsum_snoc, hj, if_pos hb, i.wt]; grind
theorem ByInv.lack {l : List Nat} {h j A B W x n d : Nat} (o : Ok l) (i : ByInv G S l h j A B W) (hx : l[j]? = some x) (hb : h.testBit j = false)
    (hn : (n : Rat) = G (h ||| 2 ^ j) * (d : Rat)) (hd : 0 < d) (hd2 : d ≤ bnd (lackW l (h ||| 2 ^ j)).length) (hd3 : d < 2 ^ 9000) (hn3 : n < 2 ^ 9010) :
    ByInv G S l h (j + 1) (A * d + x * n * B) (B * d) (W + x) := by
  have hj := take_len hx
  have hk := lack_bit l h j (lt_of_at hx) hb
  have hx20 : x < 2 ^ 5 := Nat.lt_of_le_of_lt (o.top x (List.mem_of_getElem? hx)) (by decide)
  have nb : ¬ h.testBit j = true := by simp [hb]
  refine ⟨?_, Nat.mul_pos i.pos hd, ?_, ?_, ?_, ?_⟩
  · rw [take_one hx, dsum_snoc, hj, if_neg nb]
    push_cast
    rw [hn, i.val]
    grind
  · rw [take_one hx, lackW_snoc, hj, if_neg nb, List.length_append]
    show B * d ≤ bnd ((lackW l h).length - 1) ^ ((lackW (l.take j) h).length + 1)
    rw [Nat.pow_succ]
    refine Nat.mul_le_mul i.top ?_
    have e : (lackW l h).length - 1 = (lackW l (h ||| 2 ^ j)).length := by omega
    rw [e]; exact hd2
  · have h1 := pow_up (pow_mul_lt i.sa hd3) (show 100000 * (j + 1) + 9000 ≤ 100000 * (j + 1) + 9020 by omega)
    have h2 := pow_up (pow_mul_lt (pow_mul_lt hx20 hn3) i.sb) (show 5 + 9010 + 100000 * (j + 1) ≤ 100000 * (j + 1) + 9020 by omega)
    exact pow_up (pow_add_lt h1 h2) (by omega)
  · exact pow_up (pow_mul_lt i.sb hd3) (by omega)
  · rw [take_one hx, dsum_snoc, hj, if_neg nb]
    push_cast
    rw [i.wt]; grind
theorem ByInv.done {l : List Nat} {h A B W : Nat} (o : Ok l) (i : ByInv G S l h l.length A B W) (hL : lackW l h ≠ []) :
    W = sm (lackW l h) ∧ 0 < B * W ∧ (sm (lackW l h) : Rat) * ((A : Rat) / ((B * W : Nat) : Rat)) = Nx G l h S ∧ B * W ≤ bnd (lackW l h).length := by
  have hw := i.wt
  rw [List.take_length, dsum_lack] at hw
  have eW : W = sm (lackW l h) := by exact_mod_cast hw
  have hp := sm_pos (lack_pos (h := h) o.pos) hL
  have hv := i.val
  rw [List.take_length] at hv
  have hB : (B : Rat) ≠ 0 := by
    intro z
    have : B = 0 := by exact_mod_cast z
    have := i.pos
    omega
  have hW : (W : Rat) ≠ 0 := by
    intro z
    have : W = 0 := by exact_mod_cast z
    omega
  refine ⟨eW, Nat.mul_pos i.pos (by omega), ?_, ?_⟩
  · push_cast
    rw [hv, ← eW]
    unfold Nx
    have e1 : (B : Rat) * (W : Rat) ≠ 0 := by
      intro z
      rcases Rat.mul_eq_zero.mp z with z | z
      · exact hB z
      · exact hW z
    generalize (S : Rat) + dsum l (fun i => if h.testBit i then 0 else G (h ||| 2 ^ i)) = N
    have e2 : N * (B : Rat) / ((B : Rat) * (W : Rat)) * ((B : Rat) * (W : Rat)) = N * (B : Rat) := Rat.div_mul_cancel e1
    have e3 : (B : Rat) * ((W : Rat) * (N * (B : Rat) / ((B : Rat) * (W : Rat))) - N) = 0 := by grind
    rcases Rat.mul_eq_zero.mp e3 with z | z
    · exact absurd z hB
    · grind
  · have ht := i.top
    rw [List.take_length] at ht
    obtain ⟨k, hk⟩ : ∃ k, (lackW l h).length = k + 1 := by
      cases e : lackW l h with
      | nil => exact absurd e hL
      | cons a r => exact ⟨r.length, rfl⟩
    rw [hk] at ht ⊢
    show B * W ≤ 120 * bnd k ^ (k + 1)
    rw [Nat.mul_comm B W]
    refine Nat.mul_le_mul ?_ ht
    rw [eW]
    exact Nat.le_trans (lack_le l h) o.sm120
theorem pow_of_log {x n : Nat} (h : x.log2 < n) : x < 2 ^ n := by
  rcases Nat.eq_zero_or_pos x with z | z
  · rw [z]; exact Nat.pow_pos (by decide)
  · exact (Nat.log2_lt (by omega)).mp h
theorem log_of_le {x b : Nat} (h0 : 0 < x) (h : x ≤ b) {n : Nat} (hb : b.log2 < n) : x.log2 < n := log2_mono (by omega) h hb
theorem ok_by {f : Addr} {fd : FuncData} (F : Fun K "by_next_new" "by_next_new" sBy f fd) (T : Own mg) (GH : Df P w K mg base "is_had" 1 ["had", "kind"] spHad) (GW : Df P w K mg base "with_kind" 1 ["had", "kind"] spWith) (GL : Df P w K mg base "lowest" 2 ["above", "below"] spLow) :
    FnOk P w K mg base CX0 3 f fd ["weights", "had", "later", "start"] (spBy K) := by
  refine F.ok scBy (fun vs H Q E h => ?_) (fun cdv A outer s H vs Q E hr h => ?_)
  · obtain ⟨a, m, h, S, l, ms, G, rfl, _⟩ := h
    rfl
  · obtain ⟨a, m, h, S, l, ms, G, rfl, ha, o, hS, hL, hm, hA, k⟩ := h
    have hr1 : Room 1 _ := hr.mono (by decide)
    refine ⟨_, pss_cons (ps_set (i := 4) scBy.nd rfl (Or.inl rfl) (pv 3))
      (pss_cons (ps_set (i := 5) scBy.nd rfl (Or.inl rfl) pe_int)
      (pss_cons (ps_set (i := 6) scBy.nd rfl (Or.inl rfl) pe_int)
      (pss_cons (ps_for PassesOwn.never rfl (pi_enum rfl T.enumerate (pa_cons (pv 0) pa_nil)) (pg_tup rfl (pgs_cons (pg_name (i := 7) scBy.nd rfl (Or.inl rfl)) (pgs_cons (pg_name (i := 8) scBy.nd rfl (Or.inl rfl)) pgs_nil)))
        (pss_one (ps_if (pt_not (pt_val (pe_df GH hr1 rfl (pa_cons (pv 1) (pa_cons (pv 7) pa_nil)))))
          (pss_cons (ps_set (i := 9) scBy.nd rfl (Or.inl rfl) (pe_ix ix_list (pv 2) (pe_df GW hr1 rfl (pa_cons (pv 1) (pa_cons (pv 7) pa_nil))) (fun _ _ => rfl)))
          (pss_cons (ps_set (i := 4) scBy.nd rfl (Or.inl rfl) (pe_op op_add (pe_op op_mulB (pv 4) (pe_ix ix_tup (pv 9) pe_int (fun _ _ => rfl))) (pe_op op_mulB (pe_op op_mulB (pv 8) (pe_ix ix_tup (pv 9) pe_int (fun _ _ => rfl))) (pv 5))))
          (pss_cons (ps_set (i := 5) scBy.nd rfl (Or.inl rfl) (pe_op op_mulB (pv 5) (pe_ix ix_tup (pv 9) pe_int (fun _ _ => rfl))))
          (pss_one (ps_aug (i := 6) scBy.nd rfl (Or.inl rfl) (pv 8) ip_add)))))
          pss_nil)))
      (pss_one (ps_ret (pe_df GL hr rfl (pa_cons (pv 4) (pa_cons (pe_op op_mulB (pv 5) (pv 6)) pa_nil)))))))), ?_⟩
    refine ⟨_, rfl, _, rfl, a, _, rfl, ha, for_enum (K := K) (a := a) (xs := vz l) (fun j σ H' => ∃ (A B W : Nat) (kv wv lt : Option V),
      σ = [some (.ref a), some (.int h), some (.ref m), some (.int S), some (.int A), some (.int B), some (.int W), kv, wv, lt] ∧ Same H H' ∧ ByInv G S l h j A B W) ?_ ?_ ?_ ?_⟩
    · exact ⟨S, 1, 0, none, none, none, rfl, same_refl H, ByInv.start hS h⟩
    · rintro j σ H' _ ⟨A, B, W, kv, wv, lt, rfl, sm, _⟩
      exact sm.seq ha
    · rintro j x σ H' t hx ⟨A, B, W, kv, wv, lt, rfl, sm, iv⟩ ht
      obtain ⟨n, hn, rfl⟩ := vz_at hx
      have sm' := same_new (o := .tup [.int (j : Nat), .int (n : Int)]) sm ht
      have hj : j < l.length := lt_of_at hn
      have hj6 : j < 6 := Nat.lt_of_lt_of_le hj o.len
      refine ⟨t, _, rfl, SqT.of upd_same, rfl, _, _, rfl, _, _, rfl, rfl, ?_⟩
      refine ⟨_, rfl, _, rfl, h, j, rfl, by omega, _, rfl, ?_⟩
      cases hb : h.testBit j with
      | true =>
        refine iteF ?_
        exact ⟨A, B, W, _, _, _, rfl, sm', iv.had hn hb⟩
      | false =>
        refine iteT ?_
        obtain ⟨t', ht1, ht2, ht3, hq0, hq1⟩ := hA j hj hb
        have ht2' := same_seqT sm' ht2
        obtain ⟨nn, e1, e2, e3⟩ := q_num hq0 hq1
        have hd0 : 0 < (G (h ||| 2 ^ j)).den := Nat.pos_of_ne_zero (G (h ||| 2 ^ j)).den_nz
        have hk6 : (lackW l (h ||| 2 ^ j)).length < 7 := Nat.lt_succ_of_le (Nat.le_trans (lack_len _ _) o.len)
        have hd3 : (G (h ||| 2 ^ j)).den < 2 ^ 9000 := pow_of_log (log_of_le hd0 ht3 (bnd_log _ hk6))
        have hfr : fr (G (h ||| 2 ^ j)) = [.int (nn : Int), .int ((G (h ||| 2 ^ j)).den : Int)] := by
          unfold fr
          rw [e1]
        rw [hfr] at ht2'
        generalize hd : (G (h ||| 2 ^ j)).den = d at hd0 hd3 ht2' e2 e3 ht3
        have hn3 : nn < 2 ^ 9010 := by
          refine Nat.lt_of_le_of_lt e3 ?_
          have := pow_mul_lt (x := 720) (a := 10) (by decide) hd3
          exact pow_up this (by decide)
        have hx20 : n < 2 ^ 5 := Nat.lt_of_le_of_lt (o.top n (List.mem_of_getElem? hn)) (by decide)
        have bA := nat_bits iv.sa (by omega)
        have bB := nat_bits iv.sb (by omega)
        have bd := nat_bits hd3 (by decide)
        have bn := nat_bits hn3 (by decide)
        have bx := nat_bits hx20 (by decide)
        have bxn : Builtin.Int.intBits ((n : Int) * (nn : Int)) ≤ 60000000 := by
          have := nat_bits (pow_mul_lt hx20 hn3) (by decide)
          rw [Int.natCast_mul] at this
          exact this
        refine ⟨_, rfl, _, rfl, _, rfl, h, j, rfl, by omega, m, ms, _, _, rfl, rfl, sm'.seq hm, (by
          rw [add_bit hb]
          exact atI_nat ht1), ?_⟩
        refine ⟨_, rfl, _, rfl, t', _, _, _, rfl, rfl, ht2', rfl, _, _, rfl, rfl, ⟨bA, bd⟩, _, rfl, _, rfl, t', _, _, _, rfl, rfl, ht2', rfl, _, _, rfl, rfl, ⟨bx, bn⟩, _, rfl, _, _, rfl, rfl, ⟨bxn, bB⟩, _, _, rfl, rfl, ?_⟩
        refine ⟨_, rfl, _, rfl, t', _, _, _, rfl, rfl, ht2', rfl, _, _, rfl, rfl, ⟨bB, bd⟩, ?_⟩
        refine ⟨_, rfl, _, rfl, _, _, rfl, rfl, ?_⟩
        refine ⟨A * d + n * nn * B, B * d, W + n, some (.int (j : Int)), some (.int (n : Int)), some (.ref t'), ?_, sm', iv.lack o hn hb e2 hd0 ht3 hd3 hn3⟩
        rw [Int.natCast_add, Int.natCast_add, Int.natCast_mul, Int.natCast_mul, Int.natCast_mul, Int.natCast_mul]
        rfl
    · rintro σ H' ⟨A, B, W, kv, wv, lt, rfl, sm, iv⟩
      rw [vz_len] at iv
      obtain ⟨eW, h0, hv, hB⟩ := iv.done o hL
      have hk6 : (lackW l h).length < 7 := Nat.lt_succ_of_le (Nat.le_trans (lack_len _ _) o.len)
      have hW : W < 2 ^ 7 := by
        rw [eW]
        exact Nat.lt_of_le_of_lt (Nat.le_trans (lack_le l h) o.sm120) (by decide)
      have hlen : l.length ≤ 6 := o.len
      refine ⟨_, rfl, _, rfl, _, rfl, _, _, rfl, rfl, ⟨nat_bits iv.sb (by omega), nat_bits hW (by decide)⟩, A, B * W, ?_, h0, log_of_le h0 hB (bnd_log _ hk6), fun H2 p s2 hp => ?_⟩
      · rw [Int.natCast_mul]
        rfl
      · exact k H2 p _ (sm.trans s2) hp hv (Nat.le_trans (den_le h0) hB)
end
end Ak

set_option Elab.async false
set_option linter.all false
set_option maxRecDepth 100000
set_option maxHeartbeats 2000000
namespace Ak
open PySem PySem.Spec PyProof.Rows L2
theorem lack_full : ∀ (l : List Nat), lackW l (2 ^ l.length - 1) = []
  | [] => rfl
  | a :: l => by
    have hp : 0 < 2 ^ l.length := Nat.pow_pos (by decide)
    have e : (2 ^ (l.length + 1) - 1) / 2 = 2 ^ l.length - 1 := by rw [Nat.pow_succ]; omega
    have b : (2 ^ (l.length + 1) - 1).testBit 0 = true := by rw [Nat.testBit_zero, Nat.pow_succ]; simp; omega
    simp only [lackW, List.length_cons, e, b, if_true]
    exact lack_full l
theorem full_of : ∀ (l : List Nat) (h : Nat), h < 2 ^ l.length → lackW l h = [] → h = 2 ^ l.length - 1
  | [], h, hl, _ => by simp at hl; simp [hl]
  | a :: l, h, hl, e => by
    simp only [lackW] at e
    split at e
    · rename_i b
      rw [List.length_cons, Nat.pow_succ] at hl ⊢
      have ih := full_of l (h / 2) (by omega) e
      rw [Nat.testBit_zero] at b
      have b' : h % 2 = 1 := by simpa using b
      have hp : 0 < 2 ^ l.length := Nat.pow_pos (by decide)
      omega
    · cases e
theorem lt_or {h i : Nat} (b : h.testBit i = false) : h < h ||| 2 ^ i := by
  have h1 : h ≤ h ||| 2 ^ i := Nat.left_le_or
  have h2 : h ≠ h ||| 2 ^ i := by
    intro e
    have : (h ||| 2 ^ i).testBit i = true := by rw [Nat.testBit_or, Nat.testBit_two_pow]; simp
    rw [← e, b] at this
    cases this
  omega
theorem or_lt {h i n : Nat} (hh : h < 2 ^ n) (hi : i < n) : h ||| 2 ^ i < 2 ^ n := Nat.or_lt_two_pow hh (Nat.pow_lt_pow_right (by decide) hi)
theorem sqT_upd {K : PySem.W.Frag} {H : Hp} {t m : Addr} {xs ys : List V} {o : HO} (h : SqT K H t xs) (hm : H m = some (.lst ys)) : SqT K (upd H m o) t xs := by
  rcases h with (h | ⟨ob, h⟩) | h
  · exact .inl (.inl (by rw [upd_ne (ne_of h hm (by intro z; cases z))]; exact h))
  · exact .inl (.inr ⟨ob, by rw [upd_ne (ne_of h hm (by intro z; cases z))]; exact h⟩)
  · exact .inr h
theorem sqT_new {K : PySem.W.Frag} {H : Hp} {t p : Addr} {xs : List V} {o : HO} (h : SqT K H t xs) (hp : H p = none) : SqT K (upd H p o) t xs := same_seqT (same_new (same_refl H) hp) h
theorem pow6 {l : List Nat} (o : Ok l) : 2 ^ l.length ≤ 64 := Nat.pow_le_pow_right (n := 2) (by decide) o.len
theorem same_upd {H H1 : Hp} {m : Addr} {o : HO} (s : Same H H1) (hm : H m = none) : Same H (upd H1 m o) := fun b u e => by
  rw [upd_ne (ne_of_none e hm)]
  exact s b u e
theorem same_free {H H' : Hp} (e : Same H H') {p : Addr} (h : H' p = none) : H p = none := L2.Same.free e h
/-- what the lacking weight times it is, it is -/
theorem next_one {l : List Nat} (o : Ok l) {h : Nat} (hL : lackW l h ≠ []) {q r : Rat} (e : (sm (lackW l h) : Rat) * q = (sm (lackW l h) : Rat) * r) : q = r := by
  have hp := sm_pos (lack_pos (h := h) o.pos) hL
  have hW : (sm (lackW l h) : Rat) ≠ 0 := by
    intro z
    have : sm (lackW l h) = 0 := by exact_mod_cast z
    omega
  have e3 : (sm (lackW l h) : Rat) * (q - r) = 0 := by grind
  rcases Rat.mul_eq_zero.mp e3 with z | z
  · exact absurd z hW
  · grind
section
variable {P : Program} {w : World} {K : PySem.W.Frag} {mg : Str → Option Value} {base : Heap}
def spTable (K : PySem.W.Frag) : Sp := fun vs H Q _ => ∃ (a : Addr) (l : List Nat), vs = [.ref a] ∧ SqL K H a (vz l) ∧ Ok l ∧
  ∀ (H' : Hp) (m : Addr) (ms : List V), Same H H' → H' m = some (.lst ms) → ms.length = 2 ^ l.length → (∀ j, j < 2 ^ l.length → AtV K (Mq l) l ms H' j) → Q (.ref m) H'
theorem scTable : FnScope ["weights", "everything", "means", "had"] ["weights"] (defScope sTable) := ⟨rfl, rfl, rfl, by decide +kernel, rfl, by decide +kernel, by decide +kernel⟩
theorem ok_table {f : Addr} {fd : FuncData} (F : Fun K "mean_table" "mean_table" sTable f fd) (T : Own mg) (GB : Df P w K mg base "by_next_new" 3 ["weights", "had", "later", "start"] (spBy K)) :
    FnOk P w K mg base CX0 4 f fd ["weights"] (spTable K) := by
  refine F.ok scTable (fun vs H Q E h => ?_) (fun cdv A outer s H vs Q E hr h => ?_)
  · obtain ⟨a, l, rfl, _⟩ := h
    rfl
  · obtain ⟨a, l, rfl, ha, o, k⟩ := h
    refine ⟨_, pss_cons (ps_set (i := 1) scTable.nd rfl (Or.inl rfl) (pe_op op_sub (pe_op op_shl pe_int (pe_callB call_len_seq (by rfl) T.len PySem.boot_len (pa_cons (pv 0) pa_nil))) pe_int))
      (pss_cons (ps_set (i := 2) scTable.nd rfl (Or.inl rfl) (pe_op op_rep (pe_lst (pa_cons (pe_tup (pa_cons pe_int (pa_cons pe_int pa_nil))) pa_nil)) (pe_op op_add (pv 1) pe_int)))
      (pss_cons (ps_for PassesOwn.never rfl (pi_range3 rfl T.range (pa_cons (pe_op op_sub (pv 1) pe_int) (pa_cons (pe_un un_neg pe_int) (pa_cons (pe_un un_neg pe_int) pa_nil)))) (pg_name (i := 3) scTable.nd rfl (Or.inl rfl))
        (pss_one (ps_asg (pe_df GB hr rfl (pa_cons (pv 0) (pa_cons (pv 3) (pa_cons (pv 2) (pa_cons (pe_callB (call_sum rfl) (by rfl) T.sum PyProof.Rows.boot_sum (pa_cons (pv 0) pa_nil)) pa_nil))))) (pg_sub (pv 2) (pv 3) set_list))))
      (pss_one (ps_ret (pv 2))))), ?_⟩
    have hN6 := pow6 o
    have hN0 : 0 < 2 ^ l.length := Nat.pow_pos (by decide)
    have hl6 := o.len
    refine ⟨_, rfl, a, _, rfl, .inl ha, _, _, rfl, rfl, ⟨by rw [vz_len]; omega, by rw [vz_len]; omega, by decide⟩, _, _, rfl, rfl, ?_⟩
    refine ⟨(by show 2 ≤ sizeLine; decide), fun t ht => ⟨(by show 1 ≤ sizeLine; decide), fun q hq => ?_⟩⟩
    refine ⟨_, rfl, _, _, rfl, rfl, q, _, _, rfl, rfl, upd_same, ?_⟩
    have ev : (1 : Int) * 2 ^ (((vz l).length : Nat) : Int).toNat - 1 + 1 = ((2 ^ l.length : Nat) : Int) := by rw [vz_len, shl_one]; omega
    rw [show (fun i j => V.int (i - j)) ((fun i j => (i * 2 ^ j.toNat : Int)) 1 (((vz l).length : Nat) : Int)) 1 = V.int (((2 ^ l.length : Nat) : Int) - 1) from by
      show V.int ((1 : Int) * 2 ^ (((vz l).length : Nat) : Int).toNat - 1) = _
      rw [vz_len, shl_one]]
    rw [ev]
    have hT : (((2 ^ l.length : Nat) : Int)).toNat = 2 ^ l.length := Int.toNat_natCast _
    rw [hT]
    refine ⟨by omega, by omega, (by show 1 * 2 ^ l.length ≤ sizeLine; have : sizeLine = 16777216 := rfl; omega), fun m hm => ?_⟩
    have hm1 : H m = none := same_free (same_new (same_new (same_refl H) ht) hq) hm
    have e1 : (List.replicate (2 ^ l.length) [V.ref t]).flatten = List.replicate (2 ^ l.length) (V.ref t) := by
      generalize 2 ^ l.length = N
      induction N with
      | zero => rfl
      | succ N ih => rw [List.replicate_succ, List.flatten_cons, ih, List.replicate_succ]; rfl
    rw [e1]
    generalize hH1 : upd (upd H t (HO.tup [V.int 0, V.int 1])) q (HO.lst [V.ref t]) = H1 at hm
    have s1 : Same H H1 := by rw [← hH1]; exact same_new (same_new (same_refl H) ht) hq
    have tt : SqT K H1 t (fr 0) := by
      rw [← hH1]
      exact sqT_new (SqT.of upd_same) hq
    have s2 : Same H (upd H1 m (.lst (List.replicate (2 ^ l.length) (V.ref t)))) := same_new s1 hm
    refine ⟨_, rfl, _, _, rfl, rfl, _, rfl, _, rfl, _, _, _, _, rfl, RgC.neg (by omega) (by omega) (by omega) (by omega), for_rangeC (fun i σ H' => ∃ (v : Option V) (ms : List V),
      σ = [some (.ref a), some (.int (((2 ^ l.length : Nat) : Int) - 1)), some (.ref m), v] ∧ Same H H' ∧ H' m = some (.lst ms) ∧ ms.length = 2 ^ l.length ∧ ∀ j, 2 ^ l.length - 1 - i ≤ j → j < 2 ^ l.length → AtV K (Mq l) l ms H' j) ?_ ?_ ?_⟩
    · refine ⟨none, _, rfl, s2, upd_same, List.length_replicate, fun j h1 h2 => ?_⟩
      have ej : j = 2 ^ l.length - 1 := by omega
      rw [ej]
      refine ⟨t, ?_, ?_, ?_⟩
      · rw [List.getElem?_replicate, if_pos (by omega)]
      · rw [Mq_full (lack_full l)]
        exact sqT_new tt hm
      · rw [Mq_full (lack_full l), lack_full l]
        exact ⟨by decide, Rat.le_refl, by decide⟩
    · rintro i σ H' hi ⟨v, ms, rfl, sm, hms, hlen, hA⟩
      obtain ⟨g, hg, eg⟩ : ∃ g : Nat, g + 1 + i + 1 = 2 ^ l.length ∧ ((2 ^ l.length : Nat) : Int) - 1 - 1 + ((i : Nat) : Int) * (-1) = (g : Int) := by
        refine ⟨2 ^ l.length - 1 - 1 - i, ?_, ?_⟩
        · omega
        · omega
      show gName 3 (V.int (((2 ^ l.length : Nat) : Int) - 1 - 1 + ((i : Nat) : Int) * (-1))) _ _ _
      rw [eg]
      have hgl : g < 2 ^ l.length := by omega
      have hL : lackW l g ≠ [] := fun z => by
        have := full_of l g hgl z
        omega
      refine ⟨_, rfl, _, rfl, _, rfl, _, rfl, a, zs l, rfl, sm.seq ha, a, m, g, _, l, ms, Mq l, (by rw [zs_sum]; rfl), sm.seq ha, o, o.sm120, hL, SqL.of hms, fun j hj hb => hA _ (by have := lt_or hb; omega) (or_lt hgl hj), fun H2 p q s3 hp hq hd => ?_⟩
      have eq : q = Mq l g := next_one o hL (hq.trans (Mq_next o.pos g hL).symm)
      subst eq
      have hm2 := s3 _ _ hms
      refine ⟨_, rfl, _, rfl, m, ms, _, g, rfl, rfl, hm2, (by unfold ixN; rw [if_pos (by omega), if_pos (by omega), Int.toNat_natCast]), ?_⟩
      refine ⟨_, _, rfl, same_upd (sm.trans s3) hm1, upd_same, by rw [List.length_set]; exact hlen, fun j h1 h2 => ?_⟩
      by_cases hjg : j = g
      · subst hjg
        refine ⟨p, ?_, sqT_upd (SqT.of hp) hm2, hd, Mq_720 o _⟩
        rw [List.getElem?_set_self (by omega)]
      · obtain ⟨t2, g1, g2, g3⟩ := hA j (by omega) h2
        exact ⟨t2, by rw [List.getElem?_set_ne (Ne.symm hjg)]; exact g1, sqT_upd (same_seqT s3 g2) hm2, g3⟩
    · rintro σ H' ⟨v, ms, rfl, sm, hms, hlen, hA⟩
      refine ⟨_, rfl, ?_⟩
      exact k H' m ms sm hms hlen fun j hj => hA j (by omega) hj
end
end Ak

set_option Elab.async false
set_option linter.all false
set_option maxRecDepth 100000
set_option maxHeartbeats 2000000
namespace Ak
open PySem PySem.Spec PyProof.Rows L2
abbrev sNone : Stmt := top 25
abbrev sNext : Stmt := top 26
abbrev sBehind : Stmt := top 27
theorem dsum_set : ∀ (r : List Nat) (j x y : Nat) (V : Nat → Rat), r[j]? = some x → dsum (r.set j y) V = dsum r V + ((y : Rat) - (x : Rat)) * V j
  | [], j, x, y, V, h => by simp at h
  | a :: r, 0, x, y, V, h => by
    have e : a = x := Option.some.inj h
    subst e
    simp only [List.set_cons_zero, dsum]
    grind
  | a :: r, j + 1, x, y, V, h => by
    simp only [List.set_cons_succ, dsum]
    rw [dsum_set r j x y (fun i => V (i + 1)) h]
    grind
theorem dsum_zero : ∀ (n : Nat) (V : Nat → Rat), dsum (List.replicate n 0) V = 0
  | 0, V => rfl
  | n + 1, V => by
    rw [List.replicate_succ]
    simp only [dsum]
    rw [dsum_zero n]
    grind
theorem flat_rep {α : Type} (x : α) : ∀ N, (List.replicate N [x]).flatten = List.replicate N x
  | 0 => rfl
  | N + 1 => by rw [List.replicate_succ, List.flatten_cons, flat_rep x N, List.replicate_succ]; rfl
theorem vz_set (l : List Nat) (j n : Nat) : (vz l).set j (.int (n : Int)) = vz (l.set j n) := by
  simp [vz, zs, List.map_set]
theorem vz_rep (n : Nat) : List.replicate n (V.int 0) = vz (List.replicate n 0) := by
  simp [vz, zs]
section
variable {P : Program} {w : World} {K : PySem.W.Frag} {mg : Str → Option Value} {base : Heap}
/-! ### rows_of_none -/
def spNone (K : PySem.W.Frag) : Sp := fun vs H Q _ => ∃ (a : Addr) (l : List Nat) (h : Nat), vs = [.ref a, .int h] ∧ SqL K H a (vz l) ∧ Ok l ∧ h < 2 ^ l.length ∧
  ∀ (H' : Hp) (q : Addr), Same H H' → H' q = some (.lst (vz ((List.replicate (2 ^ l.length) 0).set h 1))) → Q (.ref q) H'
theorem scNone : FnScope ["weights", "had", "rows"] ["weights", "had"] (defScope sNone) := ⟨rfl, rfl, rfl, by decide +kernel, rfl, by decide +kernel, by decide +kernel⟩
theorem ok_none {f : Addr} {fd : FuncData} (F : Fun K "rows_of_none" "rows_of_none" sNone f fd) (T : Own mg) : FnOk P w K mg base CX0 1 f fd ["weights", "had"] (spNone K) := by
  refine F.ok scNone (fun vs H Q E h => ?_) (fun cdv A outer s H vs Q E hr h => ?_)
  · obtain ⟨a, l, h, rfl, _⟩ := h
    rfl
  · obtain ⟨a, l, h, rfl, ha, o, hh, k⟩ := h
    refine ⟨_, pss_cons (ps_set (i := 2) scNone.nd rfl (Or.inl rfl) (pe_op op_rep (pe_lst (pa_cons pe_int pa_nil)) (pe_op op_shl pe_int (pe_callB call_len_seq (by rfl) T.len PySem.boot_len (pa_cons (pv 0) pa_nil)))))
      (pss_cons (ps_asg pe_int (pg_sub (pv 2) (pv 1) set_list))
      (pss_one (ps_ret (pv 2)))), ?_⟩
    have hN6 := pow6 o
    have hl6 := o.len
    refine ⟨(by show 1 ≤ sizeLine; decide), fun q hq => ?_⟩
    have s1 : Same H (upd H q (.lst [.int 0])) := same_new (same_refl H) hq
    refine ⟨_, rfl, a, _, rfl, .inl (s1.seq ha), _, _, rfl, rfl, ⟨by rw [vz_len]; omega, by rw [vz_len]; omega, by decide⟩, q, _, _, rfl, rfl, upd_same, ?_⟩
    have ev : (1 : Int) * 2 ^ (((vz l).length : Nat) : Int).toNat = ((2 ^ l.length : Nat) : Int) := by rw [vz_len, shl_one]
    rw [ev, Int.toNat_natCast, flat_rep]
    refine ⟨by omega, by omega, (by show 1 * 2 ^ l.length ≤ sizeLine; have : sizeLine = 16777216 := rfl; omega), fun m hm => ?_⟩
    refine ⟨_, rfl, _, rfl, m, _, _, h, rfl, rfl, upd_same, (by unfold ixN; rw [List.length_replicate, if_pos (by omega), if_pos (by omega), Int.toNat_natCast]), ?_⟩
    refine ⟨_, rfl, ?_⟩
    rw [vz_rep, upd_upd]
    refine k _ m (same_new s1 hm) ?_
    rw [upd_same]
    exact congrArg (fun z => some (HO.lst z)) (vz_set _ h 1)
/-! ### rows_with_next -/
/-- the value behind one more draw -/
def Dv (l : List Nat) (V : Nat → Rat) (m : Nat) : Rat := dsum l (fun k => V (m ||| 2 ^ k))
def spNext (K : PySem.W.Frag) : Sp := fun vs H Q _ => ∃ (a r : Addr) (l rows : List Nat), vs = [.ref a, .ref r] ∧ SqL K H a (vz l) ∧ Ok l ∧ SqL K H r (vz rows) ∧ rows.length = 2 ^ l.length ∧
  ∀ (H' : Hp) (q : Addr) (lg : List Nat), Same H H' → H' q = some (.lst (vz lg)) → lg.length = 2 ^ l.length → (∀ V, dsum lg V = dsum rows (Dv l V)) → Q (.ref q) H'
theorem scNext : FnScope ["weights", "rows", "longer", "had", "count", "kind", "weight"] ["weights", "rows"] (defScope sNext) := ⟨rfl, rfl, rfl, by decide +kernel, rfl, by decide +kernel, by decide +kernel⟩
theorem ok_next {f : Addr} {fd : FuncData} (F : Fun K "rows_with_next" "rows_with_next" sNext f fd) (T : Own mg) : FnOk P w K mg base CX0 1 f fd ["weights", "rows"] (spNext K) := by
  refine F.ok scNext (fun vs H Q E h => ?_) (fun cdv A outer s H vs Q E hr h => ?_)
  · obtain ⟨a, r, l, rows, rfl, _⟩ := h
    rfl
  · obtain ⟨a, r, l, rows, rfl, ha, o, hrw, hlen, k⟩ := h
    refine ⟨_, pss_cons (ps_set (i := 2) scNext.nd rfl (Or.inl rfl) (pe_op op_rep (pe_lst (pa_cons pe_int pa_nil)) (pe_callB call_len_seq (by rfl) T.len PySem.boot_len (pa_cons (pv 1) pa_nil))))
      (pss_cons (ps_for PassesOwn.never rfl (pi_enum rfl T.enumerate (pa_cons (pv 1) pa_nil)) (pg_tup rfl (pgs_cons (pg_name (i := 3) scNext.nd rfl (Or.inl rfl)) (pgs_cons (pg_name (i := 4) scNext.nd rfl (Or.inl rfl)) pgs_nil)))
        (pss_one (ps_for PassesOwn.never rfl (pi_enum rfl T.enumerate (pa_cons (pv 0) pa_nil)) (pg_tup rfl (pgs_cons (pg_name (i := 5) scNext.nd rfl (Or.inl rfl)) (pgs_cons (pg_name (i := 6) scNext.nd rfl (Or.inl rfl)) pgs_nil)))
          (pss_one (ps_augS (pv 2) (pe_op op_or (pv 3) (pe_op op_shl pe_int (pv 5))) get_list (pe_op op_mul (pv 4) (pv 6)) ip_add set_list)))))
      (pss_one (ps_ret (pv 2)))), ?_⟩
    have hN6 := pow6 o
    have hl6 := o.len
    refine ⟨(by show 1 ≤ sizeLine; decide), fun q0 hq0 => ?_⟩
    have s0 : Same H (upd H q0 (.lst [.int 0])) := same_new (same_refl H) hq0
    refine ⟨_, rfl, r, _, rfl, .inl (s0.seq hrw), q0, _, _, rfl, rfl, upd_same, ?_⟩
    rw [vz_len, Int.toNat_natCast, hlen, flat_rep]
    refine ⟨by omega, by omega, (by show 1 * 2 ^ l.length ≤ sizeLine; have : sizeLine = 16777216 := rfl; omega), fun q hq => ?_⟩
    have hqH : H q = none := same_free s0 hq
    have s1 := same_new (o := .lst (List.replicate (2 ^ l.length) (V.int 0))) s0 hq
    refine ⟨_, rfl, r, _, rfl, s1.seq hrw, for_enum (K := K) (a := r) (xs := vz rows) (fun i σ H' => ∃ (lg : List Nat) (v3 v4 v5 v6 : Option V),
      σ = [some (.ref a), some (.ref r), some (.ref q), v3, v4, v5, v6] ∧ Same H H' ∧ H' q = some (.lst (vz lg)) ∧ lg.length = 2 ^ l.length ∧ ∀ V, dsum lg V = dsum (rows.take i) (Dv l V)) ?_ ?_ ?_ ?_⟩
    · refine ⟨List.replicate (2 ^ l.length) 0, none, none, none, none, rfl, s1, ?_, List.length_replicate, fun V => ?_⟩
      · rw [upd_same, vz_rep]
      · rw [dsum_zero]
        rfl
    · rintro i σ H' _ ⟨lg, v3, v4, v5, v6, rfl, sm, _⟩
      exact sm.seq hrw
    · rintro i x σ H' t hx ⟨lg, v3, v4, v5, v6, rfl, sm, hlg, hll, hV⟩ ht
      obtain ⟨c, hc, rfl⟩ := vz_at hx
      have hi : i < 2 ^ l.length := by rw [← hlen]; exact lt_of_at hc
      have sm' := same_new (o := .tup [.int (i : Nat), .int (c : Int)]) sm ht
      have hlg' : upd H' t (.tup [.int (i : Nat), .int (c : Int)]) q = some (.lst (vz lg)) := by rw [upd_ne (ne_of_none hlg ht)]; exact hlg
      refine ⟨t, _, rfl, SqT.of upd_same, rfl, _, _, rfl, _, _, rfl, rfl, ?_⟩
      generalize upd H' t (.tup [.int (i : Nat), .int (c : Int)]) = H1 at sm' hlg'
      refine ⟨_, rfl, a, _, rfl, sm'.seq ha, for_enum (K := K) (a := a) (xs := vz l) (fun j σ H' => ∃ (lg : List Nat) (v5 v6 : Option V),
        σ = [some (.ref a), some (.ref r), some (.ref q), some (.int (i : Nat)), some (.int (c : Int)), v5, v6] ∧ Same H H' ∧ H' q = some (.lst (vz lg)) ∧ lg.length = 2 ^ l.length ∧
          ∀ V, dsum lg V = dsum (rows.take i) (Dv l V) + (c : Rat) * dsum (l.take j) (fun k => V (i ||| 2 ^ k))) ?_ ?_ ?_ ?_⟩
      · refine ⟨lg, v5, v6, rfl, sm', hlg', hll, fun V => ?_⟩
        rw [hV]
        simp [dsum]
        grind
      · rintro j σ H' _ ⟨lg, v5, v6, rfl, sm, _⟩
        exact sm.seq ha
      · rintro j x σ H2 t2 hx2 ⟨lg, v5, v6, rfl, sm2, hlg2, hll2, hV2⟩ ht2
        obtain ⟨n, hn, rfl⟩ := vz_at hx2
        have hj : j < l.length := lt_of_at hn
        have hn20 := o.top n (List.mem_of_getElem? hn)
        have sm3 := same_new (o := .tup [.int (j : Nat), .int (n : Int)]) sm2 ht2
        have hlg3 : upd H2 t2 (.tup [.int (j : Nat), .int (n : Int)]) q = some (.lst (vz lg)) := by rw [upd_ne (ne_of_none hlg2 ht2)]; exact hlg2
        refine ⟨t2, _, rfl, SqT.of upd_same, rfl, _, _, rfl, _, _, rfl, rfl, ?_⟩
        generalize upd H2 t2 (.tup [.int (j : Nat), .int (n : Int)]) = H3 at sm3 hlg3
        have hix : i ||| 2 ^ j < lg.length := by rw [hll2]; exact or_lt hi hj
        obtain ⟨y, hy⟩ : ∃ y, lg[i ||| 2 ^ j]? = some y := ⟨_, List.getElem?_eq_getElem hix⟩
        have eix : Builtin.bitOr ((i : Nat) : Int) (1 * 2 ^ ((j : Nat) : Int).toNat) = ((i ||| 2 ^ j : Nat) : Int) := by rw [Int.toNat_natCast, or_bits]
        refine ⟨_, rfl, _, rfl, _, rfl, _, _, rfl, rfl, ⟨by omega, by omega, by decide⟩, _, _, rfl, rfl, q, _, _, .int (y : Int), rfl, rfl, SqL.of hlg3, (by
          show atI (vz lg) (Builtin.bitOr ((i : Nat) : Int) (1 * 2 ^ ((j : Nat) : Int).toNat)) = _
          rw [eix]
          exact atI_nat (vz_get hy)), ?_⟩
        refine ⟨_, rfl, _, rfl, _, _, rfl, rfl, .inr ⟨by omega, by omega⟩, _, _, rfl, rfl, q, _, _, i ||| 2 ^ j, rfl, rfl, hlg3, (by
          rw [eix, vz_len]
          unfold ixN
          rw [if_pos (by omega), if_pos (by omega), Int.toNat_natCast]), ?_⟩
        have ey : (y : Int) + (c : Int) * (n : Int) = ((y + c * n : Nat) : Int) := by push_cast; rfl
        refine ⟨lg.set (i ||| 2 ^ j) (y + c * n), some (.int (j : Nat)), some (.int (n : Int)), rfl, same_upd sm3 hqH, ?_, by rw [List.length_set]; exact hll2, fun V => ?_⟩
        · rw [upd_same, ← vz_set, ← ey]
        · rw [dsum_set _ _ _ _ _ hy, hV2, take_one hn, dsum_snoc, take_len hn]
          push_cast
          grind
      · rintro σ H2 ⟨lg, v5, v6, rfl, sm2, hlg2, hll2, hV2⟩
        rw [vz_len, List.take_length] at hV2
        refine ⟨lg, _, _, v5, v6, rfl, sm2, hlg2, hll2, fun V => ?_⟩
        rw [hV2, take_one hc, dsum_snoc, take_len hc]
        rfl
    · rintro σ H' ⟨lg, v3, v4, v5, v6, rfl, sm, hlg, hll, hV⟩
      rw [vz_len, List.take_length] at hV
      exact ⟨_, rfl, k H' q lg sm hlg hll hV⟩
end
end Ak

set_option Elab.async false
set_option linter.all false
set_option maxRecDepth 100000
set_option maxHeartbeats 2000000
namespace Ak
open PySem PySem.Spec PyProof.Rows L2
abbrev sInit : Stmt := inClass (top 13) 0
/-! ### the album -/
def af (b : Bool) (wl : Addr) (h : Nat) : List (Str × V) := [("begun", .bl b), ("weights", .ref wl), ("had", .int (h : Int))]
theorem lk_ne {f g : Str} {x : V} {r : List (Str × V)} (h : (f == g) = false) : ((g, x) :: r).lookup f = r.lookup f := by
  rw [List.lookup_cons, h]
theorem lk_eq {f : Str} {x : V} {r : List (Str × V)} : ((f, x) :: r).lookup f = some x := by
  rw [List.lookup_cons, beq_self_eq_true]
theorem af_begun (b : Bool) (wl : Addr) (h : Nat) : (af b wl h).lookup ("begun" : Str) = some (.bl b) := lk_eq
theorem af_weights (b : Bool) (wl : Addr) (h : Nat) : (af b wl h).lookup ("weights" : Str) = some (.ref wl) := (lk_ne (by decide +kernel)).trans lk_eq
theorem af_had (b : Bool) (wl : Addr) (h : Nat) : (af b wl h).lookup ("had" : Str) = some (.int (h : Int)) := (lk_ne (by decide +kernel)).trans ((lk_ne (by decide +kernel)).trans lk_eq)
theorem put_ne {f g : Str} {x v : V} {r : List (Str × V)} (h : ¬ g = f) : putF f v ((g, x) :: r) = (g, x) :: putF f v r := by
  show (if g = f then (g, v) :: r else (g, x) :: putF f v r) = _
  rw [if_neg h]
theorem put_eq {f : Str} {x v : V} {r : List (Str × V)} : putF f v ((f, x) :: r) = (f, v) :: r := by
  show (if f = f then (f, v) :: r else (f, x) :: putF f v r) = _
  rw [if_pos rfl]
theorem af_put_begun (b c : Bool) (wl : Addr) (h : Nat) : putF "begun" (.bl c) (af b wl h) = af c wl h := put_eq
theorem af_put_weights (b : Bool) (wl wl' : Addr) (h : Nat) : putF "weights" (.ref wl') (af b wl h) = af b wl' h := (put_ne (by decide +kernel)).trans (congrArg _ put_eq)
theorem af_put_had (b : Bool) (wl : Addr) (h h' : Nat) : putF "had" (.int (h' : Int)) (af b wl h) = af b wl h' := (put_ne (by decide +kernel)).trans (congrArg _ ((put_ne (by decide +kernel)).trans (congrArg _ put_eq)))
/-- the album that has begun -/
structure AlbAt (C : Addr) (H : Hp) (a wl : Addr) (l : List Nat) (h : Nat) : Prop where
  ins : ∃ dx, H a = some (.ins C dx (af true wl h))
  lst : H wl = some (.lst (vz l))
  ok : Ok l
  had : h < 2 ^ l.length
theorem AlbAt.same {C : Addr} {H H' : Hp} {a wl : Addr} {l : List Nat} {h : Nat} (A : AlbAt C H a wl l h) (s : Same H H') : AlbAt C H' a wl l h := by
  obtain ⟨dx, e⟩ := A.ins
  exact ⟨⟨dx, s _ _ e⟩, s _ _ A.lst, A.ok, A.had⟩
/-- the class's facts -/
structure Txt (K : PySem.W.Frag) (mg : Str → Option Value) (C : Addr) : Prop where
  cl : Cls K C
  nB : NoAttr K C "begun"
  nW : NoAttr K C "weights"
  nH : NoAttr K C "had"
  mgC : mg "Album" = some (.ref C)
  own : Own mg
section
variable {P : Program} {w : World} {K : PySem.W.Frag} {mg : Str → Option Value} {base : Heap}
/-- a field, within a comprehension -/
theorem pe_fldK {X : Cx} {K : PySem.W.Frag} {e : Expr} {f : Str} {pos : Pos} {ta : TE} (hK : X.K = K) (he : PE X e ta) (hb : attributeBase e f X.env (eval e X.env) = eval e X.env) : PE X (.Attribute e f pos) (tFld K ta f) := by
  subst hK
  exact pe_fld he hb
/-! ### lacking_kinds -/
theorem lack_take_len {l : List Nat} (h : Nat) {i n : Nat} (hn : l[i]? = some n) : (lackW (l.take (i + 1)) h).length = (lackW (l.take i) h).length + (if h.testBit i then 0 else 1) := by
  rw [take_one hn, lackW_snoc, take_len hn, List.length_append]
  split <;> rfl
/-- the lacking kinds among the first n -/
def lks (n h : Nat) : List Nat := (List.range n).filter fun i => !Nat.testBit h i
theorem lks_succ (n h : Nat) : lks (n + 1) h = lks n h ++ (if h.testBit n then [] else [n]) := by
  unfold lks
  rw [List.range_succ, List.filter_append]
  congr 1
  cases e : h.testBit n <;> simp [e]
theorem lks_len {l : List Nat} (h : Nat) : ∀ i, i ≤ l.length → (lks i h).length = (lackW (l.take i) h).length
  | 0, _ => by simp [lks, lackW]
  | i + 1, hi => by
    have ih := lks_len (l := l) h i (by omega)
    have hn : l[i]? = some l[i] := List.getElem?_eq_getElem hi
    rw [lack_take_len h hn, lks_succ, List.length_append, ih]
    split <;> rfl
theorem lks_length (l : List Nat) (h : Nat) : (lks l.length h).length = (lackW l h).length := by
  rw [lks_len (l := l) h _ (Nat.le_refl _), List.take_length]
theorem lks_lt {n h x : Nat} (hx : x ∈ lks n h) : x < n ∧ h.testBit x = false := by
  unfold lks at hx
  rw [List.mem_filter, List.mem_range] at hx
  exact ⟨hx.1, by simpa using hx.2⟩
theorem lks_le (n h : Nat) : (lks n h).length ≤ n := by
  have := List.length_filter_le (fun i => !Nat.testBit h i) (List.range n)
  rw [List.length_range] at this
  exact this
theorem vz_snoc (l : List Nat) (x : Nat) : vz l ++ [V.int (x : Int)] = vz (l ++ [x]) := by simp [vz, zs]
def spLacks (C : Addr) : Sp := fun vs H Q _ => ∃ (a wl : Addr) (l : List Nat) (h : Nat), vs = [.ref a] ∧ AlbAt C H a wl l h ∧ ∀ (H' : Hp) (p : Addr), Same H H' → H p = none → H' p = some (.lst (vz (lks l.length h))) → Q (.ref p) H'
theorem scLacks : FnScope ["album", "kind"] ["album"] (defScope sLacks) := ⟨rfl, rfl, rfl, by decide +kernel, rfl, by decide +kernel, by decide +kernel⟩
def scpLacks : Scope := { kind := .function, names := [(".0", .local), ("kind", .local), ("is_had", .globalImplicit), ("album", .free)], isGenerator := false, isCoroutine := false, more := [] }
theorem blkLacks : BlkOk ["album", "kind"] (defScope sLacks) scpLacks [("kind", 1)] := ⟨rfl, by decide +kernel, by decide +kernel, by decide +kernel, by decide +kernel⟩
theorem ok_lacks {f C : Addr} {fd : FuncData} (F : Fun K "lacking_kinds" "lacking_kinds" sLacks f fd) (T : Txt K mg C) (GH : Df P w K mg base "is_had" 1 ["had", "kind"] spHad) : FnOk P w K mg base CX0 2 f fd ["album"] (spLacks C) := by
  refine F.ok scLacks (fun vs H Q E h => ?_) (fun cdv A outer s H vs Q E hr h => ?_)
  · obtain ⟨a, wl, l, h, rfl, _⟩ := h
    rfl
  · obtain ⟨a, wl, l, h, rfl, hA, k⟩ := h
    refine ⟨_, pss_one (ps_ret
      (pe_lc (own := [("kind", 1)]) rfl scLacks.nd (pi_range1 rfl T.own.range (pa_cons (pe_callB call_len_seq (by rfl) T.own.len PySem.boot_len (pa_cons (pe_fld (pv 0) rfl) pa_nil)) pa_nil))
        blkLacks
        (fun s H C cl fp => pg_name (i := 1) scLacks.nd rfl (Or.inl rfl))
        (fun s H C cl fp => pts_one (pt_not (pt_val (pe_df GH hr rfl (pa_cons (pe_fldK (K := K) rfl (pv 0) rfl) (pa_cons (pv 1) pa_nil))))))
        (fun s H C cl fp => pv 1))), ?_⟩
    obtain ⟨dx, hI⟩ := hA.ins
    have hl6 := hA.ok.len
    refine ⟨_, rfl, a, C, dx, _, _, rfl, hI, T.cl, T.nW, af_weights _ _ _, wl, _, rfl, .inl (SqL.of hA.lst), _, rfl, (by rw [vz_len]; omega), (by rw [vz_len]; omega), fun D hD => ?_⟩
    rw [vz_len, Int.toNat_natCast]
    have s0 : Same H (upd H D (.lst [])) := same_new (same_refl H) hD
    refine lc_range (fun i H' => Same H H' ∧ H' D = some (.lst (vz (lks i h)))) ⟨s0, upd_same⟩ ?_ ?_
    · rintro i H' hi ⟨sm, hacc⟩
      have hle := lks_le i h
      refine ⟨rfl, _, rfl, a, C, dx, _, _, rfl, sm _ _ hI, T.cl, T.nH, af_had _ _ _, _, rfl, h, i, ?_, by omega, _, rfl, ?_⟩
      · rw [Int.zero_add]
        rfl
      · have e := lks_succ i h
        cases hb : h.testBit i with
        | true =>
          rw [hb, if_pos rfl, List.append_nil] at e
          rw [e]
          exact iteF ⟨sm, hacc⟩
        | false =>
          rw [hb, if_neg (by decide)] at e
          rw [e]
          refine iteT ⟨_, rfl, _, hacc, (by rw [vz_len]; have : sizeLine = 16777216 := rfl; omega), same_upd sm hD, ?_⟩
          rw [upd_same, ← vz_snoc, Int.zero_add]
    · rintro H' ⟨sm, hacc⟩
      exact k H' D sm hD hacc
/-! ### rows_behind -/
/-- rows of so many draws from h on -/
structure Rows (l : List Nat) (h d : Nat) (rows : List Nat) : Prop where
  len : rows.length = 2 ^ l.length
  whole : ∀ j, dsum rows (Vq l j) = Vq l (j + d) h
  all : dsum rows (fun _ => 1) = (sm l : Rat) ^ d
theorem Rows.start {l : List Nat} {h : Nat} (hh : h < 2 ^ l.length) : Rows l h 0 ((List.replicate (2 ^ l.length) 0).set h 1) := by
  have e : ∀ V, dsum ((List.replicate (2 ^ l.length) 0).set h 1) V = V h := fun V => by
    rw [dsum_set _ h 0 1 V (by rw [List.getElem?_replicate, if_pos hh]), dsum_zero]
    push_cast
    grind
  refine ⟨by simp, fun j => e _, ?_⟩
  rw [e]; grind
theorem Rows.step {l : List Nat} {h d : Nat} {rows lg : List Nat} (R : Rows l h d rows) (hl : lg.length = 2 ^ l.length) (hV : ∀ V, dsum lg V = dsum rows (Dv l V)) : Rows l h (d + 1) lg := by
  refine ⟨hl, fun j => ?_, ?_⟩
  · rw [hV]
    have e : Dv l (Vq l j) = Vq l (j + 1) := by
      funext m
      exact Vq_succ l j m
    rw [e, R.whole]
    congr 1
    omega
  · rw [hV]
    have e : Dv l (fun _ => 1) = fun m => (sm l : Rat) * 1 := by
      funext m
      show dsum l (fun _ => 1) = _
      rw [dsum_one]; grind
    rw [e, dsum_mul, R.all]
    grind
theorem dsum_last : ∀ (rows : List Nat) (x n : Nat), rows.length = n + 1 → rows[n]? = some x → dsum rows (fun m => if m = n then 1 else 0) = (x : Rat)
  | [], x, n, h, _ => by simp at h
  | a :: r, x, 0, h, e => by
    have er : r = [] := List.length_eq_zero_iff.mp (by simpa using h)
    have ea : a = x := Option.some.inj e
    subst ea er
    simp [dsum]
    grind
  | a :: r, x, n + 1, h, e => by
    have ih := dsum_last r x n (by simpa using h) e
    simp only [dsum]
    have e2 : (fun j => if j + 1 = n + 1 then (1 : Rat) else 0) = fun m => if m = n then 1 else 0 := by
      funext j; simp
    rw [e2, ih]
    simp
    grind
theorem Rows.last {l : List Nat} {h d : Nat} {rows : List Nat} (R : Rows l h d rows) : ∃ x : Nat, rows[2 ^ l.length - 1]? = some x ∧ (x : Rat) = Vq l d h := by
  have hp : 0 < 2 ^ l.length := Nat.pow_pos (by decide)
  obtain ⟨x, hx⟩ : ∃ x, rows[2 ^ l.length - 1]? = some x := ⟨_, List.getElem?_eq_getElem (by rw [R.len]; omega)⟩
  refine ⟨x, hx, ?_⟩
  have e := R.whole 0
  rw [Nat.zero_add] at e
  rw [← e, ← dsum_last rows x (2 ^ l.length - 1) (by rw [R.len]; omega) hx]
  refine dsum_congr _ _ _ fun i hi => ?_
  rw [Vq_zero]
  rw [R.len] at hi
  by_cases z : i = 2 ^ l.length - 1
  · rw [if_pos z, z, if_pos (lack_full l)]
  · rw [if_neg z, if_neg (fun q => z (full_of l i hi q))]
theorem dsum_sm (rows : List Nat) : dsum rows (fun _ => 1) = (sm rows : Rat) := dsum_one rows
def spBehind (C : Addr) : Sp := fun vs H Q _ => ∃ (a wl : Addr) (l : List Nat) (h d : Nat), vs = [.ref a, .int d] ∧ AlbAt C H a wl l h ∧ d ≤ 1000 ∧
  ∀ (H' : Hp) (q : Addr) (rows : List Nat), Same H H' → H' q = some (.lst (vz rows)) → Rows l h d rows → Q (.ref q) H'
theorem scBehind : FnScope ["album", "draws", "rows", "draw"] ["album", "draws"] (defScope sBehind) := ⟨rfl, rfl, rfl, by decide +kernel, rfl, by decide +kernel, by decide +kernel⟩
theorem ok_behind {f C : Addr} {fd : FuncData} (F : Fun K "rows_behind" "rows_behind" sBehind f fd) (T : Txt K mg C) (GN : Df P w K mg base "rows_of_none" 1 ["weights", "had"] (spNone K)) (GX : Df P w K mg base "rows_with_next" 1 ["weights", "rows"] (spNext K)) :
    FnOk P w K mg base CX0 2 f fd ["album", "draws"] (spBehind C) := by
  refine F.ok scBehind (fun vs H Q E h => ?_) (fun cdv A outer s H vs Q E hr h => ?_)
  · obtain ⟨a, wl, l, h, d, rfl, _⟩ := h
    rfl
  · obtain ⟨a, wl, l, h, d, rfl, hA, hd, k⟩ := h
    refine ⟨_, pss_cons (ps_set (i := 2) scBehind.nd rfl (Or.inl rfl) (pe_df GN hr rfl (pa_cons (pe_fld (pv 0) rfl) (pa_cons (pe_fld (pv 0) rfl) pa_nil))))
      (pss_cons (ps_for PassesOwn.never rfl (pi_range1 rfl T.own.range (pa_cons (pv 1) pa_nil)) (pg_name (i := 3) scBehind.nd rfl (Or.inl rfl))
        (pss_one (ps_set (i := 2) scBehind.nd rfl (Or.inl rfl) (pe_df GX hr rfl (pa_cons (pe_fld (pv 0) rfl) (pa_cons (pv 2) pa_nil))))))
      (pss_one (ps_ret (pv 2)))), ?_⟩
    obtain ⟨dx, hI⟩ := hA.ins
    refine ⟨_, rfl, a, C, dx, _, _, rfl, hI, T.cl, T.nW, af_weights _ _ _, _, rfl, a, C, dx, _, _, rfl, hI, T.cl, T.nH, af_had _ _ _, wl, l, h, rfl, SqL.of hA.lst, hA.ok, hA.had, fun H1 q s1 hq => ?_⟩
    refine ⟨_, rfl, _, rfl, by omega, by omega, ?_⟩
    rw [Int.toNat_natCast]
    refine for_range (fun i σ H' => ∃ (q : Addr) (rows : List Nat) (v : Option V), σ = [some (.ref a), some (.int (d : Int)), some (.ref q), v] ∧ Same H H' ∧ H' q = some (.lst (vz rows)) ∧ Rows l h i rows)
      ⟨q, _, none, rfl, s1, hq, Rows.start hA.had⟩ ?_ ?_
    · rintro i σ H' hi ⟨q, rows, v, rfl, sm, hq, R⟩
      refine ⟨_, rfl, a, C, dx, _, _, rfl, sm _ _ hI, T.cl, T.nW, af_weights _ _ _, _, rfl, wl, q, l, rows, rfl, SqL.of (sm _ _ hA.lst), hA.ok, SqL.of hq, R.len, fun H2 q2 lg s2 hq2 hl2 hV => ?_⟩
      exact ⟨q2, lg, _, rfl, sm.trans s2, hq2, R.step hl2 hV⟩
    · rintro σ H' ⟨q, rows, v, rfl, sm, hq, R⟩
      exact ⟨_, rfl, k H' q rows sm hq R⟩
end
end Ak

set_option linter.all false
namespace Ak
theorem size_lack : ∀ (l : List Nat) (h : Nat), Kp292.size l (Kp292.lacking l h) = (lackW l h).length
  | [], h => rfl
  | w :: l, h => by
    rw [size_cons, lacking_bit0, lacking_div, size_lack l (h / 2)]
    simp only [lackW]
    cases h.testBit 0 <;> simp <;> omega
theorem weight_lack : ∀ (l : List Nat) (h : Nat), Kp292.weight l (Kp292.lacking l h) = sm (lackW l h)
  | [], h => rfl
  | w :: l, h => by
    rw [weight_cons, lacking_bit0, lacking_div, weight_lack l (h / 2)]
    simp only [lackW]
    cases h.testBit 0 <;> simp [sm]
theorem lack_or : ∀ (l : List Nat) (h x : Nat), lackW l h = [] → lackW l (h ||| x) = []
  | [], h, x, _ => rfl
  | w :: l, h, x, e => by
    simp only [lackW] at e ⊢
    have ed : (h ||| x) / 2 = h / 2 ||| x / 2 := by
      apply Nat.eq_of_testBit_eq
      intro j
      simp only [Nat.testBit_div_two, Nat.testBit_or]
    split at e
    · rename_i b
      have b2 : (h ||| x).testBit 0 = true := by rw [Nat.testBit_or, b]; rfl
      rw [if_pos b2, ed]
      exact lack_or l (h / 2) (x / 2) e
    · cases e
theorem Vq_mono (l : List Nat) : ∀ (n h i : Nat), Vq l n h ≤ Vq l n (h ||| 2 ^ i)
  | 0, h, i => by
    rw [Vq_zero, Vq_zero]
    by_cases e : lackW l h = []
    · rw [if_pos e, if_pos (lack_or l h _ e)]; exact Rat.le_refl
    · rw [if_neg e]
      split
      · grind
      · exact Rat.le_refl
  | n + 1, h, i => by
    rw [← Vq_succ, ← Vq_succ]
    refine dsum_le _ _ _ fun k _ => ?_
    have e : h ||| 2 ^ i ||| 2 ^ k = (h ||| 2 ^ k) ||| 2 ^ i := by
      rw [Nat.or_assoc, Nat.or_comm (2 ^ i), ← Nat.or_assoc]
    rw [e]
    exact Vq_mono l n (h ||| 2 ^ k) i
theorem Vq_at (l : List Nat) (n h : Nat) : (sm l : Rat) * Vq l n h ≤ Vq l (n + 1) h := by
  rw [← Vq_succ, Rat.mul_comm, ← dsum_const]
  exact dsum_le _ _ _ fun k _ => Vq_mono l n h k
end Ak

set_option linter.all false
namespace Ak
open Kp292 (Frac sumF over signed add neg leq)
/-! ### last -/
theorem within_bit : ∀ (l : List Nat) (m h i : Nat), i < l.length → (!m.testBit i && Kp292.within l m (Kp292.lacking l h)) = Kp292.within l m (Kp292.lacking l (h ||| 2 ^ i))
  | [], m, h, i, hi => by simp at hi
  | w :: l, m, h, 0, hi => by
    rw [within_cons, within_cons, lacking_bit0, lacking_bit0, lacking_div, lacking_div, Nat.pow_zero, or_one_even, or_one_div]
    cases m.testBit 0 <;> cases h.testBit 0 <;> simp
  | w :: l, m, h, i + 1, hi => by
    have ih := within_bit l (m / 2) (h / 2) i (by simpa using hi)
    rw [within_cons, within_cons, lacking_bit0, lacking_bit0, lacking_div, lacking_div, or_pow_succ_zero, or_pow_succ_div, ← ih, Nat.testBit_div_two]
    cases m.testBit (i + 1) <;> simp
/-- how likely a kind of weight x comes last behind the others that are lacking (their weights) -/
def Lr (x : Nat) (R : List Nat) : Rat := T R (fun k v => sgn k * ((x : Rat) / ((x : Rat) + (v : Rat))))
theorem last_red {l : List Nat} (hp : ∀ w ∈ l, 0 < w) (h i x : Nat) (hx : l[i]? = some x) : Red (Kp292.lastIs l h i) ∧ val (Kp292.lastIs l h i) = Lr x (lackW l (h ||| 2 ^ i)) := by
  unfold Kp292.lastIs
  have hi : i < l.length := (List.getElem?_eq_some_iff.mp hx).1
  have hg : l.getD i 0 = x := by rw [List.getD_eq_getElem?_getD, hx]; rfl
  have hx0 : 0 < x := hp x (List.mem_of_getElem? hx)
  rw [hg]
  have hd : ∀ a ∈ ((Kp292.sets l).filter fun m => !Nat.testBit m i && Kp292.within l m (Kp292.lacking l h)).map (fun m => signed (Kp292.size l m) (over x (x + Kp292.weight l m))), 0 < a.down := by
    intro a ha
    obtain ⟨m, hm, rfl⟩ := List.mem_map.mp ha
    rw [signed_down]
    exact (over_red (by omega)).1.1
  have := sumF_red hd
  refine ⟨this.1, this.2.trans ?_⟩
  rw [List.map_map, filter_sum]
  show rsum (2 ^ l.length) _ = _
  unfold Lr
  rw [← rsum_T]
  apply rsum_congr
  intro m hm
  simp only [within_bit l m h i hi, Function.comp]
  split
  · rw [signed_val, (over_red (by omega)).2]
    push_cast
    rfl
  · rfl
theorem Lr_nil {x : Nat} (hx : 0 < x) : Lr x [] = 1 := by
  unfold Lr
  simp only [T, sgn_zero]
  have : (x : Rat) ≠ 0 := by
    intro z
    have : x = 0 := by exact_mod_cast z
    omega
  push_cast
  grind
/-- the sum over the others of their weight times what follows when they're drawn -/
theorem Lr_E {x : Nat} (hx : 0 < x) (R : List Nat) (hp : ∀ w ∈ R, 0 < w) (hR : R ≠ []) :
    E R (fun k v => sgn k * ((x : Rat) / ((x : Rat) + (v : Rat)))) = ((sm R : Rat) + (x : Rat)) * Lr x R := by
  rw [E_eq]
  have e : T R (fun k v => (v : Rat) * (sgn k * ((x : Rat) / ((x : Rat) + (v : Rat))))) = T R (fun k v => (x : Rat) * sgn k + (-(x : Rat)) * (sgn k * ((x : Rat) / ((x : Rat) + (v : Rat))))) := by
    congr 1
    funext k v
    have h0 : (x : Rat) + (v : Rat) ≠ 0 := by
      intro z
      have z' : ((x + v : Nat) : Rat) = 0 := by push_cast; exact z
      have : x + v = 0 := by exact_mod_cast z'
      omega
    have h1 : ((x : Rat) / ((x : Rat) + (v : Rat))) * ((x : Rat) + (v : Rat)) = (x : Rat) := Rat.div_mul_cancel h0
    grind
  rw [e, T_add, T_mul, T_mul, T_sgn, if_neg hR]
  unfold Lr
  grind
/-- in the album: drawing another lacking kind first -/
theorem Lr_draw {l : List Nat} (hp : ∀ w ∈ l, 0 < w) (h i x : Nat) (hx : l[i]? = some x) (hR : lackW l (h ||| 2 ^ i) ≠ []) :
    dsum l (fun j => if (h ||| 2 ^ i).testBit j then 0 else Lr x (lackW l (h ||| 2 ^ j ||| 2 ^ i))) = ((sm (lackW l (h ||| 2 ^ i)) : Rat) + (x : Rat)) * Lr x (lackW l (h ||| 2 ^ i)) := by
  have hx0 : 0 < x := hp x (List.mem_of_getElem? hx)
  have d := draw_E l (h ||| 2 ^ i) (fun k v => sgn k * ((x : Rat) / ((x : Rat) + (v : Rat))))
  rw [Lr_E hx0 _ (lack_pos hp) hR] at d
  have e : dsum l (fun j => T (lackW l ((h ||| 2 ^ i) ||| 2 ^ j)) (fun k v => sgn k * ((x : Rat) / ((x : Rat) + (v : Rat))))) =
      dsum l (fun j => (if (h ||| 2 ^ i).testBit j then 0 else Lr x (lackW l (h ||| 2 ^ j ||| 2 ^ i))) + Lr x (lackW l (h ||| 2 ^ i)) * (1 + (-1 : Rat) * (if (h ||| 2 ^ i).testBit j then 0 else 1))) := by
    refine dsum_congr _ _ _ fun j _ => ?_
    have eo : h ||| 2 ^ i ||| 2 ^ j = h ||| 2 ^ j ||| 2 ^ i := by rw [Nat.or_assoc, Nat.or_comm (2 ^ i), ← Nat.or_assoc]
    by_cases b : (h ||| 2 ^ i).testBit j = true
    · simp only [b, if_true, or_bit b]
      show Lr x _ = _
      grind
    · simp only [b, if_false, eo]
      show Lr x _ = _
      grind
  rw [e, dsum_add, dsum_mul, dsum_add, dsum_mul, dsum_one, dsum_lack] at d
  show _ = _
  have d' : dsum l (fun j => if (h ||| 2 ^ i).testBit j then 0 else Lr x (lackW l (h ||| 2 ^ j ||| 2 ^ i))) + Lr x (lackW l (h ||| 2 ^ i)) * ((sm l : Rat) + -1 * (sm (lackW l (h ||| 2 ^ i)) : Rat)) = ((sm l : Rat) - (sm (lackW l (h ||| 2 ^ i)) : Rat)) * Lr x (lackW l (h ||| 2 ^ i)) + ((sm (lackW l (h ||| 2 ^ i)) : Rat) + (x : Rat)) * Lr x (lackW l (h ||| 2 ^ i)) := d
  grind
/-! ### worth, next, even -/
theorem worth_red {l : List Nat} (hp : ∀ w ∈ l, 0 < w) (h i : Nat) : Red (add (Kp292.mean l h) (neg (Kp292.worth l h i))) ∧ val (add (Kp292.mean l h) (neg (Kp292.worth l h i))) = Mq l h - Mq l (h ||| 2 ^ i) := by
  have r1 := mean_red hp h
  have r2 := mean_red hp (h ||| 2 ^ i)
  have r3 := add_red (a := Kp292.mean l h) (b := neg (Kp292.worth l h i)) r1.1.1 r2.1.1
  refine ⟨r3.1, r3.2.trans ?_⟩
  rw [neg_val]
  show val (Kp292.mean l h) + - val (Kp292.mean l (h ||| 2 ^ i)) = _
  rw [r1.2, r2.2]
  grind
theorem next_red {l : List Nat} (hp : ∀ w ∈ l, 0 < w) (hl : l ≠ []) (h : Nat) : Red (over (Kp292.weight l (Kp292.lacking l h)) (Kp291.sum l)) ∧ val (over (Kp292.weight l (Kp292.lacking l h)) (Kp291.sum l)) = (sm (lackW l h) : Rat) / (sm l : Rat) := by
  rw [weight_lack, sum_sm]
  exact over_red (sm_pos hp hl)
/-- m times one, a half and so on, k of them -/
def Hq (m : Nat) : Nat → Rat
  | 0 => 0
  | k + 1 => Hq m k + (m : Rat) / ((k + 1 : Nat) : Rat)
theorem even_red (m : Nat) : Red (Kp292.evenMean m) ∧ val (Kp292.evenMean m) = Hq m m := by
  unfold Kp292.evenMean
  have hd : ∀ a ∈ (List.range m).map (fun i => over m (i + 1)), 0 < a.down := by
    intro a ha
    obtain ⟨i, _, rfl⟩ := List.mem_map.mp ha
    exact (over_red (by omega)).1.1
  have := sumF_red hd
  refine ⟨this.1, this.2.trans ?_⟩
  rw [List.map_map]
  have key : ∀ k, ((List.range k).map (val ∘ fun i => over m (i + 1))).sum = Hq m k := by
    intro k
    induction k with
    | zero => rfl
    | succ k ih =>
      rw [List.range_succ, List.map_append, List.sum_append, ih]
      simp only [List.map_cons, List.map_nil, List.sum_cons, List.sum_nil, Function.comp, Hq]
      rw [(over_red (by omega)).2]
      grind
  exact key m
theorem sm_ones : ∀ n, sm (List.replicate n 1) = n
  | 0 => rfl
  | n + 1 => by rw [List.replicate_succ]; simp only [sm, sm_ones n]; omega
theorem lack_ones : ∀ (n h : Nat), lackW (List.replicate n 1) h = List.replicate (lackW (List.replicate n 1) h).length 1
  | 0, h => rfl
  | n + 1, h => by
    have ih := lack_ones n (h / 2)
    rw [List.replicate_succ]
    simp only [lackW]
    split
    · exact ih
    · rw [List.length_cons, List.replicate_succ, ← ih]
/-- alike weights: the mean is the harmonic sum -/
theorem Mq_ones (n : Nat) (h0 : 0 < n) : ∀ (k h : Nat), (lackW (List.replicate n 1) h).length = k → Mq (List.replicate n 1) h = Hq n k
  | 0, h, e => by rw [Mq_full (List.length_eq_zero_iff.mp e)]; rfl
  | k + 1, h, e => by
    have hp : ∀ w ∈ List.replicate n 1, 0 < w := fun w hw => by rw [(List.mem_replicate.mp hw).2]; decide
    have hL : lackW (List.replicate n 1) h ≠ [] := by intro z; rw [z] at e; simp at e
    have en := Mq_next hp h hL
    have eW : sm (lackW (List.replicate n 1) h) = k + 1 := by rw [lack_ones n h, sm_ones, e]
    have ed : dsum (List.replicate n 1) (fun i => if h.testBit i then 0 else Mq (List.replicate n 1) (h ||| 2 ^ i)) = dsum (List.replicate n 1) (fun i => Hq n k * (if h.testBit i then 0 else 1)) := by
      refine dsum_congr _ _ _ fun i hi => ?_
      by_cases b : h.testBit i = true
      · simp only [b, if_true]; grind
      · have hb : h.testBit i = false := by simpa using b
        rw [if_neg b, if_neg b, Mq_ones n h0 k (h ||| 2 ^ i) (by have := lack_bit _ h i hi hb; omega)]
        grind
    rw [ed, dsum_mul, dsum_lack, eW, sm_ones] at en
    have hk : ((k + 1 : Nat) : Rat) ≠ 0 := by
      intro z
      have : k + 1 = 0 := by exact_mod_cast z
      omega
    have hk2 : (n : Rat) / ((k + 1 : Nat) : Rat) * ((k + 1 : Nat) : Rat) = (n : Rat) := Rat.div_mul_cancel hk
    show _ = Hq n k + (n : Rat) / ((k + 1 : Nat) : Rat)
    have h3 : ((k + 1 : Nat) : Rat) * Mq (List.replicate n 1) h = ((k + 1 : Nat) : Rat) * (Hq n k + (n : Rat) / ((k + 1 : Nat) : Rat)) := by grind
    have h4 : ((k + 1 : Nat) : Rat) * (Mq (List.replicate n 1) h - (Hq n k + (n : Rat) / ((k + 1 : Nat) : Rat))) = 0 := by grind
    rcases Rat.mul_eq_zero.mp h4 with z | z
    · exact absurd z hk
    · grind
/-! ### best -/
theorem leq_val {a b : Frac} (ha : Red a) (hb : Red b) : leq a b = decide (val a ≤ val b) := by
  unfold leq
  obtain ⟨a1, a2⟩ := val_num ha
  obtain ⟨b1, b2⟩ := val_num hb
  rw [Bool.eq_iff_iff]
  simp only [decide_eq_true_eq]
  rw [Rat.le_iff, a1, a2, b1, b2]
end Ak

set_option linter.all false
namespace Ak
/-! ### last, by the table -/
/-- how likely the kind i of weight x comes last, with h had (none where it's had itself) -/
def Lq (l : List Nat) (i x h : Nat) : Rat := if h.testBit i then 0 else Lr x (lackW l (h ||| 2 ^ i))
theorem sm_bit : ∀ (l : List Nat) (h i x : Nat), l[i]? = some x → h.testBit i = false → sm (lackW l h) = sm (lackW l (h ||| 2 ^ i)) + x
  | [], h, i, x, hx, _ => by simp at hx
  | a :: l, h, 0, x, hx, hb => by
    have e : a = x := Option.some.inj hx
    subst e
    simp only [lackW, Nat.pow_zero, or_one_even, or_one_div, if_true, hb, Bool.false_eq_true, if_false, sm]
    omega
  | a :: l, h, i + 1, x, hx, hb => by
    have ih := sm_bit l (h / 2) i x hx (by rw [Nat.testBit_div_two]; exact hb)
    simp only [lackW, or_pow_succ_zero, or_pow_succ_div]
    split
    · exact ih
    · simp only [sm]; omega
theorem bit_or {h i j : Nat} (b : h.testBit j = true) : (h ||| 2 ^ i).testBit j = true := by rw [Nat.testBit_or, b]; rfl
theorem bit_self (h i : Nat) : (h ||| 2 ^ i).testBit i = true := by rw [Nat.testBit_or, Nat.testBit_two_pow]; simp
theorem bit_ne {h i j : Nat} (n : i ≠ j) : (h ||| 2 ^ i).testBit j = h.testBit j := by rw [Nat.testBit_or, Nat.testBit_two_pow]; simp [n]
theorem Lq_next {l : List Nat} (hp : ∀ w ∈ l, 0 < w) (h i x : Nat) (hx : l[i]? = some x) (hR : h.testBit i = false → lackW l (h ||| 2 ^ i) ≠ []) :
    (sm (lackW l h) : Rat) * Lq l i x h = Nx (Lq l i x) l h 0 := by
  unfold Nx
  by_cases b : h.testBit i = true
  · have e : dsum l (fun j => if h.testBit j then 0 else Lq l i x (h ||| 2 ^ j)) = dsum l (fun _ => 0) := by
      refine dsum_congr _ _ _ fun j _ => ?_
      have : Lq l i x (h ||| 2 ^ j) = 0 := by
        unfold Lq
        rw [if_pos (bit_or b)]
      rw [this]
      split <;> rfl
    rw [e, dsum_const]
    unfold Lq
    rw [if_pos b]
    push_cast
    grind
  · have hb : h.testBit i = false := by simpa using b
    have d := Lr_draw hp h i x hx (hR hb)
    have e : dsum l (fun j => if h.testBit j then 0 else Lq l i x (h ||| 2 ^ j)) = dsum l (fun j => if (h ||| 2 ^ i).testBit j then 0 else Lr x (lackW l (h ||| 2 ^ j ||| 2 ^ i))) := by
      refine dsum_congr _ _ _ fun j _ => ?_
      by_cases hj : i = j
      · subst hj
        rw [if_pos (bit_self h i), if_neg b]
        unfold Lq
        rw [if_pos (bit_self h i)]
      · rw [bit_ne hj]
        split
        · rfl
        · unfold Lq
          rw [bit_ne (Ne.symm hj), if_neg b]
    rw [e, d, sm_bit l h i x hx hb]
    unfold Lq
    rw [if_neg b]
    push_cast
    grind
theorem Lq_only {l : List Nat} {h i x : Nat} (hx : 0 < x) (hb : h.testBit i = false) (hR : lackW l (h ||| 2 ^ i) = []) : Lq l i x h = 1 := by
  unfold Lq
  rw [if_neg (by simp [hb]), hR, Lr_nil hx]
theorem Lq_had {l : List Nat} {h i x : Nat} (hb : h.testBit i = true) : Lq l i x h = 0 := by
  unfold Lq
  rw [if_pos hb]
theorem Lq_bounds {l : List Nat} (o : Ok l) (i x : Nat) (hx : l[i]? = some x) : ∀ (k h : Nat), (lackW l h).length = k → 0 ≤ Lq l i x h ∧ Lq l i x h ≤ 1
  | k, h, e => by
    have hx0 : 0 < x := o.pos x (List.mem_of_getElem? hx)
    by_cases b : h.testBit i = true
    · rw [Lq_had b]
      exact ⟨Rat.le_refl, by decide⟩
    · have hb : h.testBit i = false := by simpa using b
      by_cases hR : lackW l (h ||| 2 ^ i) = []
      · rw [Lq_only hx0 hb hR]
        exact ⟨by decide, Rat.le_refl⟩
      · have en := Lq_next o.pos h i x hx (fun _ => hR)
        have ih : ∀ j, j < l.length → h.testBit j = false → 0 ≤ Lq l i x (h ||| 2 ^ j) ∧ Lq l i x (h ||| 2 ^ j) ≤ 1 := fun j hj hbj =>
          Lq_bounds o i x hx (k - 1) (h ||| 2 ^ j) (by have := lack_bit l h j hj hbj; omega)
        unfold Nx at en
        have h1 : dsum l (fun j => if h.testBit j then 0 else Lq l i x (h ||| 2 ^ j)) ≤ dsum l (fun j => if h.testBit j then 0 else 1) := by
          refine dsum_le _ _ _ fun j hj => ?_
          by_cases hbj : h.testBit j = true
          · simp only [hbj, if_true]; exact Rat.le_refl
          · have := (ih j hj (by simpa using hbj)).2
            simp only [hbj, if_false]; exact this
        have h2 : dsum l (fun _ => 0) ≤ dsum l (fun j => if h.testBit j then 0 else Lq l i x (h ||| 2 ^ j)) := by
          refine dsum_le _ _ _ fun j hj => ?_
          by_cases hbj : h.testBit j = true
          · simp only [hbj, if_true]; exact Rat.le_refl
          · have := (ih j hj (by simpa using hbj)).1
            simp only [hbj, if_false]; exact this
        rw [dsum_lack] at h1
        rw [dsum_const] at h2
        have hi : i < l.length := (List.getElem?_eq_some_iff.mp hx).1
        have hpos : 0 < sm (lackW l h) := by
          have := sm_bit l h i x hx hb
          omega
        have hW0 : (0 : Rat) < (sm (lackW l h) : Rat) := by exact_mod_cast hpos
        push_cast at en
        constructor
        · refine Rat.le_of_mul_le_mul_left ?_ hW0
          rw [en]; grind
        · refine Rat.le_of_mul_le_mul_left ?_ hW0
          rw [en]; grind
termination_by k h e => k
decreasing_by
  have hk : 0 < (lackW l h).length := by
    have := lack_bit l h j hj hbj
    omega
  omega
/-! ### the mean falls -/
theorem Mq_mono {l : List Nat} (o : Ok l) (i x : Nat) (hx : l[i]? = some x) : ∀ (k h : Nat), (lackW l h).length = k → h.testBit i = false → Mq l (h ||| 2 ^ i) ≤ Mq l h
  | k, h, e, hb => by
    have hi : i < l.length := (List.getElem?_eq_some_iff.mp hx).1
    have hx0 : 0 < x := o.pos x (List.mem_of_getElem? hx)
    by_cases hR : lackW l (h ||| 2 ^ i) = []
    · rw [Mq_full hR]
      exact (Mq_720 o h).1
    · have hk := lack_bit l h i hi hb
      have hL : lackW l h ≠ [] := by intro z; rw [z] at hk; simp at hk
      have en := Mq_next o.pos h hL
      have en' := Mq_next o.pos (h ||| 2 ^ i) hR
      have ih : ∀ j, j < l.length → i ≠ j → h.testBit j = false → Mq l (h ||| 2 ^ i ||| 2 ^ j) ≤ Mq l (h ||| 2 ^ j) := fun j hj hij hbj => by
        have eo : h ||| 2 ^ i ||| 2 ^ j = h ||| 2 ^ j ||| 2 ^ i := by rw [Nat.or_assoc, Nat.or_comm (2 ^ i), ← Nat.or_assoc]
        rw [eo]
        exact Mq_mono o i x hx (k - 1) (h ||| 2 ^ j) (by have := lack_bit l h j hj hbj; omega) (by rw [bit_ne (Ne.symm hij)]; exact hb)
      have h1 : dsum l (fun j => (if (h ||| 2 ^ i).testBit j then 0 else Mq l (h ||| 2 ^ i ||| 2 ^ j)) + Mq l (h ||| 2 ^ i) * ((if h.testBit j then 0 else 1) + (-1 : Rat) * (if (h ||| 2 ^ i).testBit j then 0 else 1))) ≤ dsum l (fun j => if h.testBit j then 0 else Mq l (h ||| 2 ^ j)) := by
        refine dsum_le _ _ _ fun j hj => ?_
        by_cases hij : i = j
        · subst hij
          rw [if_pos (bit_self h i), if_pos (bit_self h i), if_neg (by simp [hb]), if_neg (by simp [hb])]
          grind
        · rw [bit_ne hij]
          by_cases hbj : h.testBit j = true
          · simp only [hbj, if_true]
            grind
          · have := ih j hj hij (by simpa using hbj)
            simp only [hbj, if_false]
            grind
      rw [dsum_add, dsum_mul, dsum_add, dsum_mul, dsum_lack, dsum_lack] at h1
      have hpos : 0 < sm (lackW l h) := by
        have := sm_bit l h i x hx hb
        omega
      have hW0 : (0 : Rat) < (sm (lackW l h) : Rat) := by exact_mod_cast hpos
      refine Rat.le_of_mul_le_mul_left ?_ hW0
      rw [en]
      grind
termination_by k h e hb => k
decreasing_by
  have hk : 0 < (lackW l h).length := by
    have := lack_bit l h j hj hbj
    omega
  omega
/-! ### the mean's number below is small -/
theorem T_den (B : Nat) (hB : 0 < B) : ∀ (L : List Nat) (f : Nat → Nat → Rat), (∀ k v, v ≤ sm L → (0 < k → 0 < v) → ∃ (d : Nat) (z : Int), 0 < d ∧ d ≤ B ∧ f k v * (d : Rat) = (z : Rat)) → (∀ w ∈ L, 0 < w) →
    ∃ (d : Nat) (z : Int), 0 < d ∧ d ≤ B ^ (2 ^ L.length) ∧ T L f * (d : Rat) = (z : Rat)
  | [], f, h, _ => by
    obtain ⟨d, z, h1, h2, h3⟩ := h 0 0 (Nat.le_refl _) (fun q => q)
    exact ⟨d, z, h1, by simpa using h2, h3⟩
  | w :: ws, f, h, hp => by
    have hw : 0 < w := hp w (List.mem_cons_self ..)
    obtain ⟨d1, z1, a1, a2, a3⟩ := T_den B hB ws f (fun k v hv q => h k v (by simp only [sm]; omega) q) (fun x hx => hp x (List.mem_cons_of_mem _ hx))
    obtain ⟨d2, z2, b1, b2, b3⟩ := T_den B hB ws (fun k v => f (k + 1) (v + w)) (fun k v hv q => h (k + 1) (v + w) (by simp only [sm]; omega) (fun _ => by omega)) (fun x hx => hp x (List.mem_cons_of_mem _ hx))
    refine ⟨d1 * d2, z1 * d2 + z2 * d1, Nat.mul_pos a1 b1, ?_, ?_⟩
    · have e : B ^ (2 ^ (w :: ws).length) = B ^ (2 ^ ws.length) * B ^ (2 ^ ws.length) := by
        rw [← Nat.pow_add, List.length_cons, Nat.pow_succ]
        congr 1
        omega
      rw [e]
      exact Nat.mul_le_mul a2 b2
    · simp only [T]
      push_cast
      rw [← a3, ← b3]
      grind
theorem Mq_den {l : List Nat} (o : Ok l) (h : Nat) : (Mq l h).den < 2 ^ 4000 := by
  have hp := lack_pos (h := h) o.pos
  have hs := Nat.le_trans (lack_le l h) o.sm120
  have hlen : (lackW l h).length ≤ 6 := Nat.le_trans (lack_len l h) o.len
  obtain ⟨d, z, h1, h2, h3⟩ := T_den 120 (by decide) (lackW l h) (fun k v => if k = 0 then 0 else - sgn k * ((sm l : Rat) / (v : Rat))) (fun k v hv q => by
    by_cases hk : k = 0
    · exact ⟨1, 0, by decide, by decide, by rw [if_pos hk]; grind⟩
    · have hv0 := q (by omega)
      have hne : (v : Rat) ≠ 0 := by
        intro e
        have : v = 0 := by exact_mod_cast e
        omega
      have e := Rat.div_mul_cancel (a := (sm l : Rat)) hne
      refine ⟨v, if k % 2 = 0 then -(sm l : Int) else (sm l : Int), hv0, by omega, ?_⟩
      rw [if_neg hk]
      unfold sgn
      split
      · push_cast; grind
      · push_cast; grind) hp
  have h4 : Mq l h * (d : Rat) = (z : Rat) := h3
  have hd : (d : Rat) ≠ 0 := by
    intro e
    have : d = 0 := by exact_mod_cast e
    omega
  have b := (Mq_720 o h).1
  have d0 : (0 : Rat) ≤ (d : Rat) := by exact_mod_cast Nat.zero_le _
  have hz : 0 ≤ z := by
    have : (0 : Rat) ≤ (z : Rat) := by
      rw [← h4]
      exact Rat.mul_nonneg b d0
    exact_mod_cast this
  have e5 : Mq l h = ((z.toNat : Nat) : Rat) / (d : Rat) := by
    have ez : (((z.toNat : Nat)) : Rat) = (z : Rat) := by
      have : ((z.toNat : Nat) : Int) = z := by omega
      exact_mod_cast this
    rw [ez, ← h4]
    exact (Rat.mul_div_cancel hd).symm
  rw [e5]
  refine Nat.lt_of_le_of_lt (den_le h1) (Nat.lt_of_le_of_lt h2 ?_)
  have h6 : 2 ^ (lackW l h).length ≤ 64 := Nat.pow_le_pow_right (n := 2) (by decide) hlen
  refine Nat.lt_of_le_of_lt (Nat.pow_le_pow_left (show 120 ≤ 2 ^ 7 by decide) _) ?_
  rw [← Nat.pow_mul]
  exact Nat.pow_lt_pow_right (by decide) (by omega)
/-! ### the lacking kinds -/
theorem lack_lks {l : List Nat} (h : Nat) : ∀ i, i ≤ l.length → (lks i h).map (fun j => l.getD j 0) = lackW (l.take i) h
  | 0, _ => by simp [lks, lackW]
  | i + 1, hi => by
    have ih := lack_lks (l := l) h i (by omega)
    have hn : l[i]? = some l[i] := List.getElem?_eq_getElem hi
    have hg : l.getD i 0 = l[i] := by rw [List.getD_eq_getElem?_getD, hn]; rfl
    rw [take_one hn, lackW_snoc, take_len hn, lks_succ, List.map_append, ih]
    congr 1
    split
    · rfl
    · show [l.getD i 0] = [l[i]]
      rw [hg]
theorem lack_map (l : List Nat) (h : Nat) : (lks l.length h).map (fun j => l.getD j 0) = lackW l h := by
  rw [lack_lks h _ (Nat.le_refl _), List.take_length]
/-- from one of two to the better, over a row -/
theorem fold_self {g : Nat → Nat → Nat} {c : Nat} {r : List Nat} (e : g c c = c) : (c :: r).foldl g c = r.foldl g c := by
  rw [List.foldl_cons, e]
def gBest (l : List Nat) (h b j : Nat) : Nat := if Mq l (h ||| 2 ^ j) < Mq l (h ||| 2 ^ b) then j else b
theorem gBest_self (l : List Nat) (h c : Nat) : gBest l h c c = c := by unfold gBest; split <;> rfl
theorem best_fold {l : List Nat} (hp : ∀ w ∈ l, 0 < w) (h : Nat) : ∀ (r : List Nat) (c : Nat), r.foldl (fun (b : Option Nat) (i : Nat) => match b with
  | none => some i
  | some j => if Kp292.leq (Kp292.worth l h j) (Kp292.worth l h i) then some j else some i) (some c) = some (r.foldl (gBest l h) c)
  | [], c => rfl
  | j :: r, c => by
    rw [List.foldl_cons, List.foldl_cons]
    have r1 := mean_red hp (h ||| 2 ^ c)
    have r2 := mean_red hp (h ||| 2 ^ j)
    have e : Kp292.leq (Kp292.worth l h c) (Kp292.worth l h j) = decide (Mq l (h ||| 2 ^ c) ≤ Mq l (h ||| 2 ^ j)) := by
      have := leq_val r1.1 r2.1
      rw [r1.2, r2.2] at this
      exact this
    have e2 : (if Kp292.leq (Kp292.worth l h c) (Kp292.worth l h j) then some c else some j) = some (gBest l h c j) := by
      rw [e]
      unfold gBest
      by_cases q : Mq l (h ||| 2 ^ c) ≤ Mq l (h ||| 2 ^ j)
      · rw [if_pos (by simpa using q), if_neg (by grind)]
      · rw [if_neg (by simpa using q), if_pos (by grind)]
    show List.foldl _ (if Kp292.leq (Kp292.worth l h c) (Kp292.worth l h j) then some c else some j) r = _
    rw [e2]
    exact best_fold hp h r _
theorem best_nil {l : List Nat} {h : Nat} (e : lks l.length h = []) : Kp292.best l h = none := by
  unfold Kp292.best
  show List.foldl _ none (lks l.length h) = none
  rw [e]
  rfl
theorem best_cons {l : List Nat} (hp : ∀ w ∈ l, 0 < w) {h c : Nat} {r : List Nat} (e : lks l.length h = c :: r) : Kp292.best l h = some ((lks l.length h).foldl (gBest l h) c) := by
  rw [e, fold_self (gBest_self l h c)]
  unfold Kp292.best
  show List.foldl _ none (lks l.length h) = _
  rw [e]
  exact best_fold hp h r c
def gRare (l : List Nat) (b j : Nat) : Nat := if l.getD j 0 < l.getD b 0 then j else b
theorem gRare_self (l : List Nat) (c : Nat) : gRare l c c = c := by unfold gRare; split <;> rfl
theorem fold_mem {g : Nat → Nat → Nat} (hg : ∀ b j, g b j = b ∨ g b j = j) : ∀ (r : List Nat) (c : Nat), r.foldl g c = c ∨ r.foldl g c ∈ r
  | [], c => .inl rfl
  | j :: r, c => by
    rw [List.foldl_cons]
    rcases fold_mem hg r (g c j) with e | e
    · rcases hg c j with q | q
      · exact .inl (by rw [e, q])
      · exact .inr (by rw [e, q]; exact List.mem_cons_self ..)
    · exact .inr (List.mem_cons_of_mem _ e)
end Ak

set_option Elab.async false
set_option linter.all false
set_option maxRecDepth 100000
set_option maxHeartbeats 2000000
namespace Ak
open PySem PySem.Spec PyProof.Rows L2
section
variable {P : Program} {w : World} {K : PySem.W.Frag} {mg : Str → Option Value} {base : Heap}
/-! ### less_by, is_below -/
theorem q_bits {q : Rat} (b1 : 0 ≤ q) (b3 : q ≤ 720) {e : Nat} (hd : q.den < 2 ^ e) (he : e ≤ 9000) : ∃ n : Nat, q.num = (n : Int) ∧ (n : Rat) = q * (q.den : Rat) ∧ Builtin.Int.intBits (n : Int) ≤ 60000000 ∧ Builtin.Int.intBits (q.den : Int) ≤ 60000000 := by
  obtain ⟨n, e1, e2, e3⟩ := q_num b1 b3
  refine ⟨n, e1, e2, ?_, nat_bits hd (by omega)⟩
  have h1 := pow_mul_lt (x := 720) (a := 10) (by decide) hd
  exact nat_bits (Nat.lt_of_le_of_lt e3 h1) (by omega)
def spLess (K : PySem.W.Frag) : Sp := fun vs H Q _ => ∃ (t u : Addr) (q r : Rat), vs = [.ref t, .ref u] ∧ SqT K H t (fr q) ∧ SqT K H u (fr r) ∧ 0 ≤ r ∧ r ≤ q ∧ q ≤ 720 ∧ q.den < 2 ^ 4000 ∧ r.den < 2 ^ 4000 ∧
  ∀ (H' : Hp) (p : Addr), Same H H' → H' p = some (.tup (fr (q - r))) → Q (.ref p) H'
theorem scLess : FnScope ["greater", "smaller"] ["greater", "smaller"] (defScope sLess) := ⟨rfl, rfl, rfl, by decide +kernel, rfl, by decide +kernel, by decide +kernel⟩
theorem ok_less {f : Addr} {fd : FuncData} (F : Fun K "less_by" "less_by" sLess f fd) (GL : Df P w K mg base "lowest" 2 ["above", "below"] spLow) : FnOk P w K mg base CX0 3 f fd ["greater", "smaller"] (spLess K) := by
  refine F.ok scLess (fun vs H Q E h => ?_) (fun cdv A outer s H vs Q E hr h => ?_)
  · obtain ⟨t, u, q, r, rfl, _⟩ := h
    rfl
  · obtain ⟨t, u, q, r, rfl, ht, hu, hr0, hrq, hq7, dq, dr, k⟩ := h
    refine ⟨_, pss_one (ps_ret (pe_df GL hr rfl (pa_cons (pe_op op_sub (pe_op op_mulB (pe_ix ix_tup (pv 0) pe_int (fun _ _ => rfl)) (pe_ix ix_tup (pv 1) pe_int (fun _ _ => rfl))) (pe_op op_mulB (pe_ix ix_tup (pv 1) pe_int (fun _ _ => rfl)) (pe_ix ix_tup (pv 0) pe_int (fun _ _ => rfl))))
      (pa_cons (pe_op op_mulB (pe_ix ix_tup (pv 0) pe_int (fun _ _ => rfl)) (pe_ix ix_tup (pv 1) pe_int (fun _ _ => rfl))) pa_nil)))), ?_⟩
    obtain ⟨n, n1, n2, n3, n4⟩ := q_bits (q := q) (by grind) hq7 dq (by decide)
    obtain ⟨m, m1, m2, m3, m4⟩ := q_bits (q := r) hr0 (by grind) dr (by decide)
    have fq : fr q = [.int (n : Int), .int (q.den : Int)] := by unfold fr; rw [n1]
    have fR : fr r = [.int (m : Int), .int (r.den : Int)] := by unfold fr; rw [m1]
    rw [fq] at ht
    rw [fR] at hu
    have hd0 : 0 < q.den := Nat.pos_of_ne_zero q.den_nz
    have he0 : 0 < r.den := Nat.pos_of_ne_zero r.den_nz
    generalize hd : q.den = d at *
    generalize he : r.den = e at *
    have hD : (d : Rat) ≠ 0 := by
      intro z
      have : d = 0 := by exact_mod_cast z
      omega
    have hE : (e : Rat) ≠ 0 := by
      intro z
      have : e = 0 := by exact_mod_cast z
      omega
    have hle : m * d ≤ n * e := by
      have h0 : (0 : Rat) ≤ (d : Rat) * (e : Rat) := Rat.mul_nonneg (by exact_mod_cast Nat.zero_le _) (by exact_mod_cast Nat.zero_le _)
      have h1 : r * ((d : Rat) * (e : Rat)) ≤ q * ((d : Rat) * (e : Rat)) := Rat.mul_le_mul_of_nonneg_right hrq h0
      have h2 : ((m * d : Nat) : Rat) ≤ ((n * e : Nat) : Rat) := by
        push_cast
        rw [n2, m2]
        grind
      exact_mod_cast h2
    have hb : 0 < d * e := Nat.mul_pos hd0 he0
    have hbl : (d * e).log2 < 9000 := (Nat.log2_lt (by omega)).mpr (pow_up (pow_mul_lt dq dr) (by decide))
    refine ⟨_, rfl, t, _, _, _, rfl, rfl, ht, rfl, _, rfl, u, _, _, _, rfl, rfl, hu, rfl, _, _, rfl, rfl, ⟨n3, m4⟩, _, rfl, u, _, _, _, rfl, rfl, hu, rfl, _, rfl, t, _, _, _, rfl, rfl, ht, rfl, _, _, rfl, rfl, ⟨m3, n4⟩, _, _, rfl, rfl, ?_⟩
    refine ⟨_, rfl, t, _, _, _, rfl, rfl, ht, rfl, _, rfl, u, _, _, _, rfl, rfl, hu, rfl, _, _, rfl, rfl, ⟨n4, m4⟩, n * e - m * d, d * e, ?_, hb, hbl, fun H' p s' hp => ?_⟩
    · rw [Int.natCast_sub hle, Int.natCast_mul, Int.natCast_mul, Int.natCast_mul]
      rfl
    · refine k H' p s' ?_
      have ev : ((n * e - m * d : Nat) : Rat) / ((d * e : Nat) : Rat) = q - r := by
        rw [cast_sub hle]
        push_cast
        rw [n2, m2]
        have h3 : (d : Rat) * (e : Rat) ≠ 0 := by
          intro z
          rcases Rat.mul_eq_zero.mp z with z | z
          · exact hD z
          · exact hE z
        rw [show q * (d : Rat) * (e : Rat) - r * (e : Rat) * (d : Rat) = (q - r) * ((d : Rat) * (e : Rat)) by grind]
        exact Rat.mul_div_cancel h3
      rw [ev] at hp
      exact hp
def spBelow (K : PySem.W.Frag) : Sp := fun vs H Q _ => ∃ (t u : Addr) (q r : Rat), vs = [.ref t, .ref u] ∧ SqT K H t (fr q) ∧ SqT K H u (fr r) ∧ 0 ≤ r ∧ r ≤ 720 ∧ 0 ≤ q ∧ q ≤ 720 ∧ q.den < 2 ^ 4000 ∧ r.den < 2 ^ 4000 ∧ Q (.bl (decide (q < r))) H
theorem scBelow : FnScope ["first", "second"] ["first", "second"] (defScope sBelow) := ⟨rfl, rfl, rfl, by decide +kernel, rfl, by decide +kernel, by decide +kernel⟩
theorem ok_below {f : Addr} {fd : FuncData} (F : Fun K "is_below" "is_below" sBelow f fd) : FnOk P w K mg base CX0 1 f fd ["first", "second"] (spBelow K) := by
  refine F.ok scBelow (fun vs H Q E h => ?_) (fun cdv A outer s H vs Q E hr h => ?_)
  · obtain ⟨t, u, q, r, rfl, _⟩ := h
    rfl
  · obtain ⟨t, u, q, r, rfl, ht, hu, hr0, hr7, hq0, hq7, dq, dr, k⟩ := h
    refine ⟨_, pss_one (ps_ret (pe_cmpR op_lt (pe_op op_mulB (pe_ix ix_tup (pv 0) pe_int (fun _ _ => rfl)) (pe_ix ix_tup (pv 1) pe_int (fun _ _ => rfl))) (pe_op op_mulB (pe_ix ix_tup (pv 1) pe_int (fun _ _ => rfl)) (pe_ix ix_tup (pv 0) pe_int (fun _ _ => rfl))) (nomark _))), ?_⟩
    obtain ⟨n, n1, n2, n3, n4⟩ := q_bits (q := q) hq0 hq7 dq (by decide)
    obtain ⟨m, m1, m2, m3, m4⟩ := q_bits (q := r) hr0 hr7 dr (by decide)
    rw [← n1] at n3
    rw [← m1] at m3
    unfold fr at ht hu
    refine ⟨_, rfl, t, _, _, _, rfl, rfl, ht, rfl, _, rfl, u, _, _, _, rfl, rfl, hu, rfl, _, _, rfl, rfl, ⟨n3, m4⟩, _, rfl, u, _, _, _, rfl, rfl, hu, rfl, _, rfl, t, _, _, _, rfl, rfl, ht, rfl, _, _, rfl, rfl, ⟨m3, n4⟩, _, _, rfl, rfl, ?_⟩
    have e : decide (q < r) = decide (q.num * (r.den : Int) < r.num * (q.den : Int)) := by
      rw [decide_eq_decide]
      exact Rat.lt_iff q r
    rw [e] at k
    exact k
/-! ### last_table -/
def spLastT (K : PySem.W.Frag) : Sp := fun vs H Q _ => ∃ (a : Addr) (i x : Nat) (l : List Nat), vs = [.ref a, .int i] ∧ SqL K H a (vz l) ∧ Ok l ∧ l[i]? = some x ∧
  ∀ (H' : Hp) (m : Addr) (ms : List V), Same H H' → H' m = some (.lst ms) → ms.length = 2 ^ l.length → (∀ j, j < 2 ^ l.length → AtV K (Lq l i x) l ms H' j) → Q (.ref m) H'
theorem scLastT : FnScope ["weights", "last", "everything", "likely", "only_last_lacking", "had"] ["weights", "last"] (defScope sLastT) := ⟨rfl, rfl, rfl, by decide +kernel, rfl, by decide +kernel, by decide +kernel⟩
theorem ok_lastT {f : Addr} {fd : FuncData} (F : Fun K "last_table" "last_table" sLastT f fd) (T : Own mg) (GB : Df P w K mg base "by_next_new" 3 ["weights", "had", "later", "start"] (spBy K)) :
    FnOk P w K mg base CX0 4 f fd ["weights", "last"] (spLastT K) := by
  refine F.ok scLastT (fun vs H Q E h => ?_) (fun cdv A outer s H vs Q E hr h => ?_)
  · obtain ⟨a, i, x, l, rfl, _⟩ := h
    rfl
  · obtain ⟨a, i0, x, l, rfl, ha, o, hx, k⟩ := h
    refine ⟨_, pss_cons (ps_set (i := 2) scLastT.nd rfl (Or.inl rfl) (pe_op op_sub (pe_op op_shl pe_int (pe_callB call_len_seq (by rfl) T.len PySem.boot_len (pa_cons (pv 0) pa_nil))) pe_int))
      (pss_cons (ps_set (i := 3) scLastT.nd rfl (Or.inl rfl) (pe_op op_rep (pe_lst (pa_cons (pe_tup (pa_cons pe_int (pa_cons pe_int pa_nil))) pa_nil)) (pe_op op_add (pv 2) pe_int)))
      (pss_cons (ps_set (i := 4) scLastT.nd rfl (Or.inl rfl) (pe_op op_sub (pv 2) (pe_op op_shl pe_int (pv 1))))
      (pss_cons (ps_asg (pe_tup (pa_cons pe_int (pa_cons pe_int pa_nil))) (pg_sub (pv 3) (pv 4) set_list))
      (pss_cons (ps_for PassesOwn.never rfl (pi_range3 rfl T.range (pa_cons (pe_op op_sub (pv 4) pe_int) (pa_cons (pe_un un_neg pe_int) (pa_cons (pe_un un_neg pe_int) pa_nil)))) (pg_name (i := 5) scLastT.nd rfl (Or.inl rfl))
        (pss_one (ps_asg (pe_df GB hr rfl (pa_cons (pv 0) (pa_cons (pv 5) (pa_cons (pv 3) (pa_cons pe_int pa_nil))))) (pg_sub (pv 3) (pv 5) set_list))))
      (pss_one (ps_ret (pv 3))))))), ?_⟩
    have hN6 := pow6 o
    have hN0 : 0 < 2 ^ l.length := Nat.pow_pos (by decide)
    have hl6 := o.len
    have hi0 : i0 < l.length := lt_of_at hx
    have hx0 : 0 < x := o.pos x (List.mem_of_getElem? hx)
    have hi1 : 0 < 2 ^ i0 := Nat.pow_pos (by decide)
    have hiN : 2 ^ i0 < 2 ^ l.length := Nat.pow_lt_pow_right (by decide) hi0
    obtain ⟨g0, hg0⟩ : ∃ g0, g0 + 2 ^ i0 + 1 = 2 ^ l.length := ⟨2 ^ l.length - (2 ^ i0 + 1), by omega⟩
    have hb0 : g0.testBit i0 = false := by
      have e : g0 = 2 ^ l.length - (2 ^ i0 + 1) := by omega
      rw [e, Nat.testBit_two_pow_sub_succ hiN, Nat.testBit_two_pow]
      simp
    have hf0 : lackW l (g0 ||| 2 ^ i0) = [] := by
      rw [← add_bit hb0, show g0 + 2 ^ i0 = 2 ^ l.length - 1 by omega]
      exact lack_full l
    have above : ∀ j, g0 < j → j < 2 ^ l.length → j.testBit i0 = true := fun j h1 h2 => by
      cases e : j.testBit i0 with
      | true => rfl
      | false =>
        have h3 := or_lt h2 hi0
        rw [← add_bit e] at h3
        omega
    refine ⟨_, rfl, a, _, rfl, .inl ha, _, _, rfl, rfl, ⟨by rw [vz_len]; omega, by rw [vz_len]; omega, by decide⟩, _, _, rfl, rfl, ?_⟩
    refine ⟨(by show 2 ≤ sizeLine; decide), fun t ht => ⟨(by show 1 ≤ sizeLine; decide), fun q hq => ?_⟩⟩
    refine ⟨_, rfl, _, _, rfl, rfl, q, _, _, rfl, rfl, upd_same, ?_⟩
    have ev : (1 : Int) * 2 ^ (((vz l).length : Nat) : Int).toNat - 1 + 1 = ((2 ^ l.length : Nat) : Int) := by rw [vz_len, shl_one]; omega
    rw [show (fun i j => V.int (i - j)) ((fun i j => (i * 2 ^ j.toNat : Int)) 1 (((vz l).length : Nat) : Int)) 1 = V.int (((2 ^ l.length : Nat) : Int) - 1) from by
      show V.int ((1 : Int) * 2 ^ (((vz l).length : Nat) : Int).toNat - 1) = _
      rw [vz_len, shl_one]]
    rw [ev]
    have hT : (((2 ^ l.length : Nat) : Int)).toNat = 2 ^ l.length := Int.toNat_natCast _
    rw [hT]
    refine ⟨by omega, by omega, (by show 1 * 2 ^ l.length ≤ sizeLine; have : sizeLine = 16777216 := rfl; omega), fun m hm => ?_⟩
    have hm1 : H m = none := same_free (same_new (same_new (same_refl H) ht) hq) hm
    have e1 : (List.replicate (2 ^ l.length) [V.ref t]).flatten = List.replicate (2 ^ l.length) (V.ref t) := flat_rep _ _
    rw [e1]
    generalize hH1 : upd (upd H t (HO.tup [V.int 0, V.int 1])) q (HO.lst [V.ref t]) = H1 at hm
    have s1 : Same H H1 := by rw [← hH1]; exact same_new (same_new (same_refl H) ht) hq
    have tt : SqT K H1 t (fr 0) := by
      rw [← hH1]
      exact sqT_new (SqT.of upd_same) hq
    have s2 : Same H (upd H1 m (.lst (List.replicate (2 ^ l.length) (V.ref t)))) := same_new s1 hm
    have tt2 : SqT K (upd H1 m (.lst (List.replicate (2 ^ l.length) (V.ref t)))) t (fr 0) := sqT_new tt hm
    have hm2 : (upd H1 m (.lst (List.replicate (2 ^ l.length) (V.ref t)))) m = some (.lst (List.replicate (2 ^ l.length) (V.ref t))) := upd_same
    generalize upd H1 m (.lst (List.replicate (2 ^ l.length) (V.ref t))) = H2 at s2 tt2 hm2
    have eo : ((2 ^ l.length : Nat) : Int) - 1 - 1 * 2 ^ ((i0 : Nat) : Int).toNat = (g0 : Int) := by rw [shl_one]; omega
    refine ⟨_, rfl, _, rfl, _, _, rfl, rfl, ⟨by omega, by omega, by decide⟩, _, _, rfl, rfl, ?_⟩
    rw [show (fun i j => V.int (i - j)) (((2 ^ l.length : Nat) : Int) - 1) ((fun i j => (i * 2 ^ j.toNat : Int)) 1 ((i0 : Nat) : Int)) = V.int (g0 : Int) from congrArg V.int eo]
    refine ⟨(by show 2 ≤ sizeLine; decide), fun t1 ht1 => ?_⟩
    have s3 : Same H2 (upd H2 t1 (.tup [.int 1, .int 1])) := same_new (same_refl H2) ht1
    have hm3 := s3 _ _ hm2
    have tt3 : SqT K (upd H2 t1 (.tup [.int 1, .int 1])) t (fr 0) := same_seqT s3 tt2
    have tu3 : SqT K (upd H2 t1 (.tup [.int 1, .int 1])) t1 (fr 1) := SqT.of upd_same
    have s4 : Same H (upd H2 t1 (.tup [.int 1, .int 1])) := s2.trans s3
    refine ⟨_, rfl, _, rfl, m, _, _, g0, rfl, rfl, hm3, (by unfold ixN; rw [if_pos (by omega), List.length_replicate, if_pos (by omega), Int.toNat_natCast]), ?_⟩
    generalize upd H2 t1 (.tup [.int 1, .int 1]) = H3 at hm3 tt3 tu3 s4
    refine ⟨_, rfl, _, _, rfl, rfl, _, rfl, _, rfl, _, _, _, _, rfl, RgC.neg (by omega) (by omega) (by omega) (by omega), for_rangeC (fun i σ H' => ∃ (v : Option V) (ms : List V),
      σ = [some (.ref a), some (.int (i0 : Int)), some (.int (((2 ^ l.length : Nat) : Int) - 1)), some (.ref m), some (.int (g0 : Int)), v] ∧ Same H H' ∧ H' m = some (.lst ms) ∧ ms.length = 2 ^ l.length ∧ ∀ j, g0 - i ≤ j → j < 2 ^ l.length → AtV K (Lq l i0 x) l ms H' j) ?_ ?_ ?_⟩
    · refine ⟨none, _, rfl, same_upd s4 hm1, upd_same, by rw [List.length_set, List.length_replicate], fun j h1 h2 => ?_⟩
      by_cases hj : j = g0
      · rw [hj]
        refine ⟨t1, ?_, ?_, ?_⟩
        · rw [List.getElem?_set_self (by rw [List.length_replicate]; omega)]
        · rw [Lq_only hx0 hb0 hf0]
          exact sqT_upd tu3 hm3
        · rw [Lq_only hx0 hb0 hf0]
          exact ⟨bnd_pos _, by decide, by decide⟩
      · have hb := above j (by omega) h2
        refine ⟨t, ?_, ?_, ?_⟩
        · rw [List.getElem?_set_ne (by omega), List.getElem?_replicate, if_pos h2]
        · rw [Lq_had hb]
          exact sqT_upd tt3 hm3
        · rw [Lq_had hb]
          exact ⟨bnd_pos _, Rat.le_refl, by decide⟩
    · rintro i σ H' hi ⟨v, ms, rfl, sm, hms, hlen, hA⟩
      obtain ⟨g, hg, eg⟩ : ∃ g : Nat, g + 1 + i = g0 ∧ (g0 : Int) - 1 + ((i : Nat) : Int) * (-1) = (g : Int) := by
        refine ⟨g0 - 1 - i, ?_, ?_⟩
        · omega
        · omega
      show gName 5 (V.int ((g0 : Int) - 1 + ((i : Nat) : Int) * (-1))) _ _ _
      rw [eg]
      have hgl : g < 2 ^ l.length := by omega
      have hL : lackW l g ≠ [] := fun z => by
        have := full_of l g hgl z
        omega
      have hR : g.testBit i0 = false → lackW l (g ||| 2 ^ i0) ≠ [] := fun b z => by
        have h3 := full_of l _ (or_lt hgl hi0) z
        rw [← add_bit b] at h3
        omega
      refine ⟨_, rfl, _, rfl, _, rfl, a, m, g, 0, l, ms, Lq l i0 x, rfl, sm.seq ha, o, by decide, hL, SqL.of hms, fun j hj hb => hA _ (by have := lt_or hb; omega) (or_lt hgl hj), fun H2 p q s3 hp hq hd => ?_⟩
      have eq : q = Lq l i0 x g := next_one o hL (hq.trans (Lq_next o.pos g i0 x hx hR).symm)
      subst eq
      have hm2 := s3 _ _ hms
      refine ⟨_, rfl, _, rfl, m, ms, _, g, rfl, rfl, hm2, (by unfold ixN; rw [if_pos (by omega), if_pos (by omega), Int.toNat_natCast]), ?_⟩
      refine ⟨_, _, rfl, same_upd (sm.trans s3) hm1, upd_same, by rw [List.length_set]; exact hlen, fun j h1 h2 => ?_⟩
      by_cases hjg : j = g
      · subst hjg
        obtain ⟨b1, b2⟩ := Lq_bounds o i0 x hx _ j rfl
        refine ⟨p, ?_, sqT_upd (SqT.of hp) hm2, hd, b1, by grind⟩
        rw [List.getElem?_set_self (by omega)]
      · obtain ⟨t2, g1, g2, g3⟩ := hA j (by omega) h2
        exact ⟨t2, by rw [List.getElem?_set_ne (Ne.symm hjg)]; exact g1, sqT_upd (same_seqT s3 g2) hm2, g3⟩
    · rintro σ H' ⟨v, ms, rfl, sm, hms, hlen, hA⟩
      refine ⟨_, rfl, ?_⟩
      exact k H' m ms sm hms hlen fun j hj => hA j (by omega) hj
end
end Ak

set_option Elab.async false
set_option linter.all false
set_option maxRecDepth 100000
set_option maxHeartbeats 2000000
namespace Ak
open PySem PySem.Spec PyProof.Rows L2
abbrev sRefL : Stmt := top 28
abbrev sRefN : Stmt := top 29
abbrev sBegin : Stmt := top 30
abbrev sKind : Stmt := top 31
abbrev sGot : Stmt := top 32
abbrev sLost : Stmt := top 33
abbrev sMean : Stmt := top 34
abbrev sFrom : Stmt := top 35
abbrev sAllby : Stmt := top 36
abbrev sAt : Stmt := top 37
abbrev sHalf : Stmt := top 38
abbrev sLast : Stmt := top 39
abbrev sWorth : Stmt := top 40
abbrev sBest : Stmt := top 41
abbrev sEven : Stmt := top 42
abbrev sNextC : Stmt := top 43
abbrev sLackC : Stmt := top 44
abbrev sRare : Stmt := top 45
abbrev sMore : Stmt := top 46
abbrev sToldC : Stmt := top 47
/-- the numbers that the text names -/
structure Cons (mg : Str → Option Value) : Prop where
  kinds : ∃ t, mg "MOST_KINDS" = some (.int 6 t)
  weight : ∃ t, mg "MOST_WEIGHT" = some (.int 20 t)
  draws : ∃ t, mg "MOST_DRAWS" = some (.int 20 t)
  c2 : ∃ t, mg "NO_SUCH_KIND" = some (.int (-2) t)
  c6 : ∃ t, mg "NONE_THERE" = some (.int (-6) t)
  c11 : ∃ t, mg "NOT_BEGUN" = some (.int (-11) t)
  c17 : ∃ t, mg "HAD_ALREADY" = some (.int (-17) t)
  c22 : ∃ t, mg "OUT_OF_BOUNDS" = some (.int (-22) t)
  c28 : ∃ t, mg "FULL" = some (.int (-28) t)
  c33 : ∃ t, mg "NOTHING_LACKING" = some (.int (-33) t)
  c0 : ∃ t, mg "NOT_REFUSED" = some (.int 0 t)
  begin_ : ∃ t, mg "BEGIN" = some (.int 0 t)
theorem pe_num {X : Cx} {x : Str} {i : Int} {pos : Pos} (h : ∃ t, X.mg x = some (.int i t)) (hg : Gl X x) (hd : (x == ("__debug__" : Str)) = false := by decide) : PE X (.Name x pos) (tC (.int i)) := by
  obtain ⟨t, h⟩ := h
  exact pe_glob hg h ⟨t, rfl⟩ hd
/-- what a call leaves behind -/
def Fin (C : Addr) (H : Hp) (a wl : Addr) (l : List Nat) (h : Nat) (ans : List Int) (Q : VK) : Prop :=
  ∀ (H' : Hp) (p wl' : Addr), AlbAt C H' a wl' l h → (∀ c o, H c = some o → c ≠ a → c ≠ wl → H' c = some o) → (wl' = wl ∨ H wl' = none) → H p = none → H' p = some (.lst (ans.map V.int)) → Q (.ref p) H'
/-- what the document's machine does with a call -/
def Goes (C : Addr) (H : Hp) (a wl : Addr) (l : List Nat) (h : Nat) (c : Kp292.Call) (Q : VK) : Prop :=
  ∀ l' h' ans, Kp292.step (some ⟨l, h⟩) c = (some ⟨l', h'⟩, ans) → Fin C H a wl l' h' (ans.num :: ans.nums) Q
theorem Fin.same {C : Addr} {H H' : Hp} {a wl p : Addr} {l : List Nat} {h : Nat} {ans : List Int} {Q : VK} (F : Fin C H a wl l h ans Q) (A : AlbAt C H a wl l h) (s : Same H H') (n : H p = none) (hp : H' p = some (.lst (ans.map V.int))) : Q (.ref p) H' :=
  F H' p wl (A.same s) (fun c o e _ _ => s c o e) (.inl rfl) n hp
/-- a refusal, or one number, told by a written list -/
theorem Fin.one {C : Addr} {H : Hp} {a wl p : Addr} {l : List Nat} {h : Nat} {z : Int} {Q : VK} (F : Fin C H a wl l h [z] Q) (A : AlbAt C H a wl l h) (hp : H p = none) : Q (.ref p) (upd H p (.lst [.int z])) :=
  F.same A (same_new (same_refl H) hp) hp upd_same
section
variable {P : Program} {w : World} {K : PySem.W.Frag} {mg : Str → Option Value} {base : Heap}
def spOne (C : Addr) (c : Kp292.Call) : Sp := fun vs H Q _ => ∃ (a wl : Addr) (l : List Nat) (h : Nat), vs = [.ref a] ∧ AlbAt C H a wl l h ∧ Goes C H a wl l h c Q
def spTwo (C : Addr) (c : Nat → Kp292.Call) : Sp := fun vs H Q _ => ∃ (a wl : Addr) (l : List Nat) (h x : Nat), vs = [.ref a, .int x] ∧ AlbAt C H a wl l h ∧ Goes C H a wl l h (c x) Q
/-! ### begin -/
def spBegin (C : Addr) : Sp := fun vs H Q _ => ∃ (a dx wl : Addr) (b : Bool) (h : Nat), vs = [.ref a] ∧ H a = some (.ins C dx (af b wl h)) ∧ Fin C H a wl [] 0 [0] Q
theorem ok_nil : Ok [] := ⟨fun _ h => absurd h (by simp), fun _ h => absurd h (by simp), by decide⟩
theorem scBegin : FnScope ["album"] ["album"] (defScope sBegin) := ⟨rfl, rfl, rfl, by decide +kernel, rfl, by decide +kernel, by decide +kernel⟩
theorem ok_begin {f C : Addr} {fd : FuncData} (F : Fun K "call_begin" "call_begin" sBegin f fd) (T : Txt K mg C) : FnOk P w K mg base CX0 1 f fd ["album"] (spBegin C) := by
  refine F.ok scBegin (fun vs H Q E h => ?_) (fun cdv A outer s H vs Q E hr h => ?_)
  · obtain ⟨a, dx, wl, b, h, rfl, _⟩ := h
    rfl
  · obtain ⟨a, dx, wl, b, h, rfl, hI, k⟩ := h
    refine ⟨_, pss_cons (ps_fld (pv 0) pe_bl rfl) (pss_cons (ps_fld (pv 0) (pe_lst pa_nil) rfl) (pss_cons (ps_fld (pv 0) pe_int rfl) (pss_one (ps_ret (pe_lst (pa_cons pe_int pa_nil)))))), ?_⟩
    refine ⟨_, rfl, a, C, dx, _, rfl, hI, T.cl, T.nB, (by show 3 < 1000; decide), ?_⟩
    rw [af_put_begun]
    refine ⟨Nat.zero_le _, fun q hq => ?_⟩
    have hqa : q ≠ a := Ne.symm (ne_of_none upd_same hq)
    have hqH : H q = none := by rw [upd_ne hqa] at hq; exact hq
    refine ⟨_, rfl, a, C, dx, _, rfl, (by rw [upd_ne (Ne.symm hqa)]; exact upd_same), T.cl, T.nW, (by show 3 < 1000; decide), ?_⟩
    rw [af_put_weights]
    refine ⟨_, rfl, a, C, dx, _, rfl, upd_same, T.cl, T.nH, (by show 3 < 1000; decide), ?_⟩
    rw [show putF "had" (V.int 0) (af true q h) = af true q 0 from af_put_had true q h 0]
    refine ⟨(by show 1 ≤ sizeLine; decide), fun p hp => ?_⟩
    have hpa : p ≠ a := Ne.symm (ne_of_none upd_same hp)
    have hpq : p ≠ q := Ne.symm (ne_of_none (by rw [upd_ne hqa, upd_ne hqa]; exact upd_same) hp)
    have hpH : H p = none := by
      rw [upd_ne hpa, upd_ne hpa, upd_ne hpq, upd_ne hpa] at hp
      exact hp
    refine k _ p q ⟨⟨dx, by rw [upd_ne (Ne.symm hpa)]; exact upd_same⟩, ?_, ok_nil, by decide⟩ (fun c o e hca _ => ?_) (.inr hqH) hpH upd_same
    · rw [upd_ne (Ne.symm hpq), upd_ne hqa, upd_ne hqa]
      exact upd_same
    · rw [upd_ne (ne_of_none e hpH), upd_ne hca, upd_ne hca, upd_ne (ne_of_none e hqH), upd_ne hca]
      exact e
/-! ### the refusals -/
def refL (l : List Nat) (h x : Nat) : Int := if l.length ≤ x then -2 else if h.testBit x then -17 else 0
def refN (l : List Nat) (x : Nat) : Int := if Kp291.okW x = false then -22 else if 6 ≤ l.length then -28 else 0
theorem okW_no {x : Nat} : Kp291.okW x = false ↔ (x < 1 ∨ 20 < x) := by
  unfold Kp291.okW
  simp
  omega
theorem refN_no {l : List Nat} {x : Nat} (e : refN l x ≠ 0) (h : Nat) : Kp292.step (some ⟨l, h⟩) (.kind x) = (some ⟨l, h⟩, Kp292.say (refN l x)) ∧ Kp292.step (some ⟨l, h⟩) (.more x) = (some ⟨l, h⟩, Kp292.say (refN l x)) := by
  have st : Kp292.step (some ⟨l, h⟩) (.kind x) = (if Kp291.okW x = false then (some ⟨l, h⟩, Kp292.say (-22)) else if 6 ≤ l.length then (some ⟨l, h⟩, Kp292.say (-28)) else (some ⟨l ++ [x], h⟩, Kp292.say (l.length : Int))) := rfl
  have st2 : Kp292.step (some ⟨l, h⟩) (.more x) = (some ⟨l, h⟩, if Kp291.okW x = false then Kp292.say (-22) else if 6 ≤ l.length then Kp292.say (-28) else Kp292.tellF (Kp292.mean (l ++ [x]) h)) := rfl
  rw [st, st2]
  unfold refN at e ⊢
  by_cases h1 : Kp291.okW x = false
  · simp only [if_pos h1, and_self]
  · by_cases h2 : 6 ≤ l.length
    · simp only [if_neg h1, if_pos h2, and_self]
    · rw [if_neg h1, if_neg h2] at e
      exact absurd rfl e
theorem refN_ok {l : List Nat} {x : Nat} (e : refN l x = 0) : ¬ Kp291.okW x = false ∧ ¬ 6 ≤ l.length := by
  unfold refN at e
  by_cases h1 : Kp291.okW x = false
  · rw [if_pos h1] at e
    cases e
  · by_cases h2 : 6 ≤ l.length
    · rw [if_neg h1, if_pos h2] at e
      cases e
    · exact ⟨h1, h2⟩
theorem is_no {l : List Nat} {h x : Nat} : (Kp292.is ⟨l, h⟩ x = false) = (l.length ≤ x) := by
  unfold Kp292.is
  simp
theorem refL_no {l : List Nat} {h x : Nat} (e : refL l h x ≠ 0) : Kp292.step (some ⟨l, h⟩) (.got x) = (some ⟨l, h⟩, Kp292.say (refL l h x)) ∧ Kp292.step (some ⟨l, h⟩) (.last x) = (some ⟨l, h⟩, Kp292.say (refL l h x)) ∧ Kp292.step (some ⟨l, h⟩) (.worth x) = (some ⟨l, h⟩, Kp292.say (refL l h x)) := by
  have st : Kp292.step (some ⟨l, h⟩) (.got x) = (if Kp292.is ⟨l, h⟩ x = false then (some ⟨l, h⟩, Kp292.say (-2)) else if Nat.testBit h x then (some ⟨l, h⟩, Kp292.say (-17)) else (some ⟨l, h + 2 ^ x⟩, Kp292.say (Kp292.size l (Kp292.lacking l (h + 2 ^ x)) : Int))) := rfl
  have st2 : Kp292.step (some ⟨l, h⟩) (.last x) = (some ⟨l, h⟩, if Kp292.is ⟨l, h⟩ x = false then Kp292.say (-2) else if Nat.testBit h x then Kp292.say (-17) else Kp292.tellF (Kp292.lastIs l h x)) := rfl
  have st3 : Kp292.step (some ⟨l, h⟩) (.worth x) = (some ⟨l, h⟩, if Kp292.is ⟨l, h⟩ x = false then Kp292.say (-2) else if Nat.testBit h x then Kp292.say (-17) else Kp292.tellF (Kp292.add (Kp292.mean l h) (Kp292.neg (Kp292.worth l h x)))) := rfl
  rw [st, st2, st3]
  simp only [is_no]
  unfold refL at e ⊢
  by_cases h1 : l.length ≤ x
  · simp only [if_pos h1, and_self]
  · by_cases h2 : h.testBit x = true
    · simp only [if_neg h1, if_pos h2, and_self]
    · rw [if_neg h1, if_neg h2] at e
      exact absurd rfl e
theorem refL_ok {l : List Nat} {h x : Nat} (e : refL l h x = 0) : x < l.length ∧ h.testBit x = false := by
  unfold refL at e
  by_cases h1 : l.length ≤ x
  · rw [if_pos h1] at e
    cases e
  · by_cases h2 : h.testBit x = true
    · rw [if_neg h1, if_pos h2] at e
      cases e
    · exact ⟨by omega, by simpa using h2⟩
def spRefL (C : Addr) : Sp := fun vs H Q _ => ∃ (a wl : Addr) (l : List Nat) (h x : Nat), vs = [.ref a, .int x] ∧ AlbAt C H a wl l h ∧ Q (.int (refL l h x)) H
def spRefN (C : Addr) : Sp := fun vs H Q _ => ∃ (a wl : Addr) (l : List Nat) (h x : Nat), vs = [.ref a, .int x] ∧ AlbAt C H a wl l h ∧ Q (.int (refN l x)) H
theorem scRefL : FnScope ["album", "kind"] ["album", "kind"] (defScope sRefL) := ⟨rfl, rfl, rfl, by decide +kernel, rfl, by decide +kernel, by decide +kernel⟩
theorem scRefN : FnScope ["album", "weight"] ["album", "weight"] (defScope sRefN) := ⟨rfl, rfl, rfl, by decide +kernel, rfl, by decide +kernel, by decide +kernel⟩
theorem ok_refL {f C : Addr} {fd : FuncData} (F : Fun K "refusal_of_lacking" "refusal_of_lacking" sRefL f fd) (T : Txt K mg C) (N : Cons mg) (GH : Df P w K mg base "is_had" 1 ["had", "kind"] spHad) : FnOk P w K mg base CX0 2 f fd ["album", "kind"] (spRefL C) := by
  refine F.ok scRefL (fun vs H Q E h => ?_) (fun cdv A outer s H vs Q E hr h => ?_)
  · obtain ⟨a, wl, l, h, x, rfl, _⟩ := h
    rfl
  · obtain ⟨a, wl, l, h, x, rfl, hA, k⟩ := h
    obtain ⟨dx, hI⟩ := hA.ins
    refine ⟨_, pss_cons (ps_if (pt_cmpR op_ge (pv 1) (pe_callB call_len_seq (by rfl) T.own.len PySem.boot_len (pa_cons (pe_fld (pv 0) rfl) pa_nil)) (nomark _))
        (pss_one (ps_ret (pe_num N.c2 rfl))) pss_nil)
      (pss_cons (ps_if (pt_val (pe_df GH hr rfl (pa_cons (pe_fld (pv 0) rfl) (pa_cons (pv 1) pa_nil))))
        (pss_one (ps_ret (pe_num N.c17 rfl))) pss_nil)
      (pss_one (ps_ret (pe_num N.c0 rfl)))), ?_⟩
    have l6 := hA.ok.len
    refine ⟨_, rfl, _, rfl, a, C, dx, _, _, rfl, hI, T.cl, T.nW, af_weights _ _ _, wl, _, rfl, .inl (SqL.of hA.lst), _, _, rfl, rfl, _, rfl, ite2 (fun e => ?_) (fun e => ?_)⟩
    · have e' : l.length ≤ x := by
        have : (((vz l).length : Nat) : Int) ≤ (x : Int) := by simpa using e
        rw [vz_len] at this
        omega
      unfold refL at k
      rw [if_pos e'] at k
      exact k
    · have e' : x < l.length := by
        have : ¬ (((vz l).length : Nat) : Int) ≤ (x : Int) := by simpa using e
        rw [vz_len] at this
        omega
      unfold refL at k
      rw [if_neg (by omega)] at k
      refine ⟨_, rfl, a, C, dx, _, _, rfl, hI, T.cl, T.nH, af_had _ _ _, _, rfl, h, x, rfl, by omega, _, rfl, ?_⟩
      cases hb : h.testBit x with
      | true =>
        rw [if_pos hb] at k
        exact iteT k
      | false =>
        rw [if_neg (by simp [hb])] at k
        exact iteF k
theorem ok_refN {f C : Addr} {fd : FuncData} (F : Fun K "refusal_of_new" "refusal_of_new" sRefN f fd) (T : Txt K mg C) (N : Cons mg) : FnOk P w K mg base CX0 1 f fd ["album", "weight"] (spRefN C) := by
  refine F.ok scRefN (fun vs H Q E h => ?_) (fun cdv A outer s H vs Q E hr h => ?_)
  · obtain ⟨a, wl, l, h, x, rfl, _⟩ := h
    rfl
  · obtain ⟨a, wl, l, h, x, rfl, hA, k⟩ := h
    obtain ⟨dx, hI⟩ := hA.ins
    refine ⟨_, pss_cons (ps_if (PW.pt (pw_or (pt_cmpR op_lt (pv 1) pe_int (nomark _)) (pw_or1 (pt_cmpR op_gt (pv 1) (pe_num N.weight rfl) (nomark _)))))
        (pss_one (ps_ret (pe_num N.c22 rfl))) pss_nil)
      (pss_cons (ps_if (pt_cmpR op_eq (pe_callB call_len_seq (by rfl) T.own.len PySem.boot_len (pa_cons (pe_fld (pv 0) rfl) pa_nil)) (pe_num N.kinds rfl) (nomark _))
        (pss_one (ps_ret (pe_num N.c28 rfl))) pss_nil)
      (pss_one (ps_ret (pe_num N.c0 rfl)))), ?_⟩
    have l6 := hA.ok.len
    unfold refN at k
    refine ⟨_, rfl, _, _, rfl, rfl, _, rfl, ite2 (fun e => ?_) (fun e => ?_)⟩
    · have e' : (x : Int) < 1 := by simpa using e
      rw [if_pos (okW_no.mpr (.inl (by omega)))] at k
      exact iteT k
    · have e' : ¬ (x : Int) < 1 := by simpa using e
      refine ⟨_, rfl, _, _, rfl, rfl, _, rfl, ite2 (fun e2 => ?_) (fun e2 => ?_)⟩
      · have e2' : (20 : Int) < (x : Int) := by simpa using e2
        rw [if_pos (okW_no.mpr (.inr (by omega)))] at k
        exact k
      · have e2' : ¬ (20 : Int) < (x : Int) := by simpa using e2
        rw [if_neg (fun z => by have := okW_no.mp z; omega)] at k
        refine ⟨_, rfl, a, C, dx, _, _, rfl, hI, T.cl, T.nW, af_weights _ _ _, wl, _, rfl, .inl (SqL.of hA.lst), rfl, _, rfl, ?_⟩
        rw [dec_int, vz_len]
        refine ite2 (fun e3 => ?_) (fun e3 => ?_)
        · have e3' : ((l.length : Nat) : Int) = 6 := by simpa using e3
          rw [if_pos (by omega)] at k
          exact k
        · have e3' : ¬ ((l.length : Nat) : Int) = 6 := by simpa using e3
          rw [if_neg (by omega)] at k
          exact k
theorem ok_snoc {l : List Nat} {x : Nat} (o : Ok l) (h : refN l x = 0) : Ok (l ++ [x]) := by
  obtain ⟨h1, h2⟩ := refN_ok h
  have h3 : ¬ (x < 1 ∨ 20 < x) := fun z => h1 (okW_no.mpr z)
  refine ⟨fun y hy => ?_, fun y hy => ?_, by rw [List.length_append]; show l.length + 1 ≤ 6; omega⟩
  · rcases List.mem_append.mp hy with hy | hy
    · exact o.pos y hy
    · rw [List.mem_singleton.mp hy]; omega
  · rcases List.mem_append.mp hy with hy | hy
    · exact o.top y hy
    · rw [List.mem_singleton.mp hy]; omega
/-! ### kind -/
theorem scKind : FnScope ["album", "weight", "refusal"] ["album", "weight"] (defScope sKind) := ⟨rfl, rfl, rfl, by decide +kernel, rfl, by decide +kernel, by decide +kernel⟩
theorem ok_kind {f C : Addr} {fd : FuncData} (F : Fun K "call_kind" "call_kind" sKind f fd) (T : Txt K mg C) (N : Cons mg) (GN : Df P w K mg base "refusal_of_new" 1 ["album", "weight"] (spRefN C)) : FnOk P w K mg base CX0 2 f fd ["album", "weight"] (spTwo C .kind) := by
  refine F.ok scKind (fun vs H Q E h => ?_) (fun cdv A outer s H vs Q E hr h => ?_)
  · obtain ⟨a, wl, l, h, x, rfl, _⟩ := h
    rfl
  · obtain ⟨a, wl, l, h, x, rfl, hA, k⟩ := h
    obtain ⟨dx, hI⟩ := hA.ins
    refine ⟨_, pss_cons (ps_set (i := 2) scKind.nd rfl (Or.inl rfl) (pe_df GN hr rfl (pa_cons (pv 0) (pa_cons (pv 1) pa_nil))))
      (pss_cons (ps_if (pt_cmpR op_ne (pv 2) (pe_num N.c0 rfl) (nomark _)) (pss_one (ps_ret (pe_lst (pa_cons (pv 2) pa_nil)))) pss_nil)
      (pss_cons (ps_expr (pe_bm PySem.F.plainAttrs_list PySem.F.slot_list_append PySem.F.type_list_append mt_append (pe_fld (pv 0) rfl) (pa_cons (pv 1) pa_nil)))
      (pss_one (ps_ret (pe_lst (pa_cons (pe_op op_sub (pe_callB call_len_seq (by rfl) T.own.len PySem.boot_len (pa_cons (pe_fld (pv 0) rfl) pa_nil)) pe_int) pa_nil)))))), ?_⟩
    have l6 := hA.ok.len
    refine ⟨_, rfl, _, rfl, a, wl, l, h, x, rfl, hA, ?_⟩
    refine ⟨_, rfl, rfl, _, rfl, ?_⟩
    rw [dec_int]
    refine ite2 (fun e => ?_) (fun e => ?_)
    · have e' : refN l x ≠ 0 := by simpa using e
      exact ⟨_, rfl, (by show 1 ≤ sizeLine; decide), fun p hp => (k _ _ _ (refN_no e' h).1).one hA hp⟩
    · have e' : refN l x = 0 := by simpa using e
      obtain ⟨h1, h2⟩ := refN_ok e'
      have st : Kp292.step (some ⟨l, h⟩) (.kind x) = (if Kp291.okW x = false then (some ⟨l, h⟩, Kp292.say (-22)) else if 6 ≤ l.length then (some ⟨l, h⟩, Kp292.say (-28)) else (some ⟨l ++ [x], h⟩, Kp292.say (l.length : Int))) := rfl
      rw [if_neg h1, if_neg h2] at st
      have hwa : wl ≠ a := ne_of hA.lst hI (by intro z; cases z)
      refine ⟨_, rfl, a, C, dx, _, _, rfl, hI, T.cl, T.nW, af_weights _ _ _, .inl ⟨rfl, _, SqL.of hA.lst⟩, _, rfl, wl, _, _, rfl, rfl, hA.lst, (by rw [vz_len]; have : sizeLine = 16777216 := rfl; omega), ?_⟩
      have e4 : vz l ++ [V.int (x : Int)] = vz (l ++ [x]) := by simp [vz, zs]
      rw [e4]
      refine ⟨_, rfl, a, C, dx, _, _, rfl, (by rw [upd_ne (Ne.symm hwa)]; exact hI), T.cl, T.nW, af_weights _ _ _, wl, _, rfl, .inl (SqL.of upd_same), _, _, rfl, rfl, (by show 1 ≤ sizeLine; decide), fun p hp => ?_⟩
      have hpw : p ≠ wl := Ne.symm (ne_of_none upd_same hp)
      have hpa : p ≠ a := Ne.symm (ne_of_none (by rw [upd_ne (Ne.symm hwa)]; exact hI) hp)
      have hpH : H p = none := by rw [upd_ne hpw] at hp; exact hp
      refine k _ _ _ st _ p wl ⟨⟨dx, by rw [upd_ne (Ne.symm hpa), upd_ne (Ne.symm hwa)]; exact hI⟩, by rw [upd_ne (Ne.symm hpw)]; exact upd_same, ok_snoc hA.ok e', ?_⟩ (fun c o e hca hcw => by rw [upd_ne (ne_of_none e hpH), upd_ne hcw]; exact e) (.inl rfl) hpH ?_
      · rw [List.length_append]
        exact Nat.lt_of_lt_of_le hA.had (Nat.pow_le_pow_right (by decide) (Nat.le_add_right _ _))
      · rw [upd_same, vz_len, List.length_append]
        show some (HO.lst [V.int (((l.length + 1 : Nat) : Int) - 1)]) = some (HO.lst [V.int (l.length : Int)])
        rw [show ((l.length + 1 : Nat) : Int) - 1 = (l.length : Int) by omega]
end
end Ak

set_option Elab.async false
set_option linter.all false
set_option maxRecDepth 100000
set_option maxHeartbeats 2000000
namespace Ak
open PySem PySem.Spec PyProof.Rows L2
section
variable {P : Program} {w : World} {K : PySem.W.Frag} {mg : Str → Option Value} {base : Heap}
theorem scGot : FnScope ["album", "kind", "refusal"] ["album", "kind"] (defScope sGot) := ⟨rfl, rfl, rfl, by decide +kernel, rfl, by decide +kernel, by decide +kernel⟩
/-- the album with another number for what's had -/
theorem AlbAt.putHad {C : Addr} {H : Hp} {a wl dx : Addr} {l : List Nat} {h h' : Nat} (A : AlbAt C H a wl l h) (hI : H a = some (.ins C dx (af true wl h))) (hh : h' < 2 ^ l.length) : AlbAt C (upd H a (.ins C dx (af true wl h'))) a wl l h' :=
  ⟨⟨dx, upd_same⟩, by rw [upd_ne (ne_of A.lst hI (by intro z; cases z))]; exact A.lst, A.ok, hh⟩
theorem ok_got {f C : Addr} {fd : FuncData} (F : Fun K "call_got" "call_got" sGot f fd) (T : Txt K mg C) (N : Cons mg) (GR : Df P w K mg base "refusal_of_lacking" 2 ["album", "kind"] (spRefL C)) (GW : Df P w K mg base "with_kind" 1 ["had", "kind"] spWith) (GC : Df P w K mg base "lacking_kinds" 2 ["album"] (spLacks C)) :
    FnOk P w K mg base CX0 3 f fd ["album", "kind"] (spTwo C .got) := by
  refine F.ok scGot (fun vs H Q E h => ?_) (fun cdv A outer s H vs Q E hr h => ?_)
  · obtain ⟨a, wl, l, h, x, rfl, _⟩ := h
    rfl
  · obtain ⟨a, wl, l, h, x, rfl, hA, k⟩ := h
    obtain ⟨dx, hI⟩ := hA.ins
    have hr1 : Room 1 _ := hr.mono (by decide)
    refine ⟨_, pss_cons (ps_set (i := 2) scGot.nd rfl (Or.inl rfl) (pe_df GR hr rfl (pa_cons (pv 0) (pa_cons (pv 1) pa_nil))))
      (pss_cons (ps_if (pt_cmpR op_ne (pv 2) (pe_num N.c0 rfl) (nomark _)) (pss_one (ps_ret (pe_lst (pa_cons (pv 2) pa_nil)))) pss_nil)
      (pss_cons (ps_fld (pv 0) (pe_df GW hr1 rfl (pa_cons (pe_fld (pv 0) rfl) (pa_cons (pv 1) pa_nil))) rfl)
      (pss_one (ps_ret (pe_lst (pa_cons (pe_callB call_len_seq (by rfl) T.own.len PySem.boot_len (pa_cons (pe_df GC hr rfl (pa_cons (pv 0) pa_nil)) pa_nil)) pa_nil)))))), ?_⟩
    have st : Kp292.step (some ⟨l, h⟩) (.got x) = (if Kp292.is ⟨l, h⟩ x = false then (some ⟨l, h⟩, Kp292.say (-2)) else if Nat.testBit h x then (some ⟨l, h⟩, Kp292.say (-17)) else (some ⟨l, h + 2 ^ x⟩, Kp292.say (Kp292.size l (Kp292.lacking l (h + 2 ^ x)) : Int))) := rfl
    have l6 := hA.ok.len
    refine ⟨_, rfl, _, rfl, a, wl, l, h, x, rfl, hA, ?_⟩
    refine ⟨_, rfl, rfl, _, rfl, ?_⟩
    rw [dec_int]
    refine ite2 (fun e => ?_) (fun e => ?_)
    · have e' : refL l h x ≠ 0 := by simpa using e
      exact ⟨_, rfl, (by show 1 ≤ sizeLine; decide), fun p hp => (k _ _ _ (refL_no e').1).one hA hp⟩
    · have e' : refL l h x = 0 := by simpa using e
      obtain ⟨hx, hb⟩ := refL_ok e'
      rw [if_neg (show ¬ Kp292.is ⟨l, h⟩ x = false by rw [is_no]; omega), if_neg (by simp [hb])] at st
      have hh : h + 2 ^ x < 2 ^ l.length := by rw [add_bit hb]; exact or_lt hA.had hx
      refine ⟨_, rfl, a, C, dx, _, _, rfl, hI, T.cl, T.nH, af_had _ _ _, _, rfl, h, x, rfl, by omega, _, rfl, a, C, dx, _, rfl, hI, T.cl, T.nH, (by show 3 < 1000; decide), ?_⟩
      rw [af_put_had]
      have hA2 := hA.putHad hI hh
      refine ⟨_, rfl, a, wl, l, h + 2 ^ x, rfl, hA2, fun H' q sm nq hq => ⟨q, _, rfl, .inl (SqL.of hq), (by show 1 ≤ sizeLine; decide), fun p hp => ?_⟩⟩
      have hpH : H p = none := by
        have h1 : upd H a (.ins C dx (af true wl (h + 2 ^ x))) p = none := same_free sm hp
        rw [upd_ne (Ne.symm (ne_of_none upd_same h1))] at h1
        exact h1
      have s2 := same_new (o := .lst [.int ((vz (lks l.length (h + 2 ^ x))).length : Nat)]) sm hp
      refine k _ _ _ st _ p wl (hA2.same s2) (fun c o e hca _ => s2 c o (by rw [upd_ne hca]; exact e)) (.inl rfl) hpH ?_
      rw [upd_same, vz_len, lks_length]
      show _ = some (HO.lst [V.int (Kp292.size l (Kp292.lacking l (h + 2 ^ x)) : Int)])
      rw [size_lack]
theorem scLost : FnScope ["album", "kind"] ["album", "kind"] (defScope sLost) := ⟨rfl, rfl, rfl, by decide +kernel, rfl, by decide +kernel, by decide +kernel⟩
theorem ok_lost {f C : Addr} {fd : FuncData} (F : Fun K "call_lost" "call_lost" sLost f fd) (T : Txt K mg C) (N : Cons mg) (GH : Df P w K mg base "is_had" 1 ["had", "kind"] spHad) (GC : Df P w K mg base "lacking_kinds" 2 ["album"] (spLacks C)) :
    FnOk P w K mg base CX0 3 f fd ["album", "kind"] (spTwo C .lost) := by
  refine F.ok scLost (fun vs H Q E h => ?_) (fun cdv A outer s H vs Q E hr h => ?_)
  · obtain ⟨a, wl, l, h, x, rfl, _⟩ := h
    rfl
  · obtain ⟨a, wl, l, h, x, rfl, hA, k⟩ := h
    obtain ⟨dx, hI⟩ := hA.ins
    have hr1 : Room 1 _ := hr.mono (by decide)
    refine ⟨_, pss_cons (ps_if (pt_cmpR op_ge (pv 1) (pe_callB call_len_seq (by rfl) T.own.len PySem.boot_len (pa_cons (pe_fld (pv 0) rfl) pa_nil)) (nomark _))
        (pss_one (ps_ret (pe_lst (pa_cons (pe_num N.c2 rfl) pa_nil)))) pss_nil)
      (pss_cons (ps_if (pt_not (pt_val (pe_df GH hr1 rfl (pa_cons (pe_fld (pv 0) rfl) (pa_cons (pv 1) pa_nil)))))
        (pss_one (ps_ret (pe_lst (pa_cons (pe_num N.c6 rfl) pa_nil)))) pss_nil)
      (pss_cons (ps_fld (pv 0) (pe_op op_sub (pe_fld (pv 0) rfl) (pe_op op_shl pe_int (pv 1))) rfl)
      (pss_one (ps_ret (pe_lst (pa_cons (pe_callB call_len_seq (by rfl) T.own.len PySem.boot_len (pa_cons (pe_df GC hr rfl (pa_cons (pv 0) pa_nil)) pa_nil)) pa_nil)))))), ?_⟩
    have st : Kp292.step (some ⟨l, h⟩) (.lost x) = (if Kp292.is ⟨l, h⟩ x = false then (some ⟨l, h⟩, Kp292.say (-2)) else if Nat.testBit h x = false then (some ⟨l, h⟩, Kp292.say (-6)) else (some ⟨l, h - 2 ^ x⟩, Kp292.say (Kp292.size l (Kp292.lacking l (h - 2 ^ x)) : Int))) := rfl
    have l6 := hA.ok.len
    refine ⟨_, rfl, _, rfl, a, C, dx, _, _, rfl, hI, T.cl, T.nW, af_weights _ _ _, wl, _, rfl, .inl (SqL.of hA.lst), _, _, rfl, rfl, _, rfl, ite2 (fun e => ?_) (fun e => ?_)⟩
    · have e' : l.length ≤ x := by
        have : (((vz l).length : Nat) : Int) ≤ (x : Int) := by simpa using e
        rw [vz_len] at this
        omega
      rw [if_pos (show Kp292.is ⟨l, h⟩ x = false by unfold Kp292.is; simp; omega)] at st
      exact ⟨(by show 1 ≤ sizeLine; decide), fun p hp => (k _ _ _ st).one hA hp⟩
    · have e' : x < l.length := by
        have : ¬ (((vz l).length : Nat) : Int) ≤ (x : Int) := by simpa using e
        rw [vz_len] at this
        omega
      rw [if_neg (show ¬ Kp292.is ⟨l, h⟩ x = false by unfold Kp292.is; simp; omega)] at st
      refine ⟨_, rfl, a, C, dx, _, _, rfl, hI, T.cl, T.nH, af_had _ _ _, _, rfl, h, x, rfl, by omega, _, rfl, ?_⟩
      cases hb : h.testBit x with
      | false =>
        rw [if_pos hb] at st
        exact iteT ⟨(by show 1 ≤ sizeLine; decide), fun p hp => (k _ _ _ st).one hA hp⟩
      | true =>
        rw [if_neg (by simp [hb])] at st
        refine iteF ?_
        have hge : 2 ^ x ≤ h := Nat.ge_two_pow_of_testBit hb
        have eh : (h : Int) - 1 * 2 ^ ((x : Nat) : Int).toNat = ((h - 2 ^ x : Nat) : Int) := by rw [shl_one]; omega
        have hh : h - 2 ^ x < 2 ^ l.length := Nat.lt_of_le_of_lt (Nat.sub_le _ _) hA.had
        refine ⟨_, rfl, a, C, dx, _, _, rfl, hI, T.cl, T.nH, af_had _ _ _, _, rfl, _, _, rfl, rfl, ⟨by omega, by omega, by decide⟩, _, _, rfl, rfl, _, rfl, a, C, dx, _, rfl, hI, T.cl, T.nH, (by show 3 < 1000; decide), ?_⟩
        rw [show (fun i j => V.int (i - j)) (h : Int) ((fun i j => (i * 2 ^ j.toNat : Int)) 1 ((x : Nat) : Int)) = V.int ((h - 2 ^ x : Nat) : Int) from congrArg V.int eh, af_put_had]
        have hA2 := hA.putHad hI hh
        refine ⟨_, rfl, a, wl, l, h - 2 ^ x, rfl, hA2, fun H' q sm nq hq => ⟨q, _, rfl, .inl (SqL.of hq), (by show 1 ≤ sizeLine; decide), fun p hp => ?_⟩⟩
        have hpH : H p = none := by
          have h1 : upd H a (.ins C dx (af true wl (h - 2 ^ x))) p = none := same_free sm hp
          rw [upd_ne (Ne.symm (ne_of_none upd_same h1))] at h1
          exact h1
        have s2 := same_new (o := .lst [.int ((vz (lks l.length (h - 2 ^ x))).length : Nat)]) sm hp
        refine k _ _ _ st _ p wl (hA2.same s2) (fun c o e hca _ => s2 c o (by rw [upd_ne hca]; exact e)) (.inl rfl) hpH ?_
        rw [upd_same, vz_len, lks_length]
        show _ = some (HO.lst [V.int (Kp292.size l (Kp292.lacking l (h - 2 ^ x)) : Int)])
        rw [size_lack]
end
end Ak

set_option Elab.async false
set_option linter.all false
set_option maxRecDepth 100000
set_option maxHeartbeats 2000000
namespace Ak
open PySem PySem.Spec PyProof.Rows L2
theorem tell_red {f : Kp292.Frac} {q : Rat} (h : Red f ∧ val f = q) : (Kp292.tellF f).num :: (Kp292.tellF f).nums = [0, q.num, (q.den : Int)] := by
  obtain ⟨h1, h2⟩ := h
  obtain ⟨h3, h4⟩ := val_num h1
  rw [← h2, h3, h4]
  rfl
/-- a fraction is told -/
theorem Fin.frac {C : Addr} {H H' : Hp} {a wl p : Addr} {l : List Nat} {h : Nat} {f : Kp292.Frac} {q : Rat} {Q : VK} (F : Fin C H a wl l h ((Kp292.tellF f).num :: (Kp292.tellF f).nums) Q) (hf : Red f ∧ val f = q) (A : AlbAt C H a wl l h) (s : Same H H')
    (n : H p = none) (hp : H' p = some (.lst (.int 0 :: fr q))) : Q (.ref p) H' := by
  rw [tell_red hf] at F
  exact F.same A s n hp
theorem sm_pow {l : List Nat} (o : Ok l) {d : Nat} (hd : d ≤ 20) : (sm l) ^ d < 2 ^ 9000 := by
  have h1 : sm l < 2 ^ 7 := Nat.lt_of_le_of_lt o.sm120 (by decide)
  have h2 : (sm l) ^ d ≤ (2 ^ 7) ^ d := Nat.pow_le_pow_left (Nat.le_of_lt h1) d
  refine Nat.lt_of_le_of_lt h2 ?_
  rw [← Nat.pow_mul]
  exact Nat.pow_lt_pow_right (by decide) (by omega)
theorem log_of_pow {x n : Nat} (h0 : 0 < x) (h : x < 2 ^ n) : x.log2 < n := (Nat.log2_lt (by omega)).mpr h
theorem Rows.total {l : List Nat} {h d : Nat} {rows : List Nat} (R : Rows l h d rows) : sm rows = (sm l) ^ d := by
  have e := R.all
  rw [dsum_one] at e
  have : ((sm rows : Nat) : Rat) = (((sm l) ^ d : Nat) : Rat) := by rw [e]; push_cast; rfl
  exact_mod_cast this
theorem Rows.back {l : List Nat} {h d x : Nat} {rows : List Nat} (R : Rows l h d rows) (hx : rows[2 ^ l.length - 1]? = some x) : atI (vz rows) (-1) = some (.int (x : Int)) := by
  have hp : 0 < 2 ^ l.length := Nat.pow_pos (by decide)
  unfold atI ixN
  rw [if_neg (by decide), vz_len, R.len, if_pos (by omega)]
  have e : ((-1 : Int) + ((2 ^ l.length : Nat) : Int)).toNat = 2 ^ l.length - 1 := by omega
  rw [e]
  exact vz_get hx
section
variable {P : Program} {w : World} {K : PySem.W.Frag} {mg : Str → Option Value} {base : Heap}
theorem scMean : FnScope ["album"] ["album"] (defScope sMean) := ⟨rfl, rfl, rfl, by decide +kernel, rfl, by decide +kernel, by decide +kernel⟩
theorem ok_mean {f C : Addr} {fd : FuncData} (F : Fun K "call_mean" "call_mean" sMean f fd) (T : Txt K mg C) (GT : Df P w K mg base "told_fraction" 1 ["fraction"] (spTold K)) (GM : Df P w K mg base "mean_table" 4 ["weights"] (spTable K)) :
    FnOk P w K mg base CX0 5 f fd ["album"] (spOne C .mean) := by
  refine F.ok scMean (fun vs H Q E h => ?_) (fun cdv A outer s H vs Q E hr h => ?_)
  · obtain ⟨a, wl, l, h, rfl, _⟩ := h
    rfl
  · obtain ⟨a, wl, l, h, rfl, hA, k⟩ := h
    obtain ⟨dx, hI⟩ := hA.ins
    have hr1 : Room 1 _ := hr.mono (by decide)
    refine ⟨_, pss_one (ps_ret (pe_df GT hr1 rfl (pa_cons (pe_ix ix_list (pe_df GM hr rfl (pa_cons (pe_fld (pv 0) rfl) pa_nil)) (pe_fld (pv 0) rfl) (fun _ _ => rfl)) pa_nil))), ?_⟩
    refine ⟨_, rfl, a, C, dx, _, _, rfl, hI, T.cl, T.nW, af_weights _ _ _, wl, l, rfl, SqL.of hA.lst, hA.ok, fun H1 m ms s1 hm hlen hms => ?_⟩
    obtain ⟨t, g1, g2, g3⟩ := hms h hA.had
    refine ⟨_, rfl, a, C, dx, _, _, rfl, s1 _ _ hI, T.cl, T.nH, af_had _ _ _, m, ms, _, _, rfl, rfl, SqL.of hm, atI_nat g1, t, _, _, rfl, g2, fun H2 p s2 np hp => ?_⟩
    exact (k l h _ rfl).frac (mean_red hA.ok.pos h) hA (s1.trans s2) (same_free s1 np) hp
theorem scFrom : FnScope ["album", "had"] ["album", "had"] (defScope sFrom) := ⟨rfl, rfl, rfl, by decide +kernel, rfl, by decide +kernel, by decide +kernel⟩
theorem ok_from {f C : Addr} {fd : FuncData} (F : Fun K "call_meanfrom" "call_meanfrom" sFrom f fd) (T : Txt K mg C) (N : Cons mg) (GT : Df P w K mg base "told_fraction" 1 ["fraction"] (spTold K)) (GM : Df P w K mg base "mean_table" 4 ["weights"] (spTable K)) :
    FnOk P w K mg base CX0 5 f fd ["album", "had"] (spTwo C .meanFrom) := by
  refine F.ok scFrom (fun vs H Q E h => ?_) (fun cdv A outer s H vs Q E hr h => ?_)
  · obtain ⟨a, wl, l, h, x, rfl, _⟩ := h
    rfl
  · obtain ⟨a, wl, l, h, x, rfl, hA, k⟩ := h
    obtain ⟨dx, hI⟩ := hA.ins
    have hr1 : Room 1 _ := hr.mono (by decide)
    refine ⟨_, pss_cons (ps_if (pt_cmpR op_ge (pv 1) (pe_op op_shl pe_int (pe_callB call_len_seq (by rfl) T.own.len PySem.boot_len (pa_cons (pe_fld (pv 0) rfl) pa_nil))) (nomark _))
        (pss_one (ps_ret (pe_lst (pa_cons (pe_num N.c22 rfl) pa_nil)))) pss_nil)
      (pss_one (ps_ret (pe_df GT hr1 rfl (pa_cons (pe_ix ix_list (pe_df GM hr rfl (pa_cons (pe_fld (pv 0) rfl) pa_nil)) (pv 1) (fun _ _ => rfl)) pa_nil)))), ?_⟩
    have l6 := hA.ok.len
    have hN0 : 0 < 2 ^ l.length := Nat.pow_pos (by decide)
    have st : Kp292.step (some ⟨l, h⟩) (.meanFrom x) = (some ⟨l, h⟩, if 2 ^ l.length - 1 < x then Kp292.say (-22) else Kp292.tellF (Kp292.mean l x)) := rfl
    have ev : (1 : Int) * 2 ^ (((vz l).length : Nat) : Int).toNat = ((2 ^ l.length : Nat) : Int) := by rw [vz_len, shl_one]
    refine ⟨_, rfl, _, rfl, a, C, dx, _, _, rfl, hI, T.cl, T.nW, af_weights _ _ _, wl, _, rfl, .inl (SqL.of hA.lst), _, _, rfl, rfl, ⟨by rw [vz_len]; omega, by rw [vz_len]; omega, by decide⟩, _, _, rfl, rfl, _, rfl, ?_⟩
    rw [ev]
    refine ite2 (fun e => ?_) (fun e => ?_)
    · have e' : ((2 ^ l.length : Nat) : Int) ≤ (x : Int) := by simpa using e
      rw [if_pos (by omega)] at st
      exact ⟨(by show 1 ≤ sizeLine; decide), fun p hp => (k _ _ _ st).one hA hp⟩
    · have e' : ¬ ((2 ^ l.length : Nat) : Int) ≤ (x : Int) := by simpa using e
      rw [if_neg (by omega)] at st
      have hx : x < 2 ^ l.length := by omega
      refine ⟨_, rfl, a, C, dx, _, _, rfl, hI, T.cl, T.nW, af_weights _ _ _, wl, l, rfl, SqL.of hA.lst, hA.ok, fun H1 m ms s1 hm hlen hms => ?_⟩
      obtain ⟨t, g1, g2, g3⟩ := hms x hx
      refine ⟨_, rfl, m, ms, _, _, rfl, rfl, SqL.of hm, atI_nat g1, t, _, _, rfl, g2, fun H2 p s2 np hp => ?_⟩
      exact (k l h _ st).frac (mean_red hA.ok.pos x) hA (s1.trans s2) (same_free s1 np) hp
theorem scAllby : FnScope ["album", "draws", "rows"] ["album", "draws"] (defScope sAllby) := ⟨rfl, rfl, rfl, by decide +kernel, rfl, by decide +kernel, by decide +kernel⟩
theorem ok_allby {f C : Addr} {fd : FuncData} (F : Fun K "call_allby" "call_allby" sAllby f fd) (T : Txt K mg C) (N : Cons mg) (GT : Df P w K mg base "told_fraction" 1 ["fraction"] (spTold K)) (GL : Df P w K mg base "lowest" 2 ["above", "below"] spLow)
    (GB : Df P w K mg base "rows_behind" 2 ["album", "draws"] (spBehind C)) : FnOk P w K mg base CX0 3 f fd ["album", "draws"] (spTwo C .allBy) := by
  refine F.ok scAllby (fun vs H Q E h => ?_) (fun cdv A outer s H vs Q E hr h => ?_)
  · obtain ⟨a, wl, l, h, x, rfl, _⟩ := h
    rfl
  · obtain ⟨a, wl, l, h, x, rfl, hA, k⟩ := h
    obtain ⟨dx, hI⟩ := hA.ins
    have hr1 : Room 1 _ := hr.mono (by decide)
    refine ⟨_, pss_cons (ps_if (pt_cmpR op_eq (pe_callB call_len_seq (by rfl) T.own.len PySem.boot_len (pa_cons (pe_fld (pv 0) rfl) pa_nil)) pe_int (nomark _))
        (pss_one (ps_ret (pe_lst (pa_cons (pe_num N.c6 rfl) pa_nil)))) pss_nil)
      (pss_cons (ps_if (pt_cmpR op_gt (pv 1) (pe_num N.draws rfl) (nomark _))
        (pss_one (ps_ret (pe_lst (pa_cons (pe_num N.c22 rfl) pa_nil)))) pss_nil)
      (pss_cons (ps_set (i := 2) scAllby.nd rfl (Or.inl rfl) (pe_df GB hr rfl (pa_cons (pv 0) (pa_cons (pv 1) pa_nil))))
      (pss_one (ps_ret (pe_df GT hr1 rfl (pa_cons (pe_df GL hr rfl (pa_cons (pe_ix ix_list (pv 2) (pe_un un_neg pe_int) (fun _ _ => rfl)) (pa_cons (pe_callB (call_sum rfl) (by rfl) T.own.sum PyProof.Rows.boot_sum (pa_cons (pv 2) pa_nil)) pa_nil))) pa_nil)))))), ?_⟩
    have st : Kp292.step (some ⟨l, h⟩) (.allBy x) = (some ⟨l, h⟩, if l.length = 0 then Kp292.say (-6) else if Kp292.DRAWS < x then Kp292.say (-22) else Kp292.tellF (Kp292.allBy l h x)) := rfl
    refine ⟨_, rfl, a, C, dx, _, _, rfl, hI, T.cl, T.nW, af_weights _ _ _, wl, _, rfl, .inl (SqL.of hA.lst), rfl, _, rfl, ?_⟩
    rw [dec_int, vz_len]
    refine ite2 (fun e => ?_) (fun e => ?_)
    · have e' : l.length = 0 := by
        have : ((l.length : Nat) : Int) = 0 := by simpa using e
        omega
      rw [if_pos e'] at st
      exact ⟨(by show 1 ≤ sizeLine; decide), fun p hp => (k _ _ _ st).one hA hp⟩
    · have e' : ¬ l.length = 0 := by
        have : ¬ ((l.length : Nat) : Int) = 0 := by simpa using e
        omega
      rw [if_neg e'] at st
      have hl : l ≠ [] := fun z => e' (by rw [z]; rfl)
      refine ⟨_, rfl, _, _, rfl, rfl, _, rfl, ite2 (fun e2 => ?_) (fun e2 => ?_)⟩
      · have e2' : (20 : Int) < (x : Int) := by simpa using e2
        rw [if_pos (show Kp292.DRAWS < x by show 20 < x; omega)] at st
        exact ⟨(by show 1 ≤ sizeLine; decide), fun p hp => (k _ _ _ st).one hA hp⟩
      · have e2' : ¬ (20 : Int) < (x : Int) := by simpa using e2
        have hx : x ≤ 20 := by omega
        rw [if_neg (show ¬ Kp292.DRAWS < x by show ¬ 20 < x; omega)] at st
        refine ⟨_, rfl, _, rfl, a, wl, l, h, x, rfl, hA, by omega, fun H1 q rows s1 hq R => ?_⟩
        obtain ⟨y, hy, ey⟩ := R.last
        have et := R.total
        have hS := Nat.pow_pos (n := x) (sm_pos hA.ok.pos hl)
        refine ⟨_, rfl, _, rfl, q, _, _, _, rfl, rfl, SqL.of hq, R.back hy, _, rfl, q, zs rows, rfl, SqL.of hq, y, (sm l) ^ x, (by rw [zs_sum, et]; rfl), hS, log_of_pow hS (sm_pow hA.ok hx), fun H2 p s2 hp => ?_⟩
        refine ⟨p, _, _, rfl, SqT.of hp, fun H3 p3 s3 np3 hp3 => ?_⟩
        refine (k l h _ st).frac (q := (y : Rat) / (((sm l) ^ x : Nat) : Rat)) ?_ hA (s1.trans (s2.trans s3)) (same_free (s1.trans s2) np3) hp3
        have hr := allBy_red hA.ok.pos hl h x
        refine ⟨hr.1, hr.2.trans ?_⟩
        rw [ey]
        push_cast
        rfl
theorem scAt : FnScope ["album", "draws", "before", "behind", "whole_before"] ["album", "draws"] (defScope sAt) := ⟨rfl, rfl, rfl, by decide +kernel, rfl, by decide +kernel, by decide +kernel⟩
theorem ok_at {f C : Addr} {fd : FuncData} (F : Fun K "call_at" "call_at" sAt f fd) (T : Txt K mg C) (N : Cons mg) (GT : Df P w K mg base "told_fraction" 1 ["fraction"] (spTold K)) (GL : Df P w K mg base "lowest" 2 ["above", "below"] spLow)
    (GB : Df P w K mg base "rows_behind" 2 ["album", "draws"] (spBehind C)) (GX : Df P w K mg base "rows_with_next" 1 ["weights", "rows"] (spNext K)) : FnOk P w K mg base CX0 3 f fd ["album", "draws"] (spTwo C .at_) := by
  refine F.ok scAt (fun vs H Q E h => ?_) (fun cdv A outer s H vs Q E hr h => ?_)
  · obtain ⟨a, wl, l, h, x, rfl, _⟩ := h
    rfl
  · obtain ⟨a, wl, l, h, x, rfl, hA, k⟩ := h
    obtain ⟨dx, hI⟩ := hA.ins
    have hr1 : Room 1 _ := hr.mono (by decide)
    refine ⟨_, pss_cons (ps_if (pt_cmpR op_eq (pe_callB call_len_seq (by rfl) T.own.len PySem.boot_len (pa_cons (pe_fld (pv 0) rfl) pa_nil)) pe_int (nomark _))
        (pss_one (ps_ret (pe_lst (pa_cons (pe_num N.c6 rfl) pa_nil)))) pss_nil)
      (pss_cons (ps_if (PW.pt (pw_or (pt_cmpR op_lt (pv 1) pe_int (nomark _)) (pw_or1 (pt_cmpR op_gt (pv 1) (pe_num N.draws rfl) (nomark _)))))
        (pss_one (ps_ret (pe_lst (pa_cons (pe_num N.c22 rfl) pa_nil)))) pss_nil)
      (pss_cons (ps_set (i := 2) scAt.nd rfl (Or.inl rfl) (pe_df GB hr rfl (pa_cons (pv 0) (pa_cons (pe_op op_sub (pv 1) pe_int) pa_nil))))
      (pss_cons (ps_set (i := 3) scAt.nd rfl (Or.inl rfl) (pe_df GX hr1 rfl (pa_cons (pe_fld (pv 0) rfl) (pa_cons (pv 2) pa_nil))))
      (pss_cons (ps_set (i := 4) scAt.nd rfl (Or.inl rfl) (pe_op op_mul (pe_ix ix_list (pv 2) (pe_un un_neg pe_int) (fun _ _ => rfl)) (pe_callB (call_sum rfl) (by rfl) T.own.sum PyProof.Rows.boot_sum (pa_cons (pe_fld (pv 0) rfl) pa_nil))))
      (pss_one (ps_ret (pe_df GT hr1 rfl (pa_cons (pe_df GL hr rfl (pa_cons (pe_op op_sub (pe_ix ix_list (pv 3) (pe_un un_neg pe_int) (fun _ _ => rfl)) (pv 4)) (pa_cons (pe_callB (call_sum rfl) (by rfl) T.own.sum PyProof.Rows.boot_sum (pa_cons (pv 3) pa_nil)) pa_nil))) pa_nil)))))))), ?_⟩
    have st : Kp292.step (some ⟨l, h⟩) (.at_ x) = (some ⟨l, h⟩, if l.length = 0 then Kp292.say (-6) else if x = 0 ∨ Kp292.DRAWS < x then Kp292.say (-22) else Kp292.tellF (Kp292.add (Kp292.allBy l h x) (Kp292.neg (Kp292.allBy l h (x - 1))))) := rfl
    refine ⟨_, rfl, a, C, dx, _, _, rfl, hI, T.cl, T.nW, af_weights _ _ _, wl, _, rfl, .inl (SqL.of hA.lst), rfl, _, rfl, ?_⟩
    rw [dec_int, vz_len]
    refine ite2 (fun e => ?_) (fun e => ?_)
    · have e' : l.length = 0 := by
        have : ((l.length : Nat) : Int) = 0 := by simpa using e
        omega
      rw [if_pos e'] at st
      exact ⟨(by show 1 ≤ sizeLine; decide), fun p hp => (k _ _ _ st).one hA hp⟩
    · have e' : ¬ l.length = 0 := by
        have : ¬ ((l.length : Nat) : Int) = 0 := by simpa using e
        omega
      rw [if_neg e'] at st
      have hl : l ≠ [] := fun z => e' (by rw [z]; rfl)
      have r22 : (x = 0 ∨ Kp292.DRAWS < x) → ∀ p, H p = none → Q (.ref p) (upd H p (.lst [.int (-22)])) := fun e p hp => by
        rw [if_pos e] at st
        exact (k _ _ _ st).one hA hp
      refine ⟨_, rfl, _, _, rfl, rfl, _, rfl, ite2 (fun e2 => ?_) (fun e2 => ?_)⟩
      · have e2' : (x : Int) < 1 := by simpa using e2
        exact iteT ⟨(by show 1 ≤ sizeLine; decide), fun p hp => r22 (.inl (by omega)) p hp⟩
      · have e2' : ¬ (x : Int) < 1 := by simpa using e2
        refine ⟨_, rfl, _, _, rfl, rfl, _, rfl, ite2 (fun e3 => ?_) (fun e3 => ?_)⟩
        · have e3' : (20 : Int) < (x : Int) := by simpa using e3
          exact ⟨(by show 1 ≤ sizeLine; decide), fun p hp => r22 (.inr (by show 20 < x; omega)) p hp⟩
        · have e3' : ¬ (20 : Int) < (x : Int) := by simpa using e3
          rw [if_neg (show ¬ (x = 0 ∨ Kp292.DRAWS < x) by show ¬ (x = 0 ∨ 20 < x); omega)] at st
          obtain ⟨d, rfl⟩ : ∃ d, x = d + 1 := ⟨x - 1, by omega⟩
          have ed : ((d + 1 : Nat) : Int) - 1 = (d : Int) := by omega
          refine ⟨_, rfl, _, rfl, _, _, rfl, rfl, a, wl, l, h, d, (by show [V.ref a, V.int (((d + 1 : Nat) : Int) - 1)] = _; rw [ed]), hA, by omega, fun H1 q rows s1 hq R => ?_⟩
          refine ⟨_, rfl, a, C, dx, _, _, rfl, s1 _ _ hI, T.cl, T.nW, af_weights _ _ _, _, rfl, wl, q, l, rows, rfl, SqL.of (s1 _ _ hA.lst), hA.ok, SqL.of hq, R.len, fun H2 q2 lg s2 hq2 hl2 hV => ?_⟩
          have R2 := R.step hl2 hV
          obtain ⟨y, hy, ey⟩ := R.last
          obtain ⟨y2, hy2, ey2⟩ := R2.last
          have et := R2.total
          have hq' := s2 _ _ hq
          have hS0 := sm_pos hA.ok.pos hl
          have hS := Nat.pow_pos (n := d + 1) hS0
          have hle : y * sm l ≤ y2 := by
            have := Vq_at l d h
            rw [← ey, ← ey2] at this
            have h2 : ((y * sm l : Nat) : Rat) ≤ ((y2 : Nat) : Rat) := by
              push_cast
              rw [Rat.mul_comm]
              exact this
            exact_mod_cast h2
          have s120 := hA.ok.sm120
          refine ⟨_, rfl, _, rfl, q, _, _, _, rfl, rfl, SqL.of hq', R.back hy, _, rfl, a, C, dx, _, _, rfl, s2 _ _ (s1 _ _ hI), T.cl, T.nW, af_weights _ _ _, wl, zs l, rfl, SqL.of (s2 _ _ (s1 _ _ hA.lst)), _, _, rfl, rfl, (by
            right
            rw [zs_sum]
            constructor <;> omega), ?_⟩
          refine ⟨_, rfl, _, rfl, q2, _, _, _, rfl, rfl, SqL.of hq2, R2.back hy2, _, rfl, _, _, rfl, rfl, _, rfl, q2, zs lg, rfl, SqL.of hq2, y2 - y * sm l, (sm l) ^ (d + 1), ?_, hS, log_of_pow hS (sm_pow hA.ok (by omega)), fun H3 p s3 hp => ?_⟩
          · show [V.int ((y2 : Int) - (y : Int) * (zs l).sum), V.int (zs lg).sum] = _
            rw [zs_sum l, zs_sum lg, et, show (y2 : Int) - (y : Int) * (sm l : Int) = ((y2 - y * sm l : Nat) : Int) by rw [Int.natCast_sub hle, Int.natCast_mul]]
          · refine ⟨p, _, _, rfl, SqT.of hp, fun H4 p4 s4 np4 hp4 => ?_⟩
            refine (k l h _ st).frac (q := ((y2 - y * sm l : Nat) : Rat) / (((sm l) ^ (d + 1) : Nat) : Rat)) ?_ hA (s1.trans (s2.trans (s3.trans s4))) (same_free (s1.trans (s2.trans s3)) np4) hp4
            have r1 := allBy_red hA.ok.pos hl h (d + 1)
            have r2 := allBy_red hA.ok.pos hl h d
            have r3 := add_red (a := Kp292.allBy l h (d + 1)) (b := Kp292.neg (Kp292.allBy l h d)) r1.1.1 r2.1.1
            refine ⟨r3.1, r3.2.trans ?_⟩
            rw [neg_val, r1.2, r2.2, cast_sub hle, ← ey, ← ey2]
            push_cast
            have hS1 : (sm l : Rat) ≠ 0 := by
              intro z
              have : sm l = 0 := by exact_mod_cast z
              omega
            have hS2 : (sm l : Rat) ^ d ≠ 0 := by
              intro z
              have z' : ((sm l ^ d : Nat) : Rat) = 0 := by push_cast; exact z
              have : sm l ^ d = 0 := by exact_mod_cast z'
              have := Nat.pow_pos (n := d) hS0
              omega
            have e5 : (sm l : Rat) ^ (d + 1) = (sm l : Rat) ^ d * (sm l : Rat) := by grind
            rw [e5]
            grind
/-! ### half -/
theorem scHalf : FnScope ["album", "rows", "draws"] ["album"] (defScope sHalf) := ⟨rfl, rfl, rfl, by decide +kernel, rfl, by decide +kernel, by decide +kernel⟩
theorem ok_half {f C : Addr} {fd : FuncData} (F : Fun K "call_half" "call_half" sHalf f fd) (T : Txt K mg C) (N : Cons mg) (GN : Df P w K mg base "rows_of_none" 1 ["weights", "had"] (spNone K)) (GX : Df P w K mg base "rows_with_next" 1 ["weights", "rows"] (spNext K)) :
    FnOk P w K mg base CX0 2 f fd ["album"] (spOne C .half) := by
  refine F.ok scHalf (fun vs H Q E h => ?_) (fun cdv A outer s H vs Q E hr h => ?_)
  · obtain ⟨a, wl, l, h, rfl, _⟩ := h
    rfl
  · obtain ⟨a, wl, l, h, rfl, hA, k⟩ := h
    obtain ⟨dx, hI⟩ := hA.ins
    refine ⟨_, pss_cons (ps_if (pt_cmpR op_eq (pe_callB call_len_seq (by rfl) T.own.len PySem.boot_len (pa_cons (pe_fld (pv 0) rfl) pa_nil)) pe_int (nomark _))
        (pss_one (ps_ret (pe_lst (pa_cons (pe_num N.c6 rfl) pa_nil)))) pss_nil)
      (pss_cons (ps_set (i := 1) scHalf.nd rfl (Or.inl rfl) (pe_df GN hr rfl (pa_cons (pe_fld (pv 0) rfl) (pa_cons (pe_fld (pv 0) rfl) pa_nil))))
      (pss_cons (ps_set (i := 2) scHalf.nd rfl (Or.inl rfl) pe_int)
      (pss_cons (ps_while PassesOwn.never (pt_cmpR op_lt (pe_op op_mul pe_int (pe_ix ix_list (pv 1) (pe_un un_neg pe_int) (fun _ _ => rfl))) (pe_callB (call_sum rfl) (by rfl) T.own.sum PyProof.Rows.boot_sum (pa_cons (pv 1) pa_nil)) (nomark _))
        (pss_cons (ps_set (i := 1) scHalf.nd rfl (Or.inl rfl) (pe_df GX hr rfl (pa_cons (pe_fld (pv 0) rfl) (pa_cons (pv 1) pa_nil))))
        (pss_one (ps_aug (i := 2) scHalf.nd rfl (Or.inl rfl) pe_int ip_add))))
      (pss_one (ps_ret (pe_lst (pa_cons (pv 2) pa_nil))))))), ?_⟩
    have st : Kp292.step (some ⟨l, h⟩) .half = (some ⟨l, h⟩, if l.length = 0 then Kp292.say (-6) else match Kp292.half l h with | some n => Kp292.say (n : Int) | none => Kp292.say (-33)) := rfl
    refine ⟨_, rfl, a, C, dx, _, _, rfl, hI, T.cl, T.nW, af_weights _ _ _, wl, _, rfl, .inl (SqL.of hA.lst), rfl, _, rfl, ?_⟩
    rw [dec_int, vz_len]
    refine ite2 (fun e => ?_) (fun e => ?_)
    · have e' : l.length = 0 := by
        have : ((l.length : Nat) : Int) = 0 := by simpa using e
        omega
      rw [if_pos e'] at st
      exact ⟨(by show 1 ≤ sizeLine; decide), fun p hp => (k _ _ _ st).one hA hp⟩
    · have e' : ¬ l.length = 0 := by
        have : ¬ ((l.length : Nat) : Int) = 0 := by simpa using e
        omega
      rw [if_neg e'] at st
      have hl : l ≠ [] := fun z => e' (by rw [z]; rfl)
      refine ⟨_, rfl, a, C, dx, _, _, rfl, hI, T.cl, T.nW, af_weights _ _ _, _, rfl, a, C, dx, _, _, rfl, hI, T.cl, T.nH, af_had _ _ _, wl, l, h, rfl, SqL.of hA.lst, hA.ok, hA.had, fun H1 q s1 hq => ?_⟩
      refine while_by (fun σ H' => ∃ (q : Addr) (rows : List Nat) (d : Nat), σ = [some (.ref a), some (.ref q), some (.int (d : Int))] ∧ Same H H' ∧ H' q = some (.lst (vz rows)) ∧ Rows l h d rows ∧ ∀ d', d' < d → 2 * Vq l d' h < (sm l : Rat) ^ d')
        (fun σ _ => match σ with | [_, _, some (.int d)] => 400 - d.toNat | _ => 0) ⟨q, _, 0, rfl, s1, hq, Rows.start hA.had, fun d' z => absurd z (Nat.not_lt_zero _)⟩ ?_ ?_
      · rintro σ H' ⟨q, rows, d, rfl, sm', hq, R, hd⟩
        obtain ⟨y, hy, ey⟩ := R.last
        have et := R.total
        have hd400 : d < 400 := by
          rcases Nat.lt_or_ge d 400 with z | z
          · exact z
          · have h1 := hd 399 (by omega)
            have h2 := half_end hA.ok hl h
            exact absurd h1 (by grind)
        have key : ((2 : Int) * (y : Int) < ((sm l ^ d : Nat) : Int)) ↔ 2 * Vq l d h < (sm l : Rat) ^ d := by
          rw [← ey]
          have e1 : (2 : Rat) * (y : Rat) = ((2 * y : Nat) : Rat) := by push_cast; rfl
          have e2 : (sm l : Rat) ^ d = ((sm l ^ d : Nat) : Rat) := by push_cast; rfl
          rw [e1, e2]
          constructor
          · intro z
            have : 2 * y < sm l ^ d := by omega
            exact_mod_cast this
          · intro z
            have : 2 * y < sm l ^ d := by exact_mod_cast z
            omega
        refine ⟨_, rfl, _, rfl, q, _, _, _, rfl, rfl, SqL.of hq, R.back hy, _, _, rfl, rfl, .inl ⟨by decide, by decide⟩, _, rfl, q, zs rows, rfl, SqL.of hq, _, _, rfl, rfl, _, rfl, ?_⟩
        rw [zs_sum, et]
        refine ite2 (fun e2 => ?_) (fun e2 => ?_)
        · have e2' := key.mp (by simpa using e2)
          refine ⟨_, rfl, a, C, dx, _, _, rfl, sm' _ _ hI, T.cl, T.nW, af_weights _ _ _, _, rfl, wl, q, l, rows, rfl, SqL.of (sm' _ _ hA.lst), hA.ok, SqL.of hq, R.len, fun H2 q2 lg s2 hq2 hl2 hV => ?_⟩
          refine ⟨_, rfl, _, _, rfl, rfl, ⟨q2, lg, d + 1, ?_, sm'.trans s2, hq2, R.step hl2 hV, fun d' hd' => ?_⟩, ?_⟩
          · rfl
          · rcases Nat.lt_or_ge d' d with z | z
            · exact hd d' z
            · have : d' = d := by omega
              rw [this]
              exact e2'
          · show 400 - ((d : Int) + 1).toNat < 400 - ((d : Int)).toNat
            omega
        · have e2' : ¬ 2 * Vq l d h < (sm l : Rat) ^ d := fun z => e2 (by simpa using key.mpr z)
          rw [half_find hd400 hd (by grind)] at st
          refine ⟨_, rfl, (by show 1 ≤ sizeLine; decide), fun p hp => ?_⟩
          exact (k _ _ _ st).same hA (same_new sm' hp) (same_free sm' hp) upd_same
      · rintro σ H' Q1 Q2 hq ⟨v, e1, i1, ei, p, xs, ix, vv, a1, a2, a3, a4, i2, j2, b1, b2, b3, v2, e2, p2, ns, c1, c2, i3, j3, d1, d2, kb, ek, q⟩
        exact ⟨v, e1, i1, ei, p, xs, ix, vv, a1, a2, a3, a4, i2, j2, b1, b2, b3, v2, e2, p2, ns, c1, c2, i3, j3, d1, d2, kb, ek, hq _ _ q⟩
end
end Ak

set_option Elab.async false
set_option linter.all false
set_option maxRecDepth 100000
set_option maxHeartbeats 2000000
namespace Ak
open PySem PySem.Spec PyProof.Rows L2
section
variable {P : Program} {w : World} {K : PySem.W.Frag} {mg : Str → Option Value} {base : Heap}
/-! ### last -/
theorem at_some {l : List Nat} {x : Nat} (h : x < l.length) : ∃ y, l[x]? = some y := ⟨_, List.getElem?_eq_getElem h⟩
theorem scLast : FnScope ["album", "kind", "refusal"] ["album", "kind"] (defScope sLast) := ⟨rfl, rfl, rfl, by decide +kernel, rfl, by decide +kernel, by decide +kernel⟩
theorem ok_last {f C : Addr} {fd : FuncData} (F : Fun K "call_last" "call_last" sLast f fd) (T : Txt K mg C) (N : Cons mg) (GR : Df P w K mg base "refusal_of_lacking" 2 ["album", "kind"] (spRefL C)) (GT : Df P w K mg base "told_fraction" 1 ["fraction"] (spTold K))
    (GL : Df P w K mg base "last_table" 4 ["weights", "last"] (spLastT K)) : FnOk P w K mg base CX0 5 f fd ["album", "kind"] (spTwo C .last) := by
  refine F.ok scLast (fun vs H Q E h => ?_) (fun cdv A outer s H vs Q E hr h => ?_)
  · obtain ⟨a, wl, l, h, x, rfl, _⟩ := h
    rfl
  · obtain ⟨a, wl, l, h, x, rfl, hA, k⟩ := h
    obtain ⟨dx, hI⟩ := hA.ins
    have hr1 : Room 1 _ := hr.mono (by decide)
    have hr2 : Room 2 _ := hr.mono (by decide)
    refine ⟨_, pss_cons (ps_set (i := 2) scLast.nd rfl (Or.inl rfl) (pe_df GR hr2 rfl (pa_cons (pv 0) (pa_cons (pv 1) pa_nil))))
      (pss_cons (ps_if (pt_cmpR op_ne (pv 2) (pe_num N.c0 rfl) (nomark _)) (pss_one (ps_ret (pe_lst (pa_cons (pv 2) pa_nil)))) pss_nil)
      (pss_one (ps_ret (pe_df GT hr1 rfl (pa_cons (pe_ix ix_list (pe_df GL hr rfl (pa_cons (pe_fld (pv 0) rfl) (pa_cons (pv 1) pa_nil))) (pe_fld (pv 0) rfl) (fun _ _ => rfl)) pa_nil))))), ?_⟩
    have st : Kp292.step (some ⟨l, h⟩) (.last x) = (some ⟨l, h⟩, if Kp292.is ⟨l, h⟩ x = false then Kp292.say (-2) else if Nat.testBit h x then Kp292.say (-17) else Kp292.tellF (Kp292.lastIs l h x)) := rfl
    refine ⟨_, rfl, _, rfl, a, wl, l, h, x, rfl, hA, ?_⟩
    refine ⟨_, rfl, rfl, _, rfl, ?_⟩
    rw [dec_int]
    refine ite2 (fun e => ?_) (fun e => ?_)
    · have e' : refL l h x ≠ 0 := by simpa using e
      exact ⟨_, rfl, (by show 1 ≤ sizeLine; decide), fun p hp => (k _ _ _ (refL_no e').2.1).one hA hp⟩
    · have e' : refL l h x = 0 := by simpa using e
      obtain ⟨hx, hb⟩ := refL_ok e'
      rw [if_neg (show ¬ Kp292.is ⟨l, h⟩ x = false by rw [is_no]; omega), if_neg (by simp [hb])] at st
      obtain ⟨y, hy⟩ := at_some hx
      refine ⟨_, rfl, a, C, dx, _, _, rfl, hI, T.cl, T.nW, af_weights _ _ _, _, rfl, wl, x, y, l, rfl, SqL.of hA.lst, hA.ok, hy, fun H1 m ms s1 hm hlen hms => ?_⟩
      obtain ⟨t, g1, g2, g3⟩ := hms h hA.had
      refine ⟨_, rfl, a, C, dx, _, _, rfl, s1 _ _ hI, T.cl, T.nH, af_had _ _ _, m, ms, _, _, rfl, rfl, SqL.of hm, atI_nat g1, t, _, _, rfl, g2, fun H2 p s2 np hp => ?_⟩
      refine (k l h _ st).frac (q := Lq l x y h) ?_ hA (s1.trans s2) (same_free s1 np) hp
      have r1 := last_red hA.ok.pos h x y hy
      refine ⟨r1.1, r1.2.trans ?_⟩
      unfold Lq
      rw [if_neg (by simp [hb])]
/-! ### worth -/
theorem scWorth : FnScope ["album", "kind", "refusal", "means"] ["album", "kind"] (defScope sWorth) := ⟨rfl, rfl, rfl, by decide +kernel, rfl, by decide +kernel, by decide +kernel⟩
theorem ok_worth {f C : Addr} {fd : FuncData} (F : Fun K "call_worth" "call_worth" sWorth f fd) (T : Txt K mg C) (N : Cons mg) (GR : Df P w K mg base "refusal_of_lacking" 2 ["album", "kind"] (spRefL C)) (GT : Df P w K mg base "told_fraction" 1 ["fraction"] (spTold K))
    (GM : Df P w K mg base "mean_table" 4 ["weights"] (spTable K)) (GW : Df P w K mg base "with_kind" 1 ["had", "kind"] spWith) (GB : Df P w K mg base "less_by" 3 ["greater", "smaller"] (spLess K)) : FnOk P w K mg base CX0 5 f fd ["album", "kind"] (spTwo C .worth) := by
  refine F.ok scWorth (fun vs H Q E h => ?_) (fun cdv A outer s H vs Q E hr h => ?_)
  · obtain ⟨a, wl, l, h, x, rfl, _⟩ := h
    rfl
  · obtain ⟨a, wl, l, h, x, rfl, hA, k⟩ := h
    obtain ⟨dx, hI⟩ := hA.ins
    have hr1 : Room 1 _ := hr.mono (by decide)
    have hr2 : Room 2 _ := hr.mono (by decide)
    have hr3 : Room 3 _ := hr.mono (by decide)
    refine ⟨_, pss_cons (ps_set (i := 2) scWorth.nd rfl (Or.inl rfl) (pe_df GR hr2 rfl (pa_cons (pv 0) (pa_cons (pv 1) pa_nil))))
      (pss_cons (ps_if (pt_cmpR op_ne (pv 2) (pe_num N.c0 rfl) (nomark _)) (pss_one (ps_ret (pe_lst (pa_cons (pv 2) pa_nil)))) pss_nil)
      (pss_cons (ps_set (i := 3) scWorth.nd rfl (Or.inl rfl) (pe_df GM hr rfl (pa_cons (pe_fld (pv 0) rfl) pa_nil)))
      (pss_one (ps_ret (pe_df GT hr1 rfl (pa_cons (pe_df GB hr3 rfl (pa_cons (pe_ix ix_list (pv 3) (pe_fld (pv 0) rfl) (fun _ _ => rfl)) (pa_cons (pe_ix ix_list (pv 3) (pe_df GW hr1 rfl (pa_cons (pe_fld (pv 0) rfl) (pa_cons (pv 1) pa_nil))) (fun _ _ => rfl)) pa_nil))) pa_nil)))))), ?_⟩
    have st : Kp292.step (some ⟨l, h⟩) (.worth x) = (some ⟨l, h⟩, if Kp292.is ⟨l, h⟩ x = false then Kp292.say (-2) else if Nat.testBit h x then Kp292.say (-17) else Kp292.tellF (Kp292.add (Kp292.mean l h) (Kp292.neg (Kp292.worth l h x)))) := rfl
    refine ⟨_, rfl, _, rfl, a, wl, l, h, x, rfl, hA, ?_⟩
    refine ⟨_, rfl, rfl, _, rfl, ?_⟩
    rw [dec_int]
    refine ite2 (fun e => ?_) (fun e => ?_)
    · have e' : refL l h x ≠ 0 := by simpa using e
      exact ⟨_, rfl, (by show 1 ≤ sizeLine; decide), fun p hp => (k _ _ _ (refL_no e').2.2).one hA hp⟩
    · have e' : refL l h x = 0 := by simpa using e
      obtain ⟨hx, hb⟩ := refL_ok e'
      rw [if_neg (show ¬ Kp292.is ⟨l, h⟩ x = false by rw [is_no]; omega), if_neg (by simp [hb])] at st
      obtain ⟨y, hy⟩ := at_some hx
      have l6 := hA.ok.len
      refine ⟨_, rfl, a, C, dx, _, _, rfl, hI, T.cl, T.nW, af_weights _ _ _, wl, l, rfl, SqL.of hA.lst, hA.ok, fun H1 m ms s1 hm hlen hms => ?_⟩
      obtain ⟨t, g1, g2, g3⟩ := hms h hA.had
      obtain ⟨u, f1, f2, f3⟩ := hms (h ||| 2 ^ x) (or_lt hA.had hx)
      refine ⟨_, rfl, _, rfl, a, C, dx, _, _, rfl, s1 _ _ hI, T.cl, T.nH, af_had _ _ _, m, ms, _, _, rfl, rfl, SqL.of hm, atI_nat g1, _, rfl, _, rfl, a, C, dx, _, _, rfl, s1 _ _ hI, T.cl, T.nH, af_had _ _ _, _, rfl, h, x, rfl, by omega, m, ms, _, _, rfl, rfl, SqL.of hm, (by
        rw [add_bit hb]
        exact atI_nat f1), t, u, _, _, rfl, g2, f2, f3.2.1, Mq_mono hA.ok x y hy _ h rfl hb, g3.2.2, Mq_den hA.ok _, Mq_den hA.ok _, fun H2 p s2 hp => ?_⟩
      refine ⟨p, _, _, rfl, SqT.of hp, fun H3 p3 s3 np3 hp3 => ?_⟩
      exact (k l h _ st).frac (worth_red hA.ok.pos h x) hA (s1.trans (s2.trans s3)) (same_free (s1.trans s2) np3) hp3
/-! ### best -/
theorem lks_nil {l : List Nat} {h : Nat} (e : (lks l.length h).length = 0) : lks l.length h = [] := List.length_eq_zero_iff.mp e
theorem scBest : FnScope ["album", "lacking", "means", "best", "kind"] ["album"] (defScope sBest) := ⟨rfl, rfl, rfl, by decide +kernel, rfl, by decide +kernel, by decide +kernel⟩
theorem ok_best {f C : Addr} {fd : FuncData} (F : Fun K "call_best" "call_best" sBest f fd) (T : Txt K mg C) (N : Cons mg) (GC : Df P w K mg base "lacking_kinds" 2 ["album"] (spLacks C))
    (GM : Df P w K mg base "mean_table" 4 ["weights"] (spTable K)) (GW : Df P w K mg base "with_kind" 1 ["had", "kind"] spWith) (GB : Df P w K mg base "is_below" 1 ["first", "second"] (spBelow K)) : FnOk P w K mg base CX0 5 f fd ["album"] (spOne C .best) := by
  refine F.ok scBest (fun vs H Q E h => ?_) (fun cdv A outer s H vs Q E hr h => ?_)
  · obtain ⟨a, wl, l, h, rfl, _⟩ := h
    rfl
  · obtain ⟨a, wl, l, h, rfl, hA, k⟩ := h
    obtain ⟨dx, hI⟩ := hA.ins
    have hr1 : Room 1 _ := hr.mono (by decide)
    have hr2 : Room 2 _ := hr.mono (by decide)
    refine ⟨_, pss_cons (ps_set (i := 1) scBest.nd rfl (Or.inl rfl) (pe_df GC hr2 rfl (pa_cons (pv 0) pa_nil)))
      (pss_cons (ps_if (pt_cmpR op_eq (pe_callB call_len_seq (by rfl) T.own.len PySem.boot_len (pa_cons (pv 1) pa_nil)) pe_int (nomark _)) (pss_one (ps_ret (pe_lst (pa_cons (pe_num N.c33 rfl) pa_nil)))) pss_nil)
      (pss_cons (ps_set (i := 2) scBest.nd rfl (Or.inl rfl) (pe_df GM hr rfl (pa_cons (pe_fld (pv 0) rfl) pa_nil)))
      (pss_cons (ps_set (i := 3) scBest.nd rfl (Or.inl rfl) (pe_ix ix_list (pv 1) pe_int (fun _ _ => rfl)))
      (pss_cons (ps_for PassesOwn.never rfl (pi_list (pv 1)) (pg_name (i := 4) scBest.nd rfl (Or.inl rfl))
        (pss_one (ps_if (pt_val (pe_df GB hr1 rfl (pa_cons (pe_ix ix_list (pv 2) (pe_df GW hr1 rfl (pa_cons (pe_fld (pv 0) rfl) (pa_cons (pv 4) pa_nil))) (fun _ _ => rfl)) (pa_cons (pe_ix ix_list (pv 2) (pe_df GW hr1 rfl (pa_cons (pe_fld (pv 0) rfl) (pa_cons (pv 3) pa_nil))) (fun _ _ => rfl)) pa_nil))))
          (pss_one (ps_set (i := 3) scBest.nd rfl (Or.inl rfl) (pv 4))) pss_nil)))
      (pss_one (ps_ret (pe_lst (pa_cons (pv 3) pa_nil)))))))), ?_⟩
    have st : Kp292.step (some ⟨l, h⟩) .best = (some ⟨l, h⟩, match Kp292.best l h with | some i => Kp292.say (i : Int) | none => Kp292.say (-33)) := rfl
    have l6 := hA.ok.len
    refine ⟨_, rfl, a, wl, l, h, rfl, hA, fun H1 q s1 nq hq => ?_⟩
    refine ⟨_, rfl, q, _, rfl, .inl (SqL.of hq), rfl, _, rfl, ?_⟩
    rw [dec_int, vz_len]
    refine ite2 (fun e => ?_) (fun e => ?_)
    · have e' : (lks l.length h).length = 0 := by
        have : (((lks l.length h).length : Nat) : Int) = 0 := by simpa using e
        omega
      rw [best_nil (lks_nil e')] at st
      refine ⟨(by show 1 ≤ sizeLine; decide), fun p hp => ?_⟩
      exact (k _ _ _ st).same hA (same_new s1 hp) (same_free s1 hp) upd_same
    · obtain ⟨c, r, ec⟩ : ∃ c r, lks l.length h = c :: r := by
        cases ec : lks l.length h with
        | nil => exact absurd (by rw [ec]; rfl) e
        | cons c r => exact ⟨c, r, rfl⟩
      rw [best_cons hA.ok.pos ec] at st
      refine ⟨_, rfl, a, C, dx, _, _, rfl, s1 _ _ hI, T.cl, T.nW, af_weights _ _ _, wl, l, rfl, SqL.of (s1 _ _ hA.lst), hA.ok, fun H2 m ms s2 hm hlen hms => ?_⟩
      have hq2 := s2 _ _ hq
      have hI2 := s2 _ _ (s1 _ _ hI)
      have hc : (vz (lks l.length h))[0]? = some (V.int (c : Int)) := vz_get (by rw [ec]; rfl)
      refine ⟨_, rfl, q, _, _, _, rfl, rfl, SqL.of hq2, atI_nat (j := 0) hc, ?_⟩
      refine ⟨_, rfl, q, rfl, ⟨_, SqL.of hq2⟩, for_list (K := K) (a := q) (xs := vz (lks l.length h)) (fun i σ H' => ∃ (b : Nat) (v : Option V), σ = [some (.ref a), some (.ref q), some (.ref m), some (.int (b : Int)), v] ∧ H' = H2 ∧ b = ((lks l.length h).take i).foldl (gBest l h) c) ?_ ?_ ?_ ?_⟩
      · exact ⟨c, none, rfl, rfl, by simp⟩
      · rintro i σ H' _ ⟨b, v, rfl, rfl, _⟩
        exact SqL.of hq2
      · rintro i x σ H' hx ⟨b, v, rfl, rfl, eb⟩
        obtain ⟨j, hj, rfl⟩ := vz_at hx
        have mj := lks_lt (List.mem_of_getElem? hj)
        have mb : b < l.length ∧ h.testBit b = false := by
          rcases fold_mem (g := gBest l h) (fun b j => by unfold gBest; split <;> simp) ((lks l.length h).take i) c with z | z
          · rw [← eb] at z
            rw [z]
            exact lks_lt (h := h) (by rw [ec]; exact List.mem_cons_self ..)
          · rw [← eb] at z
            exact lks_lt (List.mem_of_mem_take z)
        obtain ⟨t, g1, g2, g3⟩ := hms (h ||| 2 ^ j) (or_lt hA.had mj.1)
        obtain ⟨u, f1, f2, f3⟩ := hms (h ||| 2 ^ b) (or_lt hA.had mb.1)
        have ef : ((lks l.length h).take (i + 1)).foldl (gBest l h) c = gBest l h b j := by
          rw [take_one hj, List.foldl_append, ← eb]
          rfl
        refine ⟨_, rfl, _, rfl, a, C, dx, _, _, rfl, hI2, T.cl, T.nH, af_had _ _ _, _, rfl, h, j, rfl, by omega, m, ms, _, _, rfl, rfl, SqL.of hm, (by
          rw [add_bit mj.2]
          exact atI_nat g1), _, rfl, _, rfl, a, C, dx, _, _, rfl, hI2, T.cl, T.nH, af_had _ _ _, _, rfl, h, b, rfl, by omega, m, ms, _, _, rfl, rfl, SqL.of hm, (by
          rw [add_bit mb.2]
          exact atI_nat f1), t, u, _, _, rfl, g2, f2, f3.2.1, f3.2.2, g3.2.1, g3.2.2, Mq_den hA.ok _, Mq_den hA.ok _, _, rfl, ?_⟩
        unfold gBest at ef
        refine ite2 (fun e2 => ?_) (fun e2 => ?_)
        · rw [if_pos (by simpa using e2)] at ef
          exact ⟨_, rfl, j, _, rfl, rfl, ef.symm⟩
        · rw [if_neg (by simpa using e2)] at ef
          exact ⟨b, _, rfl, rfl, ef.symm⟩
      · rintro σ H' ⟨b, v, rfl, rfl, eb⟩
        rw [vz_len, List.take_length] at eb
        rw [← eb] at st
        refine ⟨_, rfl, (by show 1 ≤ sizeLine; decide), fun p hp => ?_⟩
        exact (k _ _ _ st).same hA (same_new (s1.trans s2) hp) (same_free (s1.trans s2) hp) upd_same
/-! ### rarest -/
theorem scRare : FnScope ["album", "lacking", "rarest", "kind"] ["album"] (defScope sRare) := ⟨rfl, rfl, rfl, by decide +kernel, rfl, by decide +kernel, by decide +kernel⟩
theorem get_D {l : List Nat} {j : Nat} (h : j < l.length) : l[j]? = some (l.getD j 0) := by
  rw [List.getD_eq_getElem?_getD, List.getElem?_eq_getElem h]
  rfl
theorem ok_rare {f C : Addr} {fd : FuncData} (F : Fun K "call_rarest" "call_rarest" sRare f fd) (T : Txt K mg C) (N : Cons mg) (GC : Df P w K mg base "lacking_kinds" 2 ["album"] (spLacks C)) : FnOk P w K mg base CX0 3 f fd ["album"] (spOne C .rarest) := by
  refine F.ok scRare (fun vs H Q E h => ?_) (fun cdv A outer s H vs Q E hr h => ?_)
  · obtain ⟨a, wl, l, h, rfl, _⟩ := h
    rfl
  · obtain ⟨a, wl, l, h, rfl, hA, k⟩ := h
    obtain ⟨dx, hI⟩ := hA.ins
    refine ⟨_, pss_cons (ps_set (i := 1) scRare.nd rfl (Or.inl rfl) (pe_df GC hr rfl (pa_cons (pv 0) pa_nil)))
      (pss_cons (ps_if (pt_cmpR op_eq (pe_callB call_len_seq (by rfl) T.own.len PySem.boot_len (pa_cons (pv 1) pa_nil)) pe_int (nomark _)) (pss_one (ps_ret (pe_lst (pa_cons (pe_num N.c33 rfl) pa_nil)))) pss_nil)
      (pss_cons (ps_set (i := 2) scRare.nd rfl (Or.inl rfl) (pe_ix ix_list (pv 1) pe_int (fun _ _ => rfl)))
      (pss_cons (ps_for PassesOwn.never rfl (pi_list (pv 1)) (pg_name (i := 3) scRare.nd rfl (Or.inl rfl))
        (pss_one (ps_if (pt_cmpR op_lt (pe_ix ix_list (pe_fld (pv 0) rfl) (pv 3) (fun _ _ => rfl)) (pe_ix ix_list (pe_fld (pv 0) rfl) (pv 2) (fun _ _ => rfl)) (nomark _))
          (pss_one (ps_set (i := 2) scRare.nd rfl (Or.inl rfl) (pv 3))) pss_nil)))
      (pss_one (ps_ret (pe_lst (pa_cons (pv 2) pa_nil))))))), ?_⟩
    have st : Kp292.step (some ⟨l, h⟩) .rarest = (some ⟨l, h⟩, match lks l.length h with
          | [] => Kp292.say (-33)
          | i :: r => Kp292.say ((r.foldl (gRare l) i : Nat) : Int)) := rfl
    have l6 := hA.ok.len
    refine ⟨_, rfl, a, wl, l, h, rfl, hA, fun H1 q s1 nq hq => ?_⟩
    refine ⟨_, rfl, q, _, rfl, .inl (SqL.of hq), rfl, _, rfl, ?_⟩
    rw [dec_int, vz_len]
    refine ite2 (fun e => ?_) (fun e => ?_)
    · have e' : (lks l.length h).length = 0 := by
        have : (((lks l.length h).length : Nat) : Int) = 0 := by simpa using e
        omega
      rw [lks_nil e'] at st
      refine ⟨(by show 1 ≤ sizeLine; decide), fun p hp => ?_⟩
      exact (k _ _ _ st).same hA (same_new s1 hp) (same_free s1 hp) upd_same
    · obtain ⟨c, r, ec⟩ : ∃ c r, lks l.length h = c :: r := by
        cases ec : lks l.length h with
        | nil => exact absurd (by rw [ec]; rfl) e
        | cons c r => exact ⟨c, r, rfl⟩
      rw [ec] at st
      have st' : Kp292.step (some ⟨l, h⟩) .rarest = (some ⟨l, h⟩, Kp292.say (((lks l.length h).foldl (gRare l) c : Nat) : Int)) := by
        rw [st, ec, fold_self (gRare_self l c)]
      have hI1 := s1 _ _ hI
      have hl1 := s1 _ _ hA.lst
      have hc : (vz (lks l.length h))[0]? = some (V.int (c : Int)) := vz_get (by rw [ec]; rfl)
      refine ⟨_, rfl, q, _, _, _, rfl, rfl, SqL.of hq, atI_nat (j := 0) hc, ?_⟩
      refine ⟨_, rfl, q, rfl, ⟨_, SqL.of hq⟩, for_list (K := K) (a := q) (xs := vz (lks l.length h)) (fun i σ H' => ∃ (b : Nat) (v : Option V), σ = [some (.ref a), some (.ref q), some (.int (b : Int)), v] ∧ H' = H1 ∧ b = ((lks l.length h).take i).foldl (gRare l) c) ?_ ?_ ?_ ?_⟩
      · exact ⟨c, none, rfl, rfl, by simp⟩
      · rintro i σ H' _ ⟨b, v, rfl, rfl, _⟩
        exact SqL.of hq
      · rintro i x σ H' hx ⟨b, v, rfl, rfl, eb⟩
        obtain ⟨j, hj, rfl⟩ := vz_at hx
        have mj := lks_lt (List.mem_of_getElem? hj)
        have mb : b < l.length ∧ h.testBit b = false := by
          rcases fold_mem (g := gRare l) (fun b j => by unfold gRare; split <;> simp) ((lks l.length h).take i) c with z | z
          · rw [← eb] at z
            rw [z]
            exact lks_lt (h := h) (by rw [ec]; exact List.mem_cons_self ..)
          · rw [← eb] at z
            exact lks_lt (List.mem_of_mem_take z)
        have ef : ((lks l.length h).take (i + 1)).foldl (gRare l) c = gRare l b j := by
          rw [take_one hj, List.foldl_append, ← eb]
          rfl
        refine ⟨_, rfl, a, C, dx, _, _, rfl, hI1, T.cl, T.nW, af_weights _ _ _, _, rfl, wl, _, _, _, rfl, rfl, SqL.of hl1, atI_nat (vz_get (get_D mj.1)), _, rfl, a, C, dx, _, _, rfl, hI1, T.cl, T.nW, af_weights _ _ _, _, rfl, wl, _, _, _, rfl, rfl, SqL.of hl1, atI_nat (vz_get (get_D mb.1)), _, _, rfl, rfl, _, rfl, ?_⟩
        unfold gRare at ef
        refine ite2 (fun e2 => ?_) (fun e2 => ?_)
        · have e3 : ((l.getD j 0 : Nat) : Int) < ((l.getD b 0 : Nat) : Int) := of_decide_eq_true e2
          rw [if_pos (by omega)] at ef
          exact ⟨_, rfl, j, _, rfl, rfl, ef.symm⟩
        · have e3 : ¬ ((l.getD j 0 : Nat) : Int) < ((l.getD b 0 : Nat) : Int) := fun z => e2 (decide_eq_true z)
          rw [if_neg (by omega)] at ef
          exact ⟨b, _, rfl, rfl, ef.symm⟩
      · rintro σ H' ⟨b, v, rfl, rfl, eb⟩
        rw [vz_len, List.take_length] at eb
        rw [← eb] at st'
        refine ⟨_, rfl, (by show 1 ≤ sizeLine; decide), fun p hp => ?_⟩
        exact (k _ _ _ st').same hA (same_new s1 hp) (same_free s1 hp) upd_same
/-! ### even -/
theorem scEven : FnScope ["album"] ["album"] (defScope sEven) := ⟨rfl, rfl, rfl, by decide +kernel, rfl, by decide +kernel, by decide +kernel⟩
theorem ok_ones {n : Nat} (h : n ≤ 6) : Ok (List.replicate n 1) := ⟨fun w hw => by rw [(List.mem_replicate.mp hw).2]; decide, fun w hw => by rw [(List.mem_replicate.mp hw).2]; decide, by rw [List.length_replicate]; exact h⟩
theorem lack_zero : ∀ (l : List Nat), lackW l 0 = l
  | [] => rfl
  | w :: l => by
    simp only [lackW, Nat.zero_testBit, Bool.false_eq_true, if_false, Nat.zero_div]
    rw [lack_zero l]
theorem even_val {n : Nat} : Mq (List.replicate n 1) 0 = Hq n n := by
  rcases Nat.eq_zero_or_pos n with h | h
  · subst h
    exact Mq_full rfl
  · exact Mq_ones n h n 0 (by rw [lack_zero, List.length_replicate])
theorem vz_ones (n : Nat) : List.replicate n (V.int 1) = vz (List.replicate n 1) := by
  simp [vz, zs]
theorem ok_even {f C : Addr} {fd : FuncData} (F : Fun K "call_even" "call_even" sEven f fd) (T : Txt K mg C) (GT : Df P w K mg base "told_fraction" 1 ["fraction"] (spTold K)) (GM : Df P w K mg base "mean_table" 4 ["weights"] (spTable K)) :
    FnOk P w K mg base CX0 5 f fd ["album"] (spOne C .even) := by
  refine F.ok scEven (fun vs H Q E h => ?_) (fun cdv A outer s H vs Q E hr h => ?_)
  · obtain ⟨a, wl, l, h, rfl, _⟩ := h
    rfl
  · obtain ⟨a, wl, l, h, rfl, hA, k⟩ := h
    obtain ⟨dx, hI⟩ := hA.ins
    have hr1 : Room 1 _ := hr.mono (by decide)
    refine ⟨_, pss_one (ps_ret (pe_df GT hr1 rfl (pa_cons (pe_ix ix_list (pe_df GM hr rfl (pa_cons (pe_op op_rep (pe_lst (pa_cons pe_int pa_nil)) (pe_callB call_len_seq (by rfl) T.own.len PySem.boot_len (pa_cons (pe_fld (pv 0) rfl) pa_nil))) pa_nil)) pe_int (fun _ _ => rfl)) pa_nil))), ?_⟩
    have l6 := hA.ok.len
    refine ⟨(by show 1 ≤ sizeLine; decide), fun q hq => ?_⟩
    have s1 : Same H (upd H q (.lst [.int 1])) := same_new (same_refl H) hq
    refine ⟨_, rfl, a, C, dx, _, _, rfl, s1 _ _ hI, T.cl, T.nW, af_weights _ _ _, wl, _, rfl, .inl (SqL.of (s1 _ _ hA.lst)), q, _, _, rfl, rfl, upd_same, ?_⟩
    rw [vz_len, Int.toNat_natCast, flat_rep, vz_ones]
    refine ⟨by omega, by omega, (by show 1 * l.length ≤ sizeLine; have : sizeLine = 16777216 := rfl; omega), fun r hr' => ?_⟩
    have s2 := s1.trans (same_new (o := .lst (vz (List.replicate l.length 1))) (same_refl _) hr')
    refine ⟨r, List.replicate l.length 1, rfl, SqL.of upd_same, ok_ones l6, fun H1 m ms s3 hm hlen hms => ?_⟩
    obtain ⟨t, g1, g2, g3⟩ := hms 0 (Nat.pow_pos (by decide))
    refine ⟨m, ms, _, _, rfl, rfl, SqL.of hm, atI_nat (j := 0) g1, t, _, _, rfl, g2, fun H2 p s4 np hp => ?_⟩
    have st : Kp292.step (some ⟨l, h⟩) .even = (some ⟨l, h⟩, Kp292.tellF (Kp292.evenMean l.length)) := rfl
    refine (k l h _ st).frac (q := Mq (List.replicate l.length 1) 0) ?_ hA (s2.trans (s3.trans s4)) (same_free (s2.trans s3) np) hp
    rw [even_val]
    exact even_red l.length
/-! ### next -/
theorem ix_listK {X : Cx} {K : PySem.W.Frag} (hK : X.K = K) : IxR X (rIxL K) := by
  subst hK
  exact ix_list
theorem scNextC : FnScope ["album", "lacking_weight", "kind"] ["album"] (defScope sNextC) := ⟨rfl, rfl, rfl, by decide +kernel, rfl, by decide +kernel, by decide +kernel⟩
def scpNextC : Scope := { kind := .function, names := [(".0", .local), ("kind", .local), ("album", .free)], isGenerator := false, isCoroutine := false, more := [] }
theorem blkNextC : BlkOk ["album", "lacking_weight", "kind"] (defScope sNextC) scpNextC [("kind", 2)] := ⟨rfl, by decide +kernel, by decide +kernel, by decide +kernel, by decide +kernel⟩
theorem ok_nextC {f C : Addr} {fd : FuncData} (F : Fun K "call_next" "call_next" sNextC f fd) (T : Txt K mg C) (N : Cons mg) (GC : Df P w K mg base "lacking_kinds" 2 ["album"] (spLacks C)) (GT : Df P w K mg base "told_fraction" 1 ["fraction"] (spTold K)) (GL : Df P w K mg base "lowest" 2 ["above", "below"] spLow) :
    FnOk P w K mg base CX0 3 f fd ["album"] (spOne C .next) := by
  refine F.ok scNextC (fun vs H Q E h => ?_) (fun cdv A outer s H vs Q E hr h => ?_)
  · obtain ⟨a, wl, l, h, rfl, _⟩ := h
    rfl
  · obtain ⟨a, wl, l, h, rfl, hA, k⟩ := h
    obtain ⟨dx, hI⟩ := hA.ins
    have hr1 : Room 1 _ := hr.mono (by decide)
    refine ⟨_, pss_cons (ps_if (pt_cmpR op_eq (pe_callB call_len_seq (by rfl) T.own.len PySem.boot_len (pa_cons (pe_fld (pv 0) rfl) pa_nil)) pe_int (nomark _))
        (pss_one (ps_ret (pe_lst (pa_cons (pe_num N.c6 rfl) pa_nil)))) pss_nil)
      (pss_cons (ps_set (i := 1) scNextC.nd rfl (Or.inl rfl) (pe_callB (call_sum rfl) (by rfl) T.own.sum PyProof.Rows.boot_sum (pa_cons
        (pe_lc (own := [("kind", 2)]) rfl scNextC.nd (pi_list (pe_df GC hr rfl (pa_cons (pv 0) pa_nil))) blkNextC
          (fun s H C cl fp => pg_name (i := 2) scNextC.nd rfl (Or.inl rfl))
          (fun s H C cl fp => pts_nil)
          (fun s H C cl fp => pe_ix (ix_listK (K := K) rfl) (pe_fldK (K := K) rfl (pv 0) rfl) (pv 2) (fun _ _ => rfl))) pa_nil)))
      (pss_one (ps_ret (pe_df GT hr1 rfl (pa_cons (pe_df GL hr rfl (pa_cons (pv 1) (pa_cons (pe_callB (call_sum rfl) (by rfl) T.own.sum PyProof.Rows.boot_sum (pa_cons (pe_fld (pv 0) rfl) pa_nil)) pa_nil))) pa_nil))))), ?_⟩
    have st : Kp292.step (some ⟨l, h⟩) .next = (some ⟨l, h⟩, if l.length = 0 then Kp292.say (-6) else Kp292.tellF (Kp292.over (Kp292.weight l (Kp292.lacking l h)) (Kp291.sum l))) := rfl
    have l6 := hA.ok.len
    refine ⟨_, rfl, a, C, dx, _, _, rfl, hI, T.cl, T.nW, af_weights _ _ _, wl, _, rfl, .inl (SqL.of hA.lst), rfl, _, rfl, ?_⟩
    rw [dec_int, vz_len]
    refine ite2 (fun e => ?_) (fun e => ?_)
    · have e' : l.length = 0 := by
        have : ((l.length : Nat) : Int) = 0 := by simpa using e
        omega
      rw [if_pos e'] at st
      exact ⟨(by show 1 ≤ sizeLine; decide), fun p hp => (k _ _ _ st).one hA hp⟩
    · have e' : ¬ l.length = 0 := by
        have : ¬ ((l.length : Nat) : Int) = 0 := by simpa using e
        omega
      rw [if_neg e'] at st
      have hl : l ≠ [] := fun z => e' (by rw [z]; rfl)
      refine ⟨_, rfl, a, wl, l, h, rfl, hA, fun H1 q s1 nq hq => ⟨q, rfl, ⟨_, SqL.of hq⟩, fun D hD => ?_⟩⟩
      have hDH : H D = none := same_free s1 hD
      have s0 : Same H1 (upd H1 D (.lst [])) := same_new (same_refl H1) hD
      refine lc_list (K := K) (a := q) (xs := vz (lks l.length h)) (fun i H' => Same H1 H' ∧ H' D = some (.lst (vz (((lks l.length h).take i).map fun j => l.getD j 0)))) ⟨s0, upd_same⟩ ?_ ?_ ?_
      · rintro i H' _ ⟨sm, _⟩
        exact SqL.of (sm _ _ hq)
      · rintro i x H' hx ⟨sm, hacc⟩
        obtain ⟨j, hj, rfl⟩ := vz_at hx
        have mj := lks_lt (List.mem_of_getElem? hj)
        have hi : i < (lks l.length h).length := lt_of_at hj
        have hle := lks_le l.length h
        refine ⟨rfl, ?_⟩
        unfold tYes
        refine iteT ?_
        refine ⟨_, rfl, a, C, dx, _, _, rfl, sm _ _ (s1 _ _ hI), T.cl, T.nW, af_weights _ _ _, _, rfl, wl, _, _, _, rfl, rfl, SqL.of (sm _ _ (s1 _ _ hA.lst)), atI_nat (vz_get (get_D mj.1)), _, hacc, ?_, same_upd sm hD, ?_⟩
        · rw [vz_len, List.length_map, List.length_take]
          have : sizeLine = 16777216 := rfl
          omega
        · rw [upd_same, take_one hj, List.map_append, vz_snoc]
          rfl
      · rintro H' ⟨sm, hacc⟩
        rw [vz_len, List.take_length, lack_map] at hacc
        have hS := sm_pos hA.ok.pos hl
        refine ⟨D, zs (lackW l h), rfl, SqL.of hacc, ?_⟩
        rw [zs_sum]
        have s120 := hA.ok.sm120
        refine ⟨_, rfl, _, rfl, a, C, dx, _, _, rfl, sm _ _ (s1 _ _ hI), T.cl, T.nW, af_weights _ _ _, wl, zs l, rfl, SqL.of (sm _ _ (s1 _ _ hA.lst)), Ak.sm (lackW l h), Ak.sm l, (by rw [zs_sum]; rfl), hS, log_of_pow hS (Nat.lt_of_le_of_lt s120 (pow_up (a := 7) (by decide) (by decide))), fun H2 p s2 hp => ?_⟩
        refine ⟨p, _, _, rfl, SqT.of hp, fun H3 p3 s3 np3 hp3 => ?_⟩
        exact (k l h _ st).frac (next_red hA.ok.pos hl h) hA (s1.trans (sm.trans (s2.trans s3))) (same_free (s1.trans (sm.trans s2)) np3) hp3
/-! ### lacking, told -/
theorem scLackC : FnScope ["album", "lacking"] ["album"] (defScope sLackC) := ⟨rfl, rfl, rfl, by decide +kernel, rfl, by decide +kernel, by decide +kernel⟩
theorem ok_lackC {f C : Addr} {fd : FuncData} (F : Fun K "call_lacking" "call_lacking" sLackC f fd) (T : Txt K mg C) (GC : Df P w K mg base "lacking_kinds" 2 ["album"] (spLacks C)) : FnOk P w K mg base CX0 3 f fd ["album"] (spOne C .lacking) := by
  refine F.ok scLackC (fun vs H Q E h => ?_) (fun cdv A outer s H vs Q E hr h => ?_)
  · obtain ⟨a, wl, l, h, rfl, _⟩ := h
    rfl
  · obtain ⟨a, wl, l, h, rfl, hA, k⟩ := h
    refine ⟨_, pss_cons (ps_set (i := 1) scLackC.nd rfl (Or.inl rfl) (pe_df GC hr rfl (pa_cons (pv 0) pa_nil)))
      (pss_one (ps_ret (pe_op op_cat (pe_lst (pa_cons (pe_callB call_len_seq (by rfl) T.own.len PySem.boot_len (pa_cons (pv 1) pa_nil)) pa_nil)) (pv 1)))), ?_⟩
    have st : Kp292.step (some ⟨l, h⟩) .lacking = (some ⟨l, h⟩, ⟨(Kp292.size l (Kp292.lacking l h) : Int), zs (lks l.length h)⟩) := rfl
    have l6 := hA.ok.len
    have hle := lks_le l.length h
    refine ⟨_, rfl, a, wl, l, h, rfl, hA, fun H1 q s1 nq hq => ?_⟩
    refine ⟨_, rfl, q, _, rfl, .inl (SqL.of hq), (by show 1 ≤ sizeLine; decide), fun r hr' => ?_⟩
    have s2 := same_new (o := .lst [.int (((vz (lks l.length h)).length : Nat) : Int)]) (same_refl H1) hr'
    refine ⟨_, rfl, r, q, _, _, rfl, rfl, upd_same, s2 _ _ hq, (by rw [vz_len]; show 1 + _ ≤ _; have : sizeLine = 16777216 := rfl; omega), fun p hp => ?_⟩
    refine (k _ _ _ st).same hA (same_new (s1.trans s2) hp) (same_free (s1.trans s2) hp) ?_
    rw [upd_same, vz_len, lks_length, size_lack]
    rfl
theorem scToldC : FnScope ["album"] ["album"] (defScope sToldC) := ⟨rfl, rfl, rfl, by decide +kernel, rfl, by decide +kernel, by decide +kernel⟩
theorem ok_toldC {f C : Addr} {fd : FuncData} (F : Fun K "call_told" "call_told" sToldC f fd) (T : Txt K mg C) : FnOk P w K mg base CX0 1 f fd ["album"] (spOne C .told) := by
  refine F.ok scToldC (fun vs H Q E h => ?_) (fun cdv A outer s H vs Q E hr h => ?_)
  · obtain ⟨a, wl, l, h, rfl, _⟩ := h
    rfl
  · obtain ⟨a, wl, l, h, rfl, hA, k⟩ := h
    obtain ⟨dx, hI⟩ := hA.ins
    refine ⟨_, pss_one (ps_ret (pe_op op_cat (pe_lst (pa_cons (pe_callB call_len_seq (by rfl) T.own.len PySem.boot_len (pa_cons (pe_fld (pv 0) rfl) pa_nil)) (pa_cons (pe_fld (pv 0) rfl) pa_nil))) (pe_fld (pv 0) rfl))), ?_⟩
    have st : Kp292.step (some ⟨l, h⟩) .told = (some ⟨l, h⟩, ⟨(l.length : Int), zs (h :: l)⟩) := rfl
    have l6 := hA.ok.len
    refine ⟨_, rfl, a, C, dx, _, _, rfl, hI, T.cl, T.nW, af_weights _ _ _, wl, _, rfl, .inl (SqL.of hA.lst), _, rfl, a, C, dx, _, _, rfl, hI, T.cl, T.nH, af_had _ _ _, (by show 2 ≤ sizeLine; decide), fun r hr' => ?_⟩
    have s2 := same_new (o := .lst [.int (((vz l).length : Nat) : Int), .int (h : Int)]) (same_refl H) hr'
    refine ⟨_, rfl, a, C, dx, _, _, rfl, s2 _ _ hI, T.cl, T.nW, af_weights _ _ _, r, wl, _, _, rfl, rfl, upd_same, s2 _ _ hA.lst, (by rw [vz_len]; show 2 + _ ≤ _; have : sizeLine = 16777216 := rfl; omega), fun p hp => ?_⟩
    refine (k _ _ _ st).same hA (same_new s2 hp) (same_free s2 hp) ?_
    rw [upd_same, vz_len]
    rfl
/-! ### more -/
theorem scMore : FnScope ["album", "weight", "refusal"] ["album", "weight"] (defScope sMore) := ⟨rfl, rfl, rfl, by decide +kernel, rfl, by decide +kernel, by decide +kernel⟩
theorem ok_more {f C : Addr} {fd : FuncData} (F : Fun K "call_more" "call_more" sMore f fd) (T : Txt K mg C) (N : Cons mg) (GN : Df P w K mg base "refusal_of_new" 1 ["album", "weight"] (spRefN C)) (GT : Df P w K mg base "told_fraction" 1 ["fraction"] (spTold K))
    (GM : Df P w K mg base "mean_table" 4 ["weights"] (spTable K)) : FnOk P w K mg base CX0 5 f fd ["album", "weight"] (spTwo C .more) := by
  refine F.ok scMore (fun vs H Q E h => ?_) (fun cdv A outer s H vs Q E hr h => ?_)
  · obtain ⟨a, wl, l, h, x, rfl, _⟩ := h
    rfl
  · obtain ⟨a, wl, l, h, x, rfl, hA, k⟩ := h
    obtain ⟨dx, hI⟩ := hA.ins
    have hr1 : Room 1 _ := hr.mono (by decide)
    refine ⟨_, pss_cons (ps_set (i := 2) scMore.nd rfl (Or.inl rfl) (pe_df GN hr1 rfl (pa_cons (pv 0) (pa_cons (pv 1) pa_nil))))
      (pss_cons (ps_if (pt_cmpR op_ne (pv 2) (pe_num N.c0 rfl) (nomark _)) (pss_one (ps_ret (pe_lst (pa_cons (pv 2) pa_nil)))) pss_nil)
      (pss_one (ps_ret (pe_df GT hr1 rfl (pa_cons (pe_ix ix_list (pe_df GM hr rfl (pa_cons (pe_op op_cat (pe_fld (pv 0) rfl) (pe_lst (pa_cons (pv 1) pa_nil))) pa_nil)) (pe_fld (pv 0) rfl) (fun _ _ => rfl)) pa_nil))))), ?_⟩
    have st : Kp292.step (some ⟨l, h⟩) (.more x) = (some ⟨l, h⟩, if Kp291.okW x = false then Kp292.say (-22) else if 6 ≤ l.length then Kp292.say (-28) else Kp292.tellF (Kp292.mean (l ++ [x]) h)) := rfl
    have l6 := hA.ok.len
    refine ⟨_, rfl, _, rfl, a, wl, l, h, x, rfl, hA, ?_⟩
    refine ⟨_, rfl, rfl, _, rfl, ?_⟩
    rw [dec_int]
    refine ite2 (fun e => ?_) (fun e => ?_)
    · have e' : refN l x ≠ 0 := by simpa using e
      exact ⟨_, rfl, (by show 1 ≤ sizeLine; decide), fun p hp => (k _ _ _ (refN_no e' h).2).one hA hp⟩
    · have e' : refN l x = 0 := by simpa using e
      obtain ⟨h1, h2⟩ := refN_ok e'
      rw [if_neg h1, if_neg h2] at st
      have o2 := ok_snoc hA.ok e'
      refine ⟨_, rfl, a, C, dx, _, _, rfl, hI, T.cl, T.nW, af_weights _ _ _, _, rfl, (by show 1 ≤ sizeLine; decide), fun r hr' => ?_⟩
      have s2 := same_new (o := .lst [.int (x : Int)]) (same_refl H) hr'
      refine ⟨wl, r, _, _, rfl, rfl, s2 _ _ hA.lst, upd_same, (by rw [vz_len]; show _ + 1 ≤ _; have : sizeLine = 16777216 := rfl; omega), fun q hq => ?_⟩
      rw [vz_snoc]
      have s3 := s2.trans (same_new (o := .lst (vz (l ++ [x]))) (same_refl _) hq)
      refine ⟨q, l ++ [x], rfl, SqL.of upd_same, o2, fun H1 m ms s4 hm hlen hms => ?_⟩
      obtain ⟨t, g1, g2, g3⟩ := hms h (Nat.lt_of_lt_of_le hA.had (Nat.pow_le_pow_right (by decide) (by rw [List.length_append]; exact Nat.le_add_right _ _)))
      refine ⟨_, rfl, a, C, dx, _, _, rfl, s4 _ _ (s3 _ _ hI), T.cl, T.nH, af_had _ _ _, m, ms, _, _, rfl, rfl, SqL.of hm, atI_nat g1, t, _, _, rfl, g2, fun H2 p s5 np hp => ?_⟩
      exact (k l h _ st).frac (mean_red o2.pos h) hA (s3.trans (s4.trans s5)) (same_free (s3.trans s4) np) hp
end
end Ak

set_option Elab.async false
set_option linter.all false
set_option maxRecDepth 100000
set_option maxHeartbeats 2000000
namespace Ak
open PySem PySem.Spec PyProof.Rows L2
/-! ### the calls as they stand in the list -/
def alone (c : Int) : Option Kp292.Call := if c = 0 then some .begin_ else if c = 4 then some .mean else if c = 8 then some .half else if c = 11 then some .best else if c = 12 then some .even else if c = 13 then some .next else if c = 14 then some .lacking else if c = 15 then some .rarest else if c = 17 then some .told else none
def numd (c : Int) : Option (Nat → Kp292.Call) := if c = 1 then some .kind else if c = 2 then some .got else if c = 3 then some .lost else if c = 5 then some .meanFrom else if c = 6 then some .allBy else if c = 7 then some .at_ else if c = 9 then some .last else if c = 10 then some .worth else if c = 16 then some .more else none
inductive Sort1 (c : Int) : Prop
  | one (cc : Kp292.Call) : alone c = some cc → numd c = none → PyKp292.shape c = some (0, 0) → PyKp292.whole [[c]] = [[c]] → (∀ s, Kp292Neutral.step s [[c]] = ((Kp292.step s cc).1, (Kp292.step s cc).2.num :: (Kp292.step s cc).2.nums)) →
      (c ≠ 0 → Kp292.step none cc = (none, Kp292.say (-11))) → (c = 0 → cc = .begin_) → Sort1 c
  | two (cf : Nat → Kp292.Call) : alone c = none → numd c = some cf → PyKp292.shape c = some (1, 0) → c ≠ 0 → (∀ x, PyKp292.whole [[c, x]] = [[c, x]]) → (∀ x s, Kp292Neutral.step s [[c, x]] = ((Kp292.step s (cf x.toNat)).1, (Kp292.step s (cf x.toNat)).2.num :: (Kp292.step s (cf x.toNat)).2.nums)) →
      (∀ x, Kp292Neutral.asked1 [[c, x]] = Kp292Neutral.natural x) → (∀ x, Kp292.step none (cf x) = (none, Kp292.say (-11))) → Sort1 c
  | no : alone c = none → numd c = none → PyKp292.shape c = none → Sort1 c
theorem sort1 (c : Int) : Sort1 c := by
  by_cases h0 : c = 0
  · subst h0; exact .one .begin_ rfl rfl rfl rfl (fun _ => rfl) (fun z => absurd rfl z) (fun z => rfl)
  by_cases h1 : c = 1
  · subst h1; exact .two .kind rfl rfl rfl (by decide) (fun _ => rfl) (fun _ _ => rfl) (fun _ => rfl) (fun _ => rfl)
  by_cases h2 : c = 2
  · subst h2; exact .two .got rfl rfl rfl (by decide) (fun _ => rfl) (fun _ _ => rfl) (fun _ => rfl) (fun _ => rfl)
  by_cases h3 : c = 3
  · subst h3; exact .two .lost rfl rfl rfl (by decide) (fun _ => rfl) (fun _ _ => rfl) (fun _ => rfl) (fun _ => rfl)
  by_cases h4 : c = 4
  · subst h4; exact .one .mean rfl rfl rfl rfl (fun _ => rfl) (fun z => rfl) (fun z => absurd z (by decide))
  by_cases h5 : c = 5
  · subst h5; exact .two .meanFrom rfl rfl rfl (by decide) (fun _ => rfl) (fun _ _ => rfl) (fun _ => rfl) (fun _ => rfl)
  by_cases h6 : c = 6
  · subst h6; exact .two .allBy rfl rfl rfl (by decide) (fun _ => rfl) (fun _ _ => rfl) (fun _ => rfl) (fun _ => rfl)
  by_cases h7 : c = 7
  · subst h7; exact .two .at_ rfl rfl rfl (by decide) (fun _ => rfl) (fun _ _ => rfl) (fun _ => rfl) (fun _ => rfl)
  by_cases h8 : c = 8
  · subst h8; exact .one .half rfl rfl rfl rfl (fun _ => rfl) (fun z => rfl) (fun z => absurd z (by decide))
  by_cases h9 : c = 9
  · subst h9; exact .two .last rfl rfl rfl (by decide) (fun _ => rfl) (fun _ _ => rfl) (fun _ => rfl) (fun _ => rfl)
  by_cases h10 : c = 10
  · subst h10; exact .two .worth rfl rfl rfl (by decide) (fun _ => rfl) (fun _ _ => rfl) (fun _ => rfl) (fun _ => rfl)
  by_cases h11 : c = 11
  · subst h11; exact .one .best rfl rfl rfl rfl (fun _ => rfl) (fun z => rfl) (fun z => absurd z (by decide))
  by_cases h12 : c = 12
  · subst h12; exact .one .even rfl rfl rfl rfl (fun _ => rfl) (fun z => rfl) (fun z => absurd z (by decide))
  by_cases h13 : c = 13
  · subst h13; exact .one .next rfl rfl rfl rfl (fun _ => rfl) (fun z => rfl) (fun z => absurd z (by decide))
  by_cases h14 : c = 14
  · subst h14; exact .one .lacking rfl rfl rfl rfl (fun _ => rfl) (fun z => rfl) (fun z => absurd z (by decide))
  by_cases h15 : c = 15
  · subst h15; exact .one .rarest rfl rfl rfl rfl (fun _ => rfl) (fun z => rfl) (fun z => absurd z (by decide))
  by_cases h16 : c = 16
  · subst h16; exact .two .more rfl rfl rfl (by decide) (fun _ => rfl) (fun _ _ => rfl) (fun _ => rfl) (fun _ => rfl)
  by_cases h17 : c = 17
  · subst h17; exact .one .told rfl rfl rfl rfl (fun _ => rfl) (fun z => rfl) (fun z => absurd z (by decide))
  refine .no ?_ ?_ ?_
  · unfold alone
    simp only [h0, h1, h2, h3, h4, h5, h6, h7, h8, h9, h10, h11, h12, h13, h14, h15, h16, h17, if_false]
  · unfold numd
    simp only [h0, h1, h2, h3, h4, h5, h6, h7, h8, h9, h10, h11, h12, h13, h14, h15, h16, h17, if_false]
  · unfold PyKp292.shape
    simp only [h0, h1, h2, h3, h4, h5, h6, h7, h8, h9, h10, h11, h12, h13, h14, h15, h16, h17, if_false]
/-- one call taken off -/
theorem calls_one {f : Nat} {c : Int} {r : List Int} {cs : List (List (List Int))} (h : PyFlat.calls PyKp292.shape f (c :: r) = some cs) :
    (∃ f' cs', PyKp292.shape c = some (0, 0) ∧ PyFlat.calls PyKp292.shape f' r = some cs' ∧ cs = [[c]] :: cs') ∨
    (∃ f' cs' x r', PyKp292.shape c = some (1, 0) ∧ r = x :: r' ∧ PyFlat.calls PyKp292.shape f' r' = some cs' ∧ cs = [[c, x]] :: cs') := by
  cases f with
  | zero => cases h
  | succ f =>
    unfold PyFlat.calls PyFlat.call at h
    dsimp only at h
    rcases sort1 c with ⟨cc, _, _, hs, _, _, _, _⟩ | ⟨cf, _, _, hs, _, _, _, _, _⟩ | ⟨_, _, hs⟩
    · rw [hs] at h
      simp only [Nat.not_lt_zero, if_false, List.drop_zero, PyFlat.rows, List.take_zero] at h
      cases e : PyFlat.calls PyKp292.shape f r with
      | none => rw [e] at h; cases h
      | some cs' =>
        rw [e] at h
        exact .inl ⟨f, cs', hs, e, (Option.some.inj h).symm⟩
    · rw [hs] at h
      cases r with
      | nil =>
        simp at h
      | cons x r' =>
        simp only [List.length_cons, show ¬ (r'.length + 1 < 1) by omega, if_false, List.drop_one, List.tail_cons, PyFlat.rows, List.take_one, List.head?_cons, Option.toList] at h
        cases e : PyFlat.calls PyKp292.shape f r' with
        | none => rw [e] at h; cases h
        | some cs' =>
          rw [e] at h
          exact .inr ⟨f, cs', x, r', hs, rfl, e, (Option.some.inj h).symm⟩
    · rw [hs] at h
      cases h
end Ak

set_option Elab.async false
set_option linter.all false
set_option maxRecDepth 100000
set_option maxHeartbeats 2000000
namespace Ak
open PySem PySem.Spec PyProof.Rows L2
abbrev sNum : Stmt := top 50
abbrev sTo : Stmt := top 51
abbrev sAns : Stmt := top 52
abbrev vi (l : List Int) : List V := l.map V.int
theorem vi_get {l : List Int} {i : Nat} {z : Int} (h : l[i]? = some z) : (vi l)[i]? = some (.int z) := by
  rw [List.getElem?_map, h]
  rfl
/-- the album by the document's state -/
def AlbSt (C : Addr) (H : Hp) (a wl : Addr) : Kp292.State → Prop
  | none => ∃ dx h, H a = some (.ins C dx (af false wl h)) ∧ ∃ xs, H wl = some (.lst xs)
  | some st => AlbAt C H a wl st.kinds st.have_
def FinS (C : Addr) (H : Hp) (a wl : Addr) (s : Kp292.State) (ans : List Int) (Q : VK) : Prop :=
  ∀ (H' : Hp) (p wl' : Addr), AlbSt C H' a wl' s → (∀ c o, H c = some o → c ≠ a → c ≠ wl → H' c = some o) → (wl' = wl ∨ H wl' = none) → H p = none → H' p = some (.lst (vi ans)) → Q (.ref p) H'
theorem AlbSt.same {C : Addr} {H H' : Hp} {a wl : Addr} {s : Kp292.State} (A : AlbSt C H a wl s) (e : Same H H') : AlbSt C H' a wl s := by
  cases s with
  | none =>
    obtain ⟨dx, h, h1, xs, h2⟩ := A
    exact ⟨dx, h, e _ _ h1, xs, e _ _ h2⟩
  | some st => exact AlbAt.same A e
theorem AlbSt.ins {C : Addr} {H : Hp} {a wl : Addr} {s : Kp292.State} (A : AlbSt C H a wl s) : ∃ dx h, H a = some (.ins C dx (af s.isSome wl h)) := by
  cases s with
  | none =>
    obtain ⟨dx, h, h1, _⟩ := A
    exact ⟨dx, h, h1⟩
  | some st =>
    obtain ⟨dx, h1⟩ := AlbAt.ins A
    exact ⟨dx, _, h1⟩
theorem AlbSt.lst {C : Addr} {H : Hp} {a wl : Addr} {s : Kp292.State} (A : AlbSt C H a wl s) : ∃ xs, H wl = some (.lst xs) := by
  cases s with
  | none =>
    obtain ⟨dx, h, h1, h2⟩ := A
    exact h2
  | some st => exact ⟨_, AlbAt.lst A⟩
section
variable {P : Program} {w : World} {K : PySem.W.Frag} {mg : Str → Option Value} {base : Heap}
/-! ### __init__ -/
def spInit (C : Addr) : Sp := fun vs H Q _ => ∃ (a dx : Addr), vs = [.ref a] ∧ H a = some (.ins C dx []) ∧ ∀ (H' : Hp) (wl : Addr), H' a = some (.ins C dx (af false wl 0)) → H' wl = some (.lst []) → H wl = none → (∀ b o, H b = some o → b ≠ a → H' b = some o) → Q .non H'
theorem scInit : FnScope ["self"] ["self"] (defScope sInit) := ⟨rfl, rfl, rfl, by decide +kernel, rfl, by decide +kernel, by decide +kernel⟩
theorem af_made (wl : Addr) : putF "had" (V.int 0) (putF "weights" (V.ref wl) (putF "begun" (V.bl false) [])) = af false wl 0 := by
  have e1 : putF "begun" (V.bl false) [] = [(("begun" : Str), V.bl false)] := rfl
  have e2 : putF "weights" (V.ref wl) [(("begun" : Str), V.bl false)] = [(("begun" : Str), V.bl false), (("weights" : Str), V.ref wl)] := (put_ne (by decide +kernel)).trans rfl
  have e3 : putF "had" (V.int 0) [(("begun" : Str), V.bl false), (("weights" : Str), V.ref wl)] = [(("begun" : Str), V.bl false), (("weights" : Str), V.ref wl), (("had" : Str), V.int 0)] := (put_ne (by decide +kernel)).trans (congrArg _ ((put_ne (by decide +kernel)).trans rfl))
  rw [e1, e2, e3]
  rfl
theorem ok_init {f C : Addr} {fd : FuncData} (F : Fun K "__init__" "Album.__init__" sInit f fd) (T : Txt K mg C) : FnOk P w K mg base CX0 1 f fd ["self"] (spInit C) := by
  refine F.ok scInit (fun vs H Q E h => ?_) (fun cdv A outer s H vs Q E hr h => ?_)
  · obtain ⟨a, dx, rfl, _⟩ := h
    rfl
  · obtain ⟨a, dx, rfl, hI, k⟩ := h
    refine ⟨_, pss_cons (ps_fld (pv 0) pe_bl rfl) (pss_cons (ps_fld (pv 0) (pe_lst pa_nil) rfl) (pss_one (ps_fld (pv 0) pe_int rfl))), ?_⟩
    refine ⟨_, rfl, a, C, dx, _, rfl, hI, T.cl, T.nB, (by show 0 < 1000; decide), ?_⟩
    refine ⟨Nat.zero_le _, fun q hq => ?_⟩
    have hqa : q ≠ a := Ne.symm (ne_of_none upd_same hq)
    have hqH : H q = none := by rw [upd_ne hqa] at hq; exact hq
    refine ⟨_, rfl, a, C, dx, _, rfl, (by rw [upd_ne (Ne.symm hqa)]; exact upd_same), T.cl, T.nW, (by show 1 < 1000; decide), ?_⟩
    refine ⟨_, rfl, a, C, dx, _, rfl, upd_same, T.cl, T.nH, ?_, ?_⟩
    · have h1 := length_putF "weights" (V.ref q) (putF "begun" (V.bl false) [])
      have h2 : (putF "begun" (V.bl false) []).length = 1 := rfl
      omega
    · rw [af_made]
      refine k _ q upd_same ?_ hqH (fun b o e hb => ?_)
      · rw [upd_ne hqa, upd_ne hqa]
        exact upd_same
      · rw [upd_ne hb, upd_ne hb, upd_ne (ne_of_none e hqH), upd_ne hb]
        exact e
/-! ### the tables -/
def FnAt (P : Program) (w : World) (K : PySem.W.Frag) (mg : Str → Option Value) (base : Heap) (f : Addr) (k : Nat) (sp : Sp) : Prop :=
  PySem.W.keepIn K (.ref f) = true ∧ ∃ fd ps, FnOk P w K mg base CX0 k f fd ps sp ∧ Binds K fd ps []
structure Tabs (P : Program) (w : World) (K : PySem.W.Frag) (mg : Str → Option Value) (base : Heap) (C : Addr) (k : Nat) : Prop where
  one : ∃ ta DA, mg "CALLS_ALONE" = some (.ref ta) ∧ KTab K ta DA ∧ (∀ c, alone c = none → tabAt DA c = none) ∧ ∀ c cc, alone c = some cc → ∃ f, tabAt DA c = some f ∧ FnAt P w K mg base f k (if c = 0 then spBegin C else spOne C cc)
  two : ∃ tn DN, mg "CALLS_WITH_NUMBER" = some (.ref tn) ∧ KTab K tn DN ∧ ∀ c cf, numd c = some cf → ∃ f, tabAt DN c = some f ∧ FnAt P w K mg base f k (spTwo C cf)
/-! ### numbers_in -/
def spNum : Sp := fun vs H Q _ => ∃ c : Int, vs = [.int c] ∧ Q (.int (if (alone c).isSome then 0 else 1)) H
theorem scNum : FnScope ["call"] ["call"] (defScope sNum) := ⟨rfl, rfl, rfl, by decide +kernel, rfl, by decide +kernel, by decide +kernel⟩
theorem tab_some {D : List (Int × Addr)} {c : Int} (h1 : alone c = none → tabAt D c = none) (h2 : ∀ cc, alone c = some cc → ∃ f, tabAt D c = some f) : (tabAt D c).isSome = (alone c).isSome := by
  cases e : alone c with
  | none =>
    rw [h1 e]
    rfl
  | some cc =>
    obtain ⟨f, hf⟩ := h2 cc e
    rw [hf]
    rfl
theorem ok_num {f C : Addr} {k : Nat} {fd : FuncData} (F : Fun K "numbers_in" "numbers_in" sNum f fd) (TT : Tabs P w K mg base C k) : FnOk P w K mg base CX0 1 f fd ["call"] spNum := by
  refine F.ok scNum (fun vs H Q E h => ?_) (fun cdv A outer s H vs Q E hr h => ?_)
  · obtain ⟨c, rfl, _⟩ := h
    rfl
  · obtain ⟨c, rfl, k⟩ := h
    obtain ⟨ta, DA, m1, t1, n1, f1⟩ := TT.one
    refine ⟨_, pss_cons (ps_if (pt_cmp (pc_kin (pv 0) (pe_glob (v := .ref ta) rfl m1 rfl))) (pss_one (ps_ret pe_int)) pss_nil) (pss_one (ps_ret pe_int)), ?_⟩
    refine ⟨_, rfl, ta, DA, c, rfl, rfl, t1, _, rfl, ?_⟩
    have e := tab_some (D := DA) (c := c) (n1 c) (fun cc h => let ⟨f, hf, _⟩ := f1 c cc h; ⟨f, hf⟩)
    rw [e]
    cases ea : (alone c).isSome with
    | true =>
      rw [ea] at k
      exact iteT k
    | false =>
      rw [ea] at k
      exact iteF k
/-! ### answer_to -/
def spTo (K : PySem.W.Frag) (C : Addr) : Sp := fun vs H Q _ => ∃ (a wl cl : Addr) (p : Nat) (ns : List Int) (c : Int) (s : Kp292.State), vs = [.ref a, .ref cl, .int p] ∧ SqL K H cl (vi ns) ∧ ns[p]? = some c ∧ AlbSt C H a wl s ∧
  ((∃ cc, alone c = some cc ∧ FinS C H a wl (Kp292.step s cc).1 ((Kp292.step s cc).2.num :: (Kp292.step s cc).2.nums) Q) ∨
   (∃ (cf : Nat → Kp292.Call) (x : Nat), numd c = some cf ∧ ns[p + 1]? = some (x : Int) ∧ FinS C H a wl (Kp292.step s (cf x)).1 ((Kp292.step s (cf x)).2.num :: (Kp292.step s (cf x)).2.nums) Q))
theorem scTo : FnScope ["album", "calls", "place", "call"] ["album", "calls", "place"] (defScope sTo) := ⟨rfl, rfl, rfl, by decide +kernel, rfl, by decide +kernel, by decide +kernel⟩
theorem FinS.goes {C : Addr} {H : Hp} {a wl : Addr} {l : List Nat} {h : Nat} {c : Kp292.Call} {Q : VK} (F : FinS C H a wl (Kp292.step (some ⟨l, h⟩) c).1 ((Kp292.step (some ⟨l, h⟩) c).2.num :: (Kp292.step (some ⟨l, h⟩) c).2.nums) Q) : Goes C H a wl l h c Q := by
  intro l' h' ans e
  rw [e] at F
  exact F
theorem FinS.no {C : Addr} {H : Hp} {a wl p : Addr} {s : Kp292.State} {z : Int} {Q : VK} (F : FinS C H a wl s [z] Q) (A : AlbSt C H a wl s) (hp : H p = none) : Q (.ref p) (upd H p (.lst [.int z])) :=
  F _ p wl (A.same (same_new (same_refl H) hp)) (fun c o e _ _ => same_new (same_refl H) hp c o e) (.inl rfl) hp upd_same
abbrev cxTo (P : Program) (w : World) (K : PySem.W.Frag) (mg : Str → Option Value) (base : Heap) (f : Addr) (cdv : Value) (A : Around) (outer : List Env) (s : Shared) (H : Hp) (E : XK) : Cx :=
  (cxOf CX0 P w K mg base ["album", "calls", "place", "call"] "answer_to" (defScope sTo) f cdv A outer s H E).nox
theorem ok_to {f C : Addr} {k : Nat} {fd : FuncData} (F : Fun K "answer_to" "answer_to" sTo f fd) (T : Txt K mg C) (N : Cons mg) (TT : Tabs P w K mg base C k) : FnOk P w K mg base CX0 (k + 1) f fd ["album", "calls", "place"] (spTo K C) := by
  refine F.ok scTo (fun vs H Q E h => ?_) (fun cdv A outer s H vs Q E hr h => ?_)
  · obtain ⟨a, wl, cl, p, ns, c, s, rfl, _⟩ := h
    rfl
  · obtain ⟨a, wl, cl, p, ns, c, s', rfl, hcl, hp, hA, hk⟩ := h
    obtain ⟨ta, DA, m1, t1, n1, f1⟩ := TT.one
    obtain ⟨tn, DN, m2, t2, f2⟩ := TT.two
    obtain ⟨dx, h0, hI⟩ := hA.ins
    refine ⟨_, pss_cons (ps_set (i := 3) scTo.nd rfl (Or.inl rfl) (pe_ix ix_list (pv 1) (pv 2) (fun _ _ => rfl)))
      (pss_cons (ps_if (PW.pt (pw_and (pt_cmpR op_ne (pv 3) (pe_num N.begin_ rfl) (nomark _)) (pw_and1 (pt_not (pt_val (pe_fld (pv 0) rfl))))))
        (pss_one (ps_ret (pe_lst (pa_cons (pe_num N.c11 rfl) pa_nil)))) pss_nil)
      (pss_cons (ps_if (pt_cmp (pc_kin (pv 3) (pe_glob (v := .ref ta) rfl m1 rfl))) (pss_one (ps_ret (pe_callV (pe_kget (pe_glob (v := .ref ta) rfl m1 rfl) (pv 3) (fun _ _ => rfl)) (pa_cons (pv 0) pa_nil)))) pss_nil)
      (pss_one (ps_ret (pe_callV (pe_kget (pe_glob (v := .ref tn) rfl m2 rfl) (pv 3) (fun _ _ => rfl)) (pa_cons (pv 0) (pa_cons (pe_ix ix_list (pv 1) (pe_op op_add (pv 2) pe_int) (fun _ _ => rfl)) pa_nil))))))), ?_⟩
    refine ⟨_, rfl, _, rfl, cl, _, _, _, rfl, rfl, hcl, atI_nat (vi_get hp), ?_⟩
    have eT := tab_some (D := DA) (c := c) (n1 c) (fun cc h => let ⟨f, hf, _⟩ := f1 c cc h; ⟨f, hf⟩)
    -- behind the first test
    have rest : (c = 0 ∨ s'.isSome = true) → tSeq (tIfS (tB (tKIn K (tVar 3) (tC (V.ref ta)))) (tRet (tCallV (cxTo P w K mg base f cdv A outer s H E) (tKGet K (tC (V.ref ta)) (tVar 3)) (tCons (tVar 0) tNil))) tNext)
        (tRet (tCallV (cxTo P w K mg base f cdv A outer s H E) (tKGet K (tC (V.ref tn)) (tVar 3)) (tCons (tVar 0) (tCons (tOp (rIxL K) (tVar 1) (tOp (rI0 fun i j => V.int (i + j)) (tVar 2) (tC (V.int 1)))) tNil)))) { nx := fun _ H' => Q .non H', rt := Q }
        [some (.ref a), some (.ref cl), some (.int (p : Int)), some (.int c)] H := fun hc => by
      refine ⟨_, rfl, ta, DA, c, rfl, rfl, t1, _, rfl, ?_⟩
      rw [eT]
      rcases hk with ⟨cc, hcc, hF⟩ | ⟨cf, x, hcf, hx, hF⟩
      · rw [hcc]
        refine iteT ?_
        obtain ⟨fa, hfa, hkp, fd2, ps2, F2, B2⟩ := f1 c cc hcc
        refine ⟨_, rfl, ta, DA, c, fa, rfl, rfl, t1, hfa, fa, _, rfl, hkp, ⟨k, fd2, ps2, F2, hr, B2⟩, _, rfl, ?_⟩
        by_cases h0 : c = 0
        · rw [if_pos h0]
          rcases sort1 c with ⟨cc', q1, _, _, _, _, _, q2⟩ | ⟨cf, _, _, _, q1, _, _, _, _⟩ | ⟨q1, _, _⟩
          · rw [hcc] at q1
            cases q1
            have eb := q2 h0
            subst eb
            refine ⟨a, dx, wl, _, _, rfl, hI, ?_⟩
            cases s' with
            | none => exact hF
            | some st => exact hF
          · exact absurd h0 q1
          · rw [hcc] at q1
            cases q1
        · rw [if_neg h0]
          cases s' with
          | none => exact absurd (hc.resolve_left h0) (by decide)
          | some st => exact ⟨a, wl, st.kinds, st.have_, rfl, hA, FinS.goes hF⟩
      · rcases sort1 c with ⟨cc', q1, q2, _, _, _, _, _⟩ | ⟨cf', q1, q2, _, q3, _, _, _, _⟩ | ⟨_, q1, _⟩
        · rw [hcf] at q2
          cases q2
        · rw [q1]
          refine iteF ?_
          obtain ⟨fa, hfa, hkp, fd2, ps2, F2, B2⟩ := f2 c cf hcf
          refine ⟨_, rfl, tn, DN, c, fa, rfl, rfl, t2, hfa, fa, _, rfl, hkp, ⟨k, fd2, ps2, F2, hr, B2⟩, _, rfl, _, rfl, _, rfl, _, _, rfl, rfl, cl, _, _, _, rfl, rfl, hcl, (by
            have e : ((p : Int) + 1) = ((p + 1 : Nat) : Int) := by omega
            rw [e]
            exact atI_nat (vi_get hx)), ?_⟩
          cases s' with
          | none => exact absurd (hc.resolve_left q3) (by decide)
          | some st => exact ⟨a, wl, st.kinds, st.have_, x, rfl, hA, FinS.goes hF⟩
        · rw [hcf] at q1
          cases q1
    refine ⟨_, rfl, rfl, _, rfl, ?_⟩
    rw [dec_int]
    by_cases h0 : c = 0
    · have e0 : (!(c == (0 : Int))) = false := by simp [h0]
      rw [e0]
      exact iteF (iteF (rest (.inl h0)))
    · have e0 : (!(c == (0 : Int))) = true := by simp [h0]
      rw [e0]
      refine iteT ⟨_, rfl, a, C, dx, _, _, rfl, hI, T.cl, T.nB, af_begun _ _ _, _, rfl, ?_⟩
      cases s' with
      | some st => exact iteF (rest (.inr rfl))
      | none =>
        refine iteT ⟨(by show 1 ≤ sizeLine; decide), fun q hq => ?_⟩
        rcases hk with ⟨cc, hcc, hF⟩ | ⟨cf, x, hcf, hx, hF⟩
        · rcases sort1 c with ⟨cc', q1, _, _, _, _, q2, _⟩ | ⟨cf, q1, _, _, _, _, _, _, _⟩ | ⟨q1, _, _⟩
          · rw [hcc] at q1
            cases q1
            rw [q2 h0] at hF
            exact hF.no hA hq
          · rw [hcc] at q1
            cases q1
          · rw [hcc] at q1
            cases q1
        · rcases sort1 c with ⟨cc', _, q1, _, _, _, _, _⟩ | ⟨cf', _, q1, _, _, _, _, _, q2⟩ | ⟨_, q1, _⟩
          · rw [hcf] at q1
            cases q1
          · rw [hcf] at q1
            cases q1
            rw [q2 x] at hF
            exact hF.no hA hq
          · rw [hcf] at q1
            cases q1
end
end Ak

set_option Elab.async false
set_option linter.all false
set_option maxRecDepth 100000
set_option maxHeartbeats 2000000
namespace Ak
open PySem PySem.Spec PyProof.Rows L2
theorem sqL_keep {K : PySem.W.Frag} {H H' : Hp} {a : Addr} {xs : List V} (h : SqL K H a xs) (e : ∀ o, H a = some o → H' a = some o) : SqL K H' a xs := by
  rcases h with (h | ⟨o, h⟩) | h
  · exact .inl (.inl (e _ h))
  · exact .inl (.inr ⟨o, e _ h⟩)
  · exact .inr h
/-- what is left to answer -/
structure Left (ns : List Int) (p : Nat) (acc : List Int) (s : Kp292.State) : Prop where
  ex : ∃ f cs, PyFlat.calls PyKp292.shape f (ns.drop p) = some cs ∧ (∀ c ∈ cs, Kp292Neutral.asked1 (PyKp292.whole c) = true) ∧ acc ++ PyFlat.told (PyFlat.played Kp292Neutral.step s (cs.map PyKp292.whole)) = PyKp292.answers ns
theorem told_cons (a : List Int) (l : List (List Int)) : PyFlat.told (a :: l) = ((a.length : Nat) : Int) :: (a ++ PyFlat.told l) := by
  unfold PyFlat.told
  rw [List.flatMap_cons]
  rfl
theorem Left.start {ns : List Int} (h : PyKp292.answers_asked ns = true) : Left ns 0 [] Kp292.start ∧ (PyKp292.answers ns).length ≤ 10000000 := by
  unfold PyKp292.answers_asked at h
  cases e : PyFlat.calls PyKp292.shape ns.length ns with
  | none => rw [e] at h; cases h
  | some raw =>
    rw [e] at h
    simp only [Bool.and_eq_true] at h
    obtain ⟨⟨⟨⟨h1, h2⟩, h3⟩, h4⟩, h5⟩ := h
    unfold Kp292Neutral.asked at h4
    simp only [Bool.and_eq_true] at h4
    refine ⟨⟨ns.length, raw, e, fun c hc => List.all_eq_true.mp h4.2.2 _ (List.mem_map_of_mem hc), ?_⟩, by unfold PyFlat.short at h5; simpa using h5⟩
    unfold PyKp292.answers PyKp292.calls
    rw [e]
    rfl
theorem Left.step {ns : List Int} {p : Nat} {acc : List Int} {s : Kp292.State} {c : Int} (L : Left ns p acc s) (hc : ns[p]? = some c) :
    (∃ cc, alone c = some cc ∧ Left ns (p + 1) (acc ++ ((((Kp292.step s cc).2.num :: (Kp292.step s cc).2.nums).length : Nat) : Int) :: ((Kp292.step s cc).2.num :: (Kp292.step s cc).2.nums)) (Kp292.step s cc).1 ∧ p + 1 ≤ ns.length) ∨
    (∃ (cf : Nat → Kp292.Call) (x : Nat), alone c = none ∧ numd c = some cf ∧ ns[p + 1]? = some (x : Int) ∧
      Left ns (p + 2) (acc ++ ((((Kp292.step s (cf x)).2.num :: (Kp292.step s (cf x)).2.nums).length : Nat) : Int) :: ((Kp292.step s (cf x)).2.num :: (Kp292.step s (cf x)).2.nums)) (Kp292.step s (cf x)).1 ∧ p + 2 ≤ ns.length) := by
  obtain ⟨f, cs, h1, h2, h3⟩ := L.ex
  have hp : p < ns.length := (List.getElem?_eq_some_iff.mp hc).1
  have ed : ns.drop p = c :: ns.drop (p + 1) := by
    rw [List.drop_eq_getElem_cons hp]
    congr 1
    have := List.getElem?_eq_getElem hp
    rw [hc] at this
    exact (Option.some.inj this).symm
  rw [ed] at h1
  rcases calls_one h1 with ⟨f', cs', hs, hcs, e⟩ | ⟨f', cs', x, r', hs, hr, hcs, e⟩
  · subst e
    rcases sort1 c with ⟨cc, q1, q2, q3, q4, q5, q6, q7⟩ | ⟨cf, q1, q2, q3, q4, q5, q6, q7, q8⟩ | ⟨_, _, q1⟩
    · refine .inl ⟨cc, q1, ⟨f', cs', hcs, fun d hd => h2 d (List.mem_cons_of_mem _ hd), ?_⟩, by omega⟩
      rw [← h3, List.map_cons, q4]
      show _ = acc ++ PyFlat.told ((Kp292Neutral.step s [[c]]).2 :: PyFlat.played Kp292Neutral.step (Kp292Neutral.step s [[c]]).1 (cs'.map PyKp292.whole))
      rw [told_cons, q5 s, List.append_assoc]
      rfl
    · rw [hs] at q3; cases q3
    · rw [hs] at q1; cases q1
  · subst e
    rcases sort1 c with ⟨cc, q1, q2, q3, q4, q5, q6, q7⟩ | ⟨cf, q1, q2, q3, q4, q5, q6, q7, q8⟩ | ⟨_, _, q1⟩
    · rw [hs] at q3; cases q3
    · have ha := h2 _ (List.mem_cons_self ..)
      rw [q5, q7] at ha
      unfold Kp292Neutral.natural at ha
      simp only [Bool.and_eq_true, decide_eq_true_eq] at ha
      have hx : ns[p + 1]? = some x := by
        have : (ns.drop (p + 1))[0]? = some x := by rw [hr]; rfl
        rw [List.getElem?_drop] at this
        exact this
      have hp2 : p + 1 < ns.length := (List.getElem?_eq_some_iff.mp hx).1
      have er : r' = ns.drop (p + 2) := by
        have : (ns.drop (p + 1)).drop 1 = r' := by rw [hr]; rfl
        rw [← this, List.drop_drop]
      rw [er] at hcs
      have exn : ((x.toNat : Nat) : Int) = x := by omega
      refine .inr ⟨cf, x.toNat, q1, q2, by rw [exn]; exact hx, ⟨f', cs', hcs, fun d hd => h2 d (List.mem_cons_of_mem _ hd), ?_⟩, by omega⟩
      rw [← h3, List.map_cons, q5]
      show _ = acc ++ PyFlat.told ((Kp292Neutral.step s [[c, x]]).2 :: PyFlat.played Kp292Neutral.step (Kp292Neutral.step s [[c, x]]).1 (cs'.map PyKp292.whole))
      rw [told_cons, q6 x s, List.append_assoc]
      rfl
    · rw [hs] at q1; cases q1
theorem Left.done {ns : List Int} {p : Nat} {acc : List Int} {s : Kp292.State} (L : Left ns p acc s) (hp : ns.length ≤ p) : acc = PyKp292.answers ns := by
  obtain ⟨f, cs, h1, h2, h3⟩ := L.ex
  rw [List.drop_eq_nil_of_le hp] at h1
  have : cs = [] := by
    cases f <;> (unfold PyFlat.calls at h1; exact (Option.some.inj h1).symm)
  subst this
  rw [← h3]
  show acc = acc ++ []
  rw [List.append_nil]
theorem Left.len {ns : List Int} {p : Nat} {acc : List Int} {s : Kp292.State} (L : Left ns p acc s) : acc.length ≤ (PyKp292.answers ns).length := by
  obtain ⟨f, cs, h1, h2, h3⟩ := L.ex
  rw [← h3, List.length_append]
  omega
section
variable {P : Program} {w : World} {K : PySem.W.Frag} {mg : Str → Option Value} {base : Heap}
def spAns (K : PySem.W.Frag) : Sp := fun vs H Q _ => ∃ (cl : Addr) (ns : List Int), vs = [.ref cl] ∧ SqL K H cl (vi ns) ∧ ns.length ≤ 160 ∧ PyKp292.answers_asked ns = true ∧ ∀ (H' : Hp) (p : Addr), H' p = some (.lst (vi (PyKp292.answers ns))) → Q (.ref p) H'
theorem scAns : FnScope ["calls", "album", "answered", "place", "answer"] ["calls"] (defScope sAns) := ⟨rfl, rfl, rfl, by decide +kernel, rfl, by decide +kernel, by decide +kernel⟩
theorem ok_ans {f fI C : Addr} {k : Nat} {fd fdI : FuncData} (F : Fun K "answers" "answers" sAns f fd) (T : Txt K mg C) (M : Mk K C fI) (GI : FnOk P w K mg base CX0 1 fI fdI ["self"] (spInit C)) (bI : Binds K fdI ["self"] [])
    (GT : Df P w K mg base "answer_to" (k + 2) ["album", "calls", "place"] (spTo K C)) (GN : Df P w K mg base "numbers_in" 1 ["call"] spNum) : FnOk P w K mg base CX0 (k + 3) f fd ["calls"] (spAns K) := by
  refine F.ok scAns (fun vs H Q E h => ?_) (fun cdv A outer s H vs Q E hr h => ?_)
  · obtain ⟨cl, ns, rfl, _⟩ := h
    rfl
  · obtain ⟨cl, ns, rfl, hcl, hlen, hask, kk⟩ := h
    have hr1 : Room 1 _ := hr.mono (by omega)
    have hr2 : Room 2 _ := hr.mono (by omega)
    refine ⟨_, pss_cons (ps_set (i := 1) scAns.nd rfl (Or.inl rfl) (pe_make0 M GI hr2 rfl T.mgC bI .nil pass0))
      (pss_cons (ps_set (i := 2) scAns.nd rfl (Or.inl rfl) (pe_lst pa_nil))
      (pss_cons (ps_set (i := 3) scAns.nd rfl (Or.inl rfl) pe_int)
      (pss_cons (ps_while PassesOwn.never (pt_cmpR op_lt (pv 3) (pe_callB call_len_seq (by rfl) T.own.len PySem.boot_len (pa_cons (pv 0) pa_nil)) (nomark _))
        (pss_cons (ps_set (i := 4) scAns.nd rfl (Or.inl rfl) (pe_df GT hr rfl (pa_cons (pv 1) (pa_cons (pv 0) (pa_cons (pv 3) pa_nil)))))
        (pss_cons (ps_expr (pe_bm PySem.F.plainAttrs_list PySem.F.slot_list_append PySem.F.type_list_append mt_append (pv 2) (pa_cons (pe_callB call_len_seq (by rfl) T.own.len PySem.boot_len (pa_cons (pv 4) pa_nil)) pa_nil)))
        (pss_cons (ps_expr (pe_bm PySem.F.plainAttrs_list PySem.F.slot_list_extend PySem.F.type_list_extend mt_extend (pv 2) (pa_cons (pv 4) pa_nil)))
        (pss_one (ps_aug (i := 3) scAns.nd rfl (Or.inl rfl) (pe_op op_add pe_int (pe_df GN hr1 rfl (pa_cons (pe_ix ix_list (pv 0) (pv 3) (fun _ _ => rfl)) pa_nil))) ip_add))))))
      (pss_one (ps_ret (pv 2)))))), ?_⟩
    intro a dx na nd ne
    refine ⟨a, dx, rfl, upd_same, fun H1 wl hI hW nW fr1 => ⟨rfl, ?_⟩⟩
    have s1 : Same H H1 := Same.made na nd fr1
    have nWH : H wl = none := by
      have hwa : wl ≠ a := by
        intro z
        subst z
        rw [hI] at hW
        cases hW
      rw [upd_ne hwa] at nW
      by_cases hwd : wl = dx
      · rw [hwd]; exact nd
      · rw [upd_ne hwd] at nW; exact nW
    refine ⟨Nat.zero_le _, fun q hq => ?_⟩
    have nq : H q = none := same_free s1 hq
    have hqw : q ≠ wl := Ne.symm (ne_of_none hW hq)
    have s2 : Same H (upd H1 q (.lst [])) := same_new s1 hq
    obtain ⟨L0, hL⟩ := Left.start hask
    refine while_by (fun σ H' => ∃ (p : Nat) (wl : Addr) (acc : List Int) (s : Kp292.State) (v : Option V), σ = [some (.ref cl), some (.ref a), some (.ref q), some (.int (p : Int)), v] ∧ Same H H' ∧ H' q = some (.lst (vi acc)) ∧ AlbSt C H' a wl s ∧ H wl = none ∧ q ≠ wl ∧ Left ns p acc s ∧ p ≤ ns.length)
      (fun σ _ => match σ with | [_, _, _, some (.int p), _] => ns.length - p.toNat | _ => 0) ⟨0, wl, [], none, none, rfl, s2, upd_same, ⟨dx, 0, ?_, [], ?_⟩, nWH, hqw, L0, Nat.zero_le _⟩ ?_ ?_
    · rw [upd_ne (ne_of_none hI hq)]; exact hI
    · rw [upd_ne (Ne.symm hqw)]; exact hW
    · rintro σ H' ⟨p, wl, acc, s', v, rfl, sm, hacc, hA, nw, hqw, L, hp⟩
      have hcl' := sm.seq hcl
      refine ⟨_, rfl, _, rfl, cl, _, rfl, .inl hcl', _, _, rfl, rfl, _, rfl, ?_⟩
      have elen : (((vi ns).length : Nat) : Int) = (ns.length : Int) := by rw [List.length_map]
      rw [elen]
      refine ite2 (fun e => ?_) (fun e => ?_)
      · have e' : p < ns.length := by
          have : (p : Int) < (ns.length : Int) := by simpa using e
          omega
        obtain ⟨c, hc⟩ : ∃ c, ns[p]? = some c := ⟨_, List.getElem?_eq_getElem e'⟩
        obtain ⟨dx', h', hI'⟩ := hA.ins
        obtain ⟨xs', hW'⟩ := hA.lst
        have hqa : q ≠ a := ne_of hacc hI' (by intro z; cases z)
        have hz : sizeLine = 16777216 := rfl
        have key : ∃ (ans : List Int) (s2 : Kp292.State) (d : Nat), (∀ Q : VK, FinS C H' a wl s2 ans Q →
            ((∃ cc, alone c = some cc ∧ FinS C H' a wl (Kp292.step s' cc).1 ((Kp292.step s' cc).2.num :: (Kp292.step s' cc).2.nums) Q) ∨
             (∃ (cf : Nat → Kp292.Call) (x : Nat), numd c = some cf ∧ ns[p + 1]? = some (x : Int) ∧ FinS C H' a wl (Kp292.step s' (cf x)).1 ((Kp292.step s' (cf x)).2.num :: (Kp292.step s' (cf x)).2.nums) Q))) ∧
            Left ns (p + 1 + d) (acc ++ (((ans.length : Nat) : Int) :: ans)) s2 ∧ p + 1 + d ≤ ns.length ∧ (if (alone c).isSome = true then (0 : Int) else 1) = (d : Int) := by
          rcases L.step hc with ⟨cc, h1, h2, h3⟩ | ⟨cf, x, h0, h1, hx, h2, h3⟩
          · exact ⟨_, _, 0, fun Q F => .inl ⟨cc, h1, F⟩, h2, h3, by rw [h1]; rfl⟩
          · exact ⟨_, _, 1, fun Q F => .inr ⟨cf, x, h1, hx, F⟩, h2, h3, by rw [h0]; rfl⟩
        obtain ⟨ans, s2, d, hk, hLeft, hpd, hd⟩ := key
        have hLl := hLeft.len
        rw [List.length_append, List.length_cons] at hLl
        refine ⟨_, rfl, _, rfl, _, rfl, a, wl, cl, p, ns, c, s', rfl, hcl', hc, hA, hk _ fun H2 r wl2 hA2 fr2 fw2 nr hr2 => ?_⟩
        have hacc2 := fr2 q _ hacc hqa hqw
        have sm2 : Same H H2 := fun b o e => fr2 b o (sm b o e) (ne_of_none e na) (ne_of_none e nw)
        have nw2 : H wl2 = none := by
          rcases fw2 with z | z
          · rw [z]; exact nw
          · exact same_free sm z
        have hqw2 : q ≠ wl2 := by
          rcases fw2 with z | z
          · rw [z]; exact hqw
          · exact ne_of_none hacc z
        have hqr : q ≠ r := ne_of_none hacc nr
        refine ⟨_, rfl, .inl ⟨rfl, _, SqL.of hacc2⟩, _, rfl, r, _, rfl, .inl (SqL.of hr2), q, _, _, rfl, rfl, hacc2, (by rw [List.length_map]; omega), ?_⟩
        refine ⟨_, rfl, .inl ⟨rfl, _, SqL.of upd_same⟩, _, rfl, q, r, _, _, rfl, rfl, upd_same, (by rw [upd_ne (Ne.symm hqr)]; exact hr2), (by rw [List.length_append, List.length_map, List.length_map]; show acc.length + 1 + ans.length ≤ sizeLine; omega), ?_⟩
        rw [upd_upd]
        have s3 : ∀ o, Same H (upd H2 q o) := fun o => same_upd sm2 nq
        refine ⟨_, rfl, _, rfl, _, rfl, cl, _, _, _, rfl, rfl, (s3 _).seq hcl, atI_nat (vi_get hc), c, rfl, _, _, rfl, rfl, _, _, rfl, rfl, ?_⟩
        rw [hd]
        have ep : (p : Int) + (1 + (d : Int)) = ((p + 1 + d : Nat) : Int) := by omega
        refine ⟨⟨p + 1 + d, wl2, acc ++ (((ans.length : Nat) : Int) :: ans), s2, some (.ref r), ?_, s3 _, ?_, ?_, nw2, hqw2, hLeft, hpd⟩, ?_⟩
        · rw [← ep]
          rfl
        · rw [upd_same, List.length_map]
          simp [vi]
        · obtain ⟨dx2, h2, hI2⟩ := hA2.ins
          have hqa2 : q ≠ a := ne_of hacc2 hI2 (by intro z; cases z)
          cases s2 with
          | none =>
            obtain ⟨dx3, h3, g1, xs3, g2⟩ := hA2
            exact ⟨dx3, h3, by rw [upd_ne (Ne.symm hqa2)]; exact g1, xs3, by rw [upd_ne (Ne.symm hqw2)]; exact g2⟩
          | some st =>
            obtain ⟨dx3, g1⟩ := AlbAt.ins hA2
            exact ⟨⟨dx3, by rw [upd_ne (Ne.symm hqa2)]; exact g1⟩, by rw [upd_ne (Ne.symm hqw2)]; exact AlbAt.lst hA2, AlbAt.ok hA2, AlbAt.had hA2⟩
        · show ns.length - ((p : Int) + (1 + (d : Int))).toNat < ns.length - ((p : Int)).toNat
          omega
      · have e' : ns.length ≤ p := by
          have : ¬ (p : Int) < (ns.length : Int) := by simpa using e
          omega
        refine ⟨_, rfl, ?_⟩
        rw [L.done e'] at hacc
        exact kk H' q hacc
    · rintro σ H' Q1 Q2 hq ⟨v, e1, v2, e2, p2, ys, c1, c2, i3, j3, d1, d2, kb, ek, q⟩
      exact ⟨v, e1, v2, e2, p2, ys, c1, c2, i3, j3, d1, d2, kb, ek, hq _ _ q⟩
end
end Ak

set_option Elab.async false
set_option linter.all false
set_option maxRecDepth 100000
set_option maxHeartbeats 2000000
namespace Ak
open PySem PySem.Spec PyProof.Rows L2
/-! ### what the top has written -/
def DefIn (K : PySem.W.Frag) (x qual : Str) (st : Stmt) (f : Addr) : Prop :=
  PySem.W.nsIn K mainGlobals x = some (some (.ref f)) ∧ ∃ (oc : Value) (od : Option Addr) (kV doc pm : Value) (an : Option Addr) (cdv ct : Value) (osl : Array (Option Value)),
    K.lookup f = some ⟨oc, od, .func (PySem.W.fnOf x qual (defArgs st) (defBody st) (defScope st) .none kV doc pm an cdv ct), osl⟩ ∧ PySem.W.codeIn K cdv qual = true ∧ PySem.W.keepIn K (.ref f) = true
def TabIn (K : PySem.W.Frag) (x : Str) (D : List (Int × Addr)) : Prop :=
  ∃ t, PySem.W.nsIn K mainGlobals x = some (some (.ref t)) ∧ (∃ (es : Array DictEntry) (ep : Nat), K.lookup t = some { cls := .type "dict", dict := none, data := .dict es ep, slots := #[] } ∧ KPairs es.toList D) ∧ (t == sysModules) = false
def NumIn (K : PySem.W.Frag) (x : Str) (i : Int) : Prop := ∃ t, PySem.W.nsIn K mainGlobals x = some (some (.int i t))
section
variable {P : Program} {w : World} {K : PySem.W.Frag} {mg : Str → Option Value} {base h : Heap}
theorem num_in {x : Str} {i : Int} {t : Tok} (e : PySem.W.nsIn K mainGlobals x = some (some (.int i t))) : NumIn K x i := ⟨t, e⟩
theorem def_in {x qual : Str} {st : Stmt} {f : Addr} {oc : Value} {od : Option Addr} {kV doc pm : Value} {an : Option Addr} {cdv ct : Value} {osl : Array (Option Value)} (a : PySem.W.nsIn K mainGlobals x = some (some (.ref f)))
    (l : K.lookup f = some ⟨oc, od, .func (PySem.W.fnOf x qual (defArgs st) (defBody st) (defScope st) .none kV doc pm an cdv ct), osl⟩) (c : PySem.W.codeIn K cdv qual = true) (k : PySem.W.keepIn K (.ref f) = true) : DefIn K x qual st f :=
  ⟨a, oc, od, kV, doc, pm, an, cdv, ct, osl, l, c, k⟩
def InitIn (K : PySem.W.Frag) (qual : Str) (st : Stmt) (fI : Addr) : Prop := ∃ (oc : Value) (od : Option Addr) (kV doc pm : Value) (an : Option Addr) (cdv ct : Value) (osl : Array (Option Value)),
    K.lookup fI = some ⟨oc, od, .func (PySem.W.fnOf "__init__" qual (defArgs st) (defBody st) (defScope st) .none kV doc pm an cdv ct), osl⟩ ∧ PySem.W.codeIn K cdv qual = true ∧ PySem.W.keepIn K (.ref fI) = true
theorem init_in {qual : Str} {st : Stmt} {fI : Addr} {oc : Value} {od : Option Addr} {kV doc pm : Value} {an : Option Addr} {cdv ct : Value} {osl : Array (Option Value)}
    (l : K.lookup fI = some ⟨oc, od, .func (PySem.W.fnOf "__init__" qual (defArgs st) (defBody st) (defScope st) .none kV doc pm an cdv ct), osl⟩) (c : PySem.W.codeIn K cdv qual = true) (k : PySem.W.keepIn K (.ref fI) = true) : InitIn K qual st fI :=
  ⟨oc, od, kV, doc, pm, an, cdv, ct, osl, l, c, k⟩
theorem tab_in {x : Str} {D : List (Int × Addr)} {t : Addr} {es : Array DictEntry} {ep : Nat} (a : PySem.W.nsIn K mainGlobals x = some (some (.ref t))) (l : K.lookup t = some { cls := .type "dict", dict := none, data := .dict es ep, slots := #[] })
    (p : KPairs es.toList D) (s : (t == sysModules) = false) : TabIn K x D := ⟨t, a, ⟨es, ep, l, p⟩, s⟩
theorem NumIn.glob {x : Str} {i : Int} (n : NumIn K x i) (X : K.In h) (G : h.Ns mainGlobals mg) : ∃ t, mg x = some (.int i t) := by
  obtain ⟨t, e⟩ := n
  exact ⟨t, PySem.W.mg_of X G e⟩
theorem TabIn.tab {x : Str} {D : List (Int × Addr)} (n : TabIn K x D) (X : K.In h) (G : h.Ns mainGlobals mg) (nd : (D.map (·.1)).Nodup) : ∃ t, mg x = some (.ref t) ∧ KTab K t D := by
  obtain ⟨t, e, q, s⟩ := n
  exact ⟨t, PySem.W.mg_of X G e, s, nd, q⟩
theorem DefIn.glob {x qual : Str} {st : Stmt} {f : Addr} (D : DefIn K x qual st f) (X : K.In h) (G : h.Ns mainGlobals mg) : mg x = some (.ref f) := PySem.W.mg_of X G D.1
theorem DefIn.fn {x qual : Str} {st : Stmt} {f : Addr} (D : DefIn K x qual st f) : ∃ fd, Fun K x qual st f fd := by
  obtain ⟨_, oc, od, kV, doc, pm, an, cdv, ct, osl, l, c, k⟩ := D
  exact ⟨_, fun_mk l c k⟩
/-- a def that others call -/
theorem DefIn.df {x qual : Str} {st : Stmt} {f : Addr} {k : Nat} {ps : List Str} {sp : Sp} (D : DefIn K x qual st f) (X : K.In h) (G : h.Ns mainGlobals mg)
    (hb : ∀ (kV doc pm : Value) (an : Option Addr) (cdv ct : Value) (us : List Value), us.length = ps.length → bindArgs (PySem.W.fnOf x qual (defArgs st) (defBody st) (defScope st) .none kV doc pm an cdv ct) ⟨us, []⟩ = pure (ps.zip us))
    (ok : ∀ fd, Fun K x qual st f fd → FnOk P w K mg base CX0 k f fd ps sp) : Df P w K mg base x k ps sp := by
  obtain ⟨fd, F⟩ := D.fn
  exact ⟨f, fd, ok fd F, D.glob X G, F.kp, F.binds hb⟩
/-- a def that stands in a table -/
theorem DefIn.at {x qual : Str} {st : Stmt} {f : Addr} {j k : Nat} {ps : List Str} {sp : Sp} (D : DefIn K x qual st f) (hj : j ≤ k)
    (hb : ∀ (kV doc pm : Value) (an : Option Addr) (cdv ct : Value) (us : List Value), us.length = ps.length → bindArgs (PySem.W.fnOf x qual (defArgs st) (defBody st) (defScope st) .none kV doc pm an cdv ct) ⟨us, []⟩ = pure (ps.zip us))
    (ok : ∀ fd, Fun K x qual st f fd → FnOk P w K mg base CX0 j f fd ps sp) : FnAt P w K mg base f k sp := by
  obtain ⟨fd, F⟩ := D.fn
  exact ⟨F.kp, fd, ps, (ok fd F).mono hj, F.binds hb⟩
end
structure Facts (K : PySem.W.Frag) (C fI gGcd gLow gLess gBelow gTold gHad gLacks gWith gBy gTable gLastT gNone gNext gBehind gRefL gRefN gBegin gKind gGot gLost gMean gFrom gAllby gAt gHalf gLast gWorth gBest gEven gNextC gLackC gRare gMore gToldC gNum gTo gAns : Addr) : Prop where
  aC : PySem.W.nsIn K mainGlobals "Album" = some (some (.ref C))
  iI : PySem.W.findIn K (.ref C) "__init__" = some (some (.ref fI))
  iF : PySem.W.isFn K (.ref fI) = true
  iD : InitIn K "Album.__init__" sInit fI
  pg : PySem.W.plainGet K C Str.empty = true
  hd : PySem.W.hasDictIn K C = true
  po : PySem.W.plainOver K C = true
  sa : PySem.W.findIn K (.ref C) "__setattr__" = some (some (.builtin "object.__setattr__"))
  mkC : PySem.W.makesIn K C = true
  kc : PySem.W.keepIn K (.ref C) = true
  nB : PySem.W.findIn K (.ref C) "begun" = some none
  nW : PySem.W.findIn K (.ref C) "weights" = some none
  nH : PySem.W.findIn K (.ref C) "had" = some none
  zS : PySem.W.nsIn K mainGlobals "sum" = some none
  zL : PySem.W.nsIn K mainGlobals "len" = some none
  zR : PySem.W.nsIn K mainGlobals "range" = some none
  zE : PySem.W.nsIn K mainGlobals "enumerate" = some none
  n1 : NumIn K "MOST_KINDS" 6
  n2 : NumIn K "MOST_WEIGHT" 20
  n3 : NumIn K "MOST_DRAWS" 20
  n4 : NumIn K "NO_SUCH_KIND" (-2)
  n5 : NumIn K "NONE_THERE" (-6)
  n6 : NumIn K "NOT_BEGUN" (-11)
  n7 : NumIn K "HAD_ALREADY" (-17)
  n8 : NumIn K "OUT_OF_BOUNDS" (-22)
  n9 : NumIn K "FULL" (-28)
  n10 : NumIn K "NOTHING_LACKING" (-33)
  n11 : NumIn K "NOT_REFUSED" 0
  n12 : NumIn K "BEGIN" 0
  dGcd : DefIn K "common_measure" "common_measure" sGcd gGcd
  dLow : DefIn K "lowest" "lowest" sLow gLow
  dLess : DefIn K "less_by" "less_by" sLess gLess
  dBelow : DefIn K "is_below" "is_below" sBelow gBelow
  dTold : DefIn K "told_fraction" "told_fraction" sTold gTold
  dHad : DefIn K "is_had" "is_had" sHad gHad
  dLacks : DefIn K "lacking_kinds" "lacking_kinds" sLacks gLacks
  dWith : DefIn K "with_kind" "with_kind" sWith gWith
  dBy : DefIn K "by_next_new" "by_next_new" sBy gBy
  dTable : DefIn K "mean_table" "mean_table" sTable gTable
  dLastT : DefIn K "last_table" "last_table" sLastT gLastT
  dNone : DefIn K "rows_of_none" "rows_of_none" sNone gNone
  dNext : DefIn K "rows_with_next" "rows_with_next" sNext gNext
  dBehind : DefIn K "rows_behind" "rows_behind" sBehind gBehind
  dRefL : DefIn K "refusal_of_lacking" "refusal_of_lacking" sRefL gRefL
  dRefN : DefIn K "refusal_of_new" "refusal_of_new" sRefN gRefN
  dBegin : DefIn K "call_begin" "call_begin" sBegin gBegin
  dKind : DefIn K "call_kind" "call_kind" sKind gKind
  dGot : DefIn K "call_got" "call_got" sGot gGot
  dLost : DefIn K "call_lost" "call_lost" sLost gLost
  dMean : DefIn K "call_mean" "call_mean" sMean gMean
  dFrom : DefIn K "call_meanfrom" "call_meanfrom" sFrom gFrom
  dAllby : DefIn K "call_allby" "call_allby" sAllby gAllby
  dAt : DefIn K "call_at" "call_at" sAt gAt
  dHalf : DefIn K "call_half" "call_half" sHalf gHalf
  dLast : DefIn K "call_last" "call_last" sLast gLast
  dWorth : DefIn K "call_worth" "call_worth" sWorth gWorth
  dBest : DefIn K "call_best" "call_best" sBest gBest
  dEven : DefIn K "call_even" "call_even" sEven gEven
  dNextC : DefIn K "call_next" "call_next" sNextC gNextC
  dLackC : DefIn K "call_lacking" "call_lacking" sLackC gLackC
  dRare : DefIn K "call_rarest" "call_rarest" sRare gRare
  dMore : DefIn K "call_more" "call_more" sMore gMore
  dToldC : DefIn K "call_told" "call_told" sToldC gToldC
  dNum : DefIn K "numbers_in" "numbers_in" sNum gNum
  dTo : DefIn K "answer_to" "answer_to" sTo gTo
  dAns : DefIn K "answers" "answers" sAns gAns
  tA : TabIn K "CALLS_ALONE" [(0, gBegin), (4, gMean), (8, gHalf), (11, gBest), (12, gEven), (13, gNextC), (14, gLackC), (15, gRare), (17, gToldC)]
  tN : TabIn K "CALLS_WITH_NUMBER" [(1, gKind), (2, gGot), (3, gLost), (5, gFrom), (6, gAllby), (7, gAt), (9, gLast), (10, gWorth), (16, gMore)]
theorem alone_cases {c : Int} {cc : Kp292.Call} (h : alone c = some cc) : (c = 0 ∧ cc = Kp292.Call.begin_) ∨ (c = 4 ∧ cc = Kp292.Call.mean) ∨ (c = 8 ∧ cc = Kp292.Call.half) ∨ (c = 11 ∧ cc = Kp292.Call.best) ∨ (c = 12 ∧ cc = Kp292.Call.even) ∨ (c = 13 ∧ cc = Kp292.Call.next) ∨ (c = 14 ∧ cc = Kp292.Call.lacking) ∨ (c = 15 ∧ cc = Kp292.Call.rarest) ∨ (c = 17 ∧ cc = Kp292.Call.told) := by
  unfold alone at h
  by_cases h0 : c = 0
  · rw [if_pos h0] at h
    exact .inl ⟨h0, (Option.some.inj h).symm⟩
  rw [if_neg h0] at h
  by_cases h4 : c = 4
  · rw [if_pos h4] at h
    exact .inr (.inl ⟨h4, (Option.some.inj h).symm⟩)
  rw [if_neg h4] at h
  by_cases h8 : c = 8
  · rw [if_pos h8] at h
    exact .inr (.inr (.inl ⟨h8, (Option.some.inj h).symm⟩))
  rw [if_neg h8] at h
  by_cases h11 : c = 11
  · rw [if_pos h11] at h
    exact .inr (.inr (.inr (.inl ⟨h11, (Option.some.inj h).symm⟩)))
  rw [if_neg h11] at h
  by_cases h12 : c = 12
  · rw [if_pos h12] at h
    exact .inr (.inr (.inr (.inr (.inl ⟨h12, (Option.some.inj h).symm⟩))))
  rw [if_neg h12] at h
  by_cases h13 : c = 13
  · rw [if_pos h13] at h
    exact .inr (.inr (.inr (.inr (.inr (.inl ⟨h13, (Option.some.inj h).symm⟩)))))
  rw [if_neg h13] at h
  by_cases h14 : c = 14
  · rw [if_pos h14] at h
    exact .inr (.inr (.inr (.inr (.inr (.inr (.inl ⟨h14, (Option.some.inj h).symm⟩))))))
  rw [if_neg h14] at h
  by_cases h15 : c = 15
  · rw [if_pos h15] at h
    exact .inr (.inr (.inr (.inr (.inr (.inr (.inr (.inl ⟨h15, (Option.some.inj h).symm⟩)))))))
  rw [if_neg h15] at h
  by_cases h17 : c = 17
  · rw [if_pos h17] at h
    exact .inr (.inr (.inr (.inr (.inr (.inr (.inr (.inr (⟨h17, (Option.some.inj h).symm⟩))))))))
  rw [if_neg h17] at h
  cases h
theorem numd_cases {c : Int} {cc : Nat → Kp292.Call} (h : numd c = some cc) : (c = 1 ∧ cc = Kp292.Call.kind) ∨ (c = 2 ∧ cc = Kp292.Call.got) ∨ (c = 3 ∧ cc = Kp292.Call.lost) ∨ (c = 5 ∧ cc = Kp292.Call.meanFrom) ∨ (c = 6 ∧ cc = Kp292.Call.allBy) ∨ (c = 7 ∧ cc = Kp292.Call.at_) ∨ (c = 9 ∧ cc = Kp292.Call.last) ∨ (c = 10 ∧ cc = Kp292.Call.worth) ∨ (c = 16 ∧ cc = Kp292.Call.more) := by
  unfold numd at h
  by_cases h1 : c = 1
  · rw [if_pos h1] at h
    exact .inl ⟨h1, (Option.some.inj h).symm⟩
  rw [if_neg h1] at h
  by_cases h2 : c = 2
  · rw [if_pos h2] at h
    exact .inr (.inl ⟨h2, (Option.some.inj h).symm⟩)
  rw [if_neg h2] at h
  by_cases h3 : c = 3
  · rw [if_pos h3] at h
    exact .inr (.inr (.inl ⟨h3, (Option.some.inj h).symm⟩))
  rw [if_neg h3] at h
  by_cases h5 : c = 5
  · rw [if_pos h5] at h
    exact .inr (.inr (.inr (.inl ⟨h5, (Option.some.inj h).symm⟩)))
  rw [if_neg h5] at h
  by_cases h6 : c = 6
  · rw [if_pos h6] at h
    exact .inr (.inr (.inr (.inr (.inl ⟨h6, (Option.some.inj h).symm⟩))))
  rw [if_neg h6] at h
  by_cases h7 : c = 7
  · rw [if_pos h7] at h
    exact .inr (.inr (.inr (.inr (.inr (.inl ⟨h7, (Option.some.inj h).symm⟩)))))
  rw [if_neg h7] at h
  by_cases h9 : c = 9
  · rw [if_pos h9] at h
    exact .inr (.inr (.inr (.inr (.inr (.inr (.inl ⟨h9, (Option.some.inj h).symm⟩))))))
  rw [if_neg h9] at h
  by_cases h10 : c = 10
  · rw [if_pos h10] at h
    exact .inr (.inr (.inr (.inr (.inr (.inr (.inr (.inl ⟨h10, (Option.some.inj h).symm⟩)))))))
  rw [if_neg h10] at h
  by_cases h16 : c = 16
  · rw [if_pos h16] at h
    exact .inr (.inr (.inr (.inr (.inr (.inr (.inr (.inr (⟨h16, (Option.some.inj h).symm⟩))))))))
  rw [if_neg h16] at h
  cases h
theorem alone_no {c : Int} (h : alone c = none) : c ≠ 0 ∧ c ≠ 4 ∧ c ≠ 8 ∧ c ≠ 11 ∧ c ≠ 12 ∧ c ≠ 13 ∧ c ≠ 14 ∧ c ≠ 15 ∧ c ≠ 17 := by
  unfold alone at h
  by_cases h0 : c = 0
  · rw [if_pos h0] at h
    cases h
  rw [if_neg h0] at h
  by_cases h4 : c = 4
  · rw [if_pos h4] at h
    cases h
  rw [if_neg h4] at h
  by_cases h8 : c = 8
  · rw [if_pos h8] at h
    cases h
  rw [if_neg h8] at h
  by_cases h11 : c = 11
  · rw [if_pos h11] at h
    cases h
  rw [if_neg h11] at h
  by_cases h12 : c = 12
  · rw [if_pos h12] at h
    cases h
  rw [if_neg h12] at h
  by_cases h13 : c = 13
  · rw [if_pos h13] at h
    cases h
  rw [if_neg h13] at h
  by_cases h14 : c = 14
  · rw [if_pos h14] at h
    cases h
  rw [if_neg h14] at h
  by_cases h15 : c = 15
  · rw [if_pos h15] at h
    cases h
  rw [if_neg h15] at h
  by_cases h17 : c = 17
  · rw [if_pos h17] at h
    cases h
  rw [if_neg h17] at h
  exact ⟨h0, h4, h8, h11, h12, h13, h14, h15, h17⟩
theorem tab_no {g0 g1 g2 g3 g4 g5 g6 g7 g8 : Addr} {c : Int} (h : alone c = none) : tabAt [(0, g0), (4, g1), (8, g2), (11, g3), (12, g4), (13, g5), (14, g6), (15, g7), (17, g8)] c = none := by
  obtain ⟨n0, n4, n8, n11, n12, n13, n14, n15, n17⟩ := alone_no h
  unfold tabAt
  simp only [List.find?_cons, List.find?_nil, decide_eq_false (Ne.symm n0), decide_eq_false (Ne.symm n4), decide_eq_false (Ne.symm n8), decide_eq_false (Ne.symm n11), decide_eq_false (Ne.symm n12), decide_eq_false (Ne.symm n13), decide_eq_false (Ne.symm n14), decide_eq_false (Ne.symm n15), decide_eq_false (Ne.symm n17)]
  rfl
theorem all_mk {P : Program} {w : World} {K : PySem.W.Frag} {h : Heap} {mg : Str → Option Value} {fa C fI gGcd gLow gLess gBelow gTold gHad gLacks gWith gBy gTable gLastT gNone gNext gBehind gRefL gRefN gBegin gKind gGot gLost gMean gFrom gAllby gAt gHalf gLast gWorth gBest gEven gNextC gLackC gRare gMore gToldC gNum gTo gAns : Addr} (X : K.In h) (G : h.Ns mainGlobals mg) (hfa : mg "answers" = some (.ref fa))
    (Z : Facts K C fI gGcd gLow gLess gBelow gTold gHad gLacks gWith gBy gTable gLastT gNone gNext gBehind gRefL gRefN gBegin gKind gGot gLost gMean gFrom gAllby gAt gHalf gLast gWorth gBest gEven gNextC gLackC gRare gMore gToldC gNum gTo gAns) :
    ∃ fd : FuncData, (∀ (s : Shared) (us : List Value), us.length = (["calls"] : List Str).length → BindsTo s fd ⟨us, []⟩ ((["calls"] : List Str).zip us)) ∧ ∀ base : Heap, K.In base → base.Ns mainGlobals mg → FnOk P w K mg base CX0 9 fa fd ["calls"] (spAns K) := by
  have e := hfa.symm.trans (Z.dAns.glob X G)
  cases e
  have T : Txt K mg C := ⟨⟨Z.pg, Z.hd, Z.po, Z.sa⟩, Z.nB, Z.nW, Z.nH, PySem.W.mg_of X G Z.aC, ⟨PySem.W.mg_none_of X G Z.zS, PySem.W.mg_none_of X G Z.zL, PySem.W.mg_none_of X G Z.zR, PySem.W.mg_none_of X G Z.zE⟩⟩
  have N : Cons mg := ⟨Z.n1.glob X G, Z.n2.glob X G, Z.n3.glob X G, Z.n4.glob X G, Z.n5.glob X G, Z.n6.glob X G, Z.n7.glob X G, Z.n8.glob X G, Z.n9.glob X G, Z.n10.glob X G, Z.n11.glob X G, Z.n12.glob X G⟩
  obtain ⟨_, oc, od, kV, doc, pm, an, cdv, ct, osl, lA, cA, kA⟩ := Z.dAns
  have FA := fun_mk (st := sAns) lA cA kA
  refine ⟨PySem.W.fnOf "answers" "answers" (defArgs sAns) (defBody sAns) (defScope sAns) .none kV doc pm an cdv ct, fun s us hu => match us, hu with | [_], _ => .of_eq rfl, fun base _ _ => ?_⟩
  obtain ⟨oc1, od1, kV1, doc1, pm1, an1, cdv1, ct1, osl1, lI, cI, kI⟩ := Z.iD
  have FI := fun_mk (st := sInit) lI cI kI
  have bI := FI.binds (ps := ["self"]) fun _ _ _ _ _ _ us hl => match us, hl with | [_], _ => rfl
  have GI : FnOk P w K mg base CX0 1 fI _ ["self"] (spInit C) := ok_init FI T
  have GGcd : Df P w K mg base "common_measure" 1 ["first", "second"] spGcd := Z.dGcd.df X G (fun _ _ _ _ _ _ us hl => match us, hl with | [_, _], _ => rfl) fun fd F => ok_gcd F
  have GLow : Df P w K mg base "lowest" 2 ["above", "below"] spLow := Z.dLow.df X G (fun _ _ _ _ _ _ us hl => match us, hl with | [_, _], _ => rfl) fun fd F => ok_low F GGcd
  have GLess : Df P w K mg base "less_by" 3 ["greater", "smaller"] (spLess K) := Z.dLess.df X G (fun _ _ _ _ _ _ us hl => match us, hl with | [_, _], _ => rfl) fun fd F => ok_less F GLow
  have GBelow : Df P w K mg base "is_below" 1 ["first", "second"] (spBelow K) := Z.dBelow.df X G (fun _ _ _ _ _ _ us hl => match us, hl with | [_, _], _ => rfl) fun fd F => ok_below F
  have GTold : Df P w K mg base "told_fraction" 1 ["fraction"] (spTold K) := Z.dTold.df X G (fun _ _ _ _ _ _ us hl => match us, hl with | [_], _ => rfl) fun fd F => ok_told F
  have GHad : Df P w K mg base "is_had" 1 ["had", "kind"] spHad := Z.dHad.df X G (fun _ _ _ _ _ _ us hl => match us, hl with | [_, _], _ => rfl) fun fd F => ok_had F
  have GLacks : Df P w K mg base "lacking_kinds" 2 ["album"] (spLacks C) := Z.dLacks.df X G (fun _ _ _ _ _ _ us hl => match us, hl with | [_], _ => rfl) fun fd F => ok_lacks F T GHad
  have GWith : Df P w K mg base "with_kind" 1 ["had", "kind"] spWith := Z.dWith.df X G (fun _ _ _ _ _ _ us hl => match us, hl with | [_, _], _ => rfl) fun fd F => ok_with F
  have GBy : Df P w K mg base "by_next_new" 3 ["weights", "had", "later", "start"] (spBy K) := Z.dBy.df X G (fun _ _ _ _ _ _ us hl => match us, hl with | [_, _, _, _], _ => rfl) fun fd F => ok_by F T.own GHad GWith GLow
  have GTable : Df P w K mg base "mean_table" 4 ["weights"] (spTable K) := Z.dTable.df X G (fun _ _ _ _ _ _ us hl => match us, hl with | [_], _ => rfl) fun fd F => ok_table F T.own GBy
  have GLastT : Df P w K mg base "last_table" 4 ["weights", "last"] (spLastT K) := Z.dLastT.df X G (fun _ _ _ _ _ _ us hl => match us, hl with | [_, _], _ => rfl) fun fd F => ok_lastT F T.own GBy
  have GNone : Df P w K mg base "rows_of_none" 1 ["weights", "had"] (spNone K) := Z.dNone.df X G (fun _ _ _ _ _ _ us hl => match us, hl with | [_, _], _ => rfl) fun fd F => ok_none F T.own
  have GNext : Df P w K mg base "rows_with_next" 1 ["weights", "rows"] (spNext K) := Z.dNext.df X G (fun _ _ _ _ _ _ us hl => match us, hl with | [_, _], _ => rfl) fun fd F => ok_next F T.own
  have GBehind : Df P w K mg base "rows_behind" 2 ["album", "draws"] (spBehind C) := Z.dBehind.df X G (fun _ _ _ _ _ _ us hl => match us, hl with | [_, _], _ => rfl) fun fd F => ok_behind F T GNone GNext
  have GRefL : Df P w K mg base "refusal_of_lacking" 2 ["album", "kind"] (spRefL C) := Z.dRefL.df X G (fun _ _ _ _ _ _ us hl => match us, hl with | [_, _], _ => rfl) fun fd F => ok_refL F T N GHad
  have GRefN : Df P w K mg base "refusal_of_new" 1 ["album", "weight"] (spRefN C) := Z.dRefN.df X G (fun _ _ _ _ _ _ us hl => match us, hl with | [_, _], _ => rfl) fun fd F => ok_refN F T N
  have TT : Tabs P w K mg base C 6 := by
    refine ⟨?_, ?_⟩
    · obtain ⟨t, h1, h2⟩ := Z.tA.tab X G (by simp)
      refine ⟨t, _, h1, h2, fun c hc => tab_no hc, fun c cc hc => ?_⟩
      rcases alone_cases hc with ⟨rfl, rfl⟩ | ⟨rfl, rfl⟩ | ⟨rfl, rfl⟩ | ⟨rfl, rfl⟩ | ⟨rfl, rfl⟩ | ⟨rfl, rfl⟩ | ⟨rfl, rfl⟩ | ⟨rfl, rfl⟩ | ⟨rfl, rfl⟩
      · refine ⟨gBegin, rfl, ?_⟩
        rw [if_pos rfl]
        exact Z.dBegin.at (ps := ["album"]) (j := 1) (by decide) (fun _ _ _ _ _ _ us hl => match us, hl with | [_], _ => rfl) fun fd F => ok_begin F T
      · refine ⟨gMean, rfl, ?_⟩
        rw [if_neg (by decide)]
        exact Z.dMean.at (ps := ["album"]) (j := 5) (by decide) (fun _ _ _ _ _ _ us hl => match us, hl with | [_], _ => rfl) fun fd F => ok_mean F T GTold GTable
      · refine ⟨gHalf, rfl, ?_⟩
        rw [if_neg (by decide)]
        exact Z.dHalf.at (ps := ["album"]) (j := 2) (by decide) (fun _ _ _ _ _ _ us hl => match us, hl with | [_], _ => rfl) fun fd F => ok_half F T N GNone GNext
      · refine ⟨gBest, rfl, ?_⟩
        rw [if_neg (by decide)]
        exact Z.dBest.at (ps := ["album"]) (j := 5) (by decide) (fun _ _ _ _ _ _ us hl => match us, hl with | [_], _ => rfl) fun fd F => ok_best F T N GLacks GTable GWith GBelow
      · refine ⟨gEven, rfl, ?_⟩
        rw [if_neg (by decide)]
        exact Z.dEven.at (ps := ["album"]) (j := 5) (by decide) (fun _ _ _ _ _ _ us hl => match us, hl with | [_], _ => rfl) fun fd F => ok_even F T GTold GTable
      · refine ⟨gNextC, rfl, ?_⟩
        rw [if_neg (by decide)]
        exact Z.dNextC.at (ps := ["album"]) (j := 3) (by decide) (fun _ _ _ _ _ _ us hl => match us, hl with | [_], _ => rfl) fun fd F => ok_nextC F T N GLacks GTold GLow
      · refine ⟨gLackC, rfl, ?_⟩
        rw [if_neg (by decide)]
        exact Z.dLackC.at (ps := ["album"]) (j := 3) (by decide) (fun _ _ _ _ _ _ us hl => match us, hl with | [_], _ => rfl) fun fd F => ok_lackC F T GLacks
      · refine ⟨gRare, rfl, ?_⟩
        rw [if_neg (by decide)]
        exact Z.dRare.at (ps := ["album"]) (j := 3) (by decide) (fun _ _ _ _ _ _ us hl => match us, hl with | [_], _ => rfl) fun fd F => ok_rare F T N GLacks
      · refine ⟨gToldC, rfl, ?_⟩
        rw [if_neg (by decide)]
        exact Z.dToldC.at (ps := ["album"]) (j := 1) (by decide) (fun _ _ _ _ _ _ us hl => match us, hl with | [_], _ => rfl) fun fd F => ok_toldC F T
    · obtain ⟨t, h1, h2⟩ := Z.tN.tab X G (by simp)
      refine ⟨t, _, h1, h2, fun c cc hc => ?_⟩
      rcases numd_cases hc with ⟨rfl, rfl⟩ | ⟨rfl, rfl⟩ | ⟨rfl, rfl⟩ | ⟨rfl, rfl⟩ | ⟨rfl, rfl⟩ | ⟨rfl, rfl⟩ | ⟨rfl, rfl⟩ | ⟨rfl, rfl⟩ | ⟨rfl, rfl⟩
      · refine ⟨gKind, rfl, ?_⟩
        exact Z.dKind.at (ps := ["album", "weight"]) (j := 2) (by decide) (fun _ _ _ _ _ _ us hl => match us, hl with | [_, _], _ => rfl) fun fd F => ok_kind F T N GRefN
      · refine ⟨gGot, rfl, ?_⟩
        exact Z.dGot.at (ps := ["album", "kind"]) (j := 3) (by decide) (fun _ _ _ _ _ _ us hl => match us, hl with | [_, _], _ => rfl) fun fd F => ok_got F T N GRefL GWith GLacks
      · refine ⟨gLost, rfl, ?_⟩
        exact Z.dLost.at (ps := ["album", "kind"]) (j := 3) (by decide) (fun _ _ _ _ _ _ us hl => match us, hl with | [_, _], _ => rfl) fun fd F => ok_lost F T N GHad GLacks
      · refine ⟨gFrom, rfl, ?_⟩
        exact Z.dFrom.at (ps := ["album", "had"]) (j := 5) (by decide) (fun _ _ _ _ _ _ us hl => match us, hl with | [_, _], _ => rfl) fun fd F => ok_from F T N GTold GTable
      · refine ⟨gAllby, rfl, ?_⟩
        exact Z.dAllby.at (ps := ["album", "draws"]) (j := 3) (by decide) (fun _ _ _ _ _ _ us hl => match us, hl with | [_, _], _ => rfl) fun fd F => ok_allby F T N GTold GLow GBehind
      · refine ⟨gAt, rfl, ?_⟩
        exact Z.dAt.at (ps := ["album", "draws"]) (j := 3) (by decide) (fun _ _ _ _ _ _ us hl => match us, hl with | [_, _], _ => rfl) fun fd F => ok_at F T N GTold GLow GBehind GNext
      · refine ⟨gLast, rfl, ?_⟩
        exact Z.dLast.at (ps := ["album", "kind"]) (j := 5) (by decide) (fun _ _ _ _ _ _ us hl => match us, hl with | [_, _], _ => rfl) fun fd F => ok_last F T N GRefL GTold GLastT
      · refine ⟨gWorth, rfl, ?_⟩
        exact Z.dWorth.at (ps := ["album", "kind"]) (j := 5) (by decide) (fun _ _ _ _ _ _ us hl => match us, hl with | [_, _], _ => rfl) fun fd F => ok_worth F T N GRefL GTold GTable GWith GLess
      · refine ⟨gMore, rfl, ?_⟩
        exact Z.dMore.at (ps := ["album", "weight"]) (j := 5) (by decide) (fun _ _ _ _ _ _ us hl => match us, hl with | [_, _], _ => rfl) fun fd F => ok_more F T N GRefN GTold GTable
  have GTo : Df P w K mg base "answer_to" 8 ["album", "calls", "place"] (spTo K C) := Z.dTo.df X G (fun _ _ _ _ _ _ us hl => match us, hl with | [_, _, _], _ => rfl) fun fd F => (ok_to F T N TT).mono (by decide)
  have GNum : Df P w K mg base "numbers_in" 1 ["call"] spNum := Z.dNum.df X G (fun _ _ _ _ _ _ us hl => match us, hl with | [_], _ => rfl) fun fd F => ok_num F TT
  exact ok_ans (k := 6) FA T ⟨Z.mkC, Z.iI, Z.iF, Z.kc⟩ GI bI GTo GNum
end Ak
open PySem PySem.W PyProof.Rows
set_option maxRecDepth 100000 in
set_option maxHeartbeats 0 in
theorem PySem.Challenge.cw_albumkinds_s01_answers_holds : PySem.Challenge.rw_albumkinds_s01_answers.Holds := by
  w_on; k_headS; (case hw => exact ⟨[.list [.int 0]], by decide +kernel, by decide +kernel⟩)
  k_fillS
  refine L2.walk_specK (r := PySem.Challenge.rw_albumkinds_s01_answers) (k := 9) (CX := L2.CX0) (ps := ["calls"]) (sp := Ak.spAns) (by decide +kernel) rfl rfl ⟨rfl, by decide, by decide⟩ (fun w h Y => PySem.W.kIn_of Y) ?F ?S (fun _ _ _ _ z => z)
  case F =>
    intro w mg fa h Y KX G hmg
    refine' Ak.all_mk KX G hmg ?FX
    case FX =>
      refine' ⟨?aC, ?iI, ?iF, ?iD, ?pg, ?hd, ?po, ?sa, ?mk, ?kc, ?nB, ?nW, ?nH, ?zS, ?zL, ?zR, ?zE, ?n1, ?n2, ?n3, ?n4, ?n5, ?n6, ?n7, ?n8, ?n9, ?n10, ?n11, ?n12, ?d1, ?d2, ?d3, ?d4, ?d5, ?d6, ?d7, ?d8, ?d9, ?d10, ?d11, ?d12, ?d13, ?d14, ?d15, ?d16, ?d17, ?d18, ?d19, ?d20, ?d21, ?d22, ?d23, ?d24, ?d25, ?d26, ?d27, ?d28, ?d29, ?d30, ?d31, ?d32, ?d33, ?d34, ?d35, ?d36, ?d37, ?tA, ?tN⟩
      case aC => k_is
      case iI => k_is
      case iF => k_is
      case iD => (refine' Ak.init_in ?l ?c ?k; (case l => k_is); (case c => k_is); (case k => k_is))
      case pg => k_is
      case hd => k_is
      case po => k_is
      case sa => k_is
      case mk => k_is
      case kc => k_is
      case nB => k_is
      case nW => k_is
      case nH => k_is
      case zS => k_is
      case zL => k_is
      case zR => k_is
      case zE => k_is
      case n1 => (refine' Ak.num_in ?e; (case e => k_is))
      case n2 => (refine' Ak.num_in ?e; (case e => k_is))
      case n3 => (refine' Ak.num_in ?e; (case e => k_is))
      case n4 => (refine' Ak.num_in ?e; (case e => k_is))
      case n5 => (refine' Ak.num_in ?e; (case e => k_is))
      case n6 => (refine' Ak.num_in ?e; (case e => k_is))
      case n7 => (refine' Ak.num_in ?e; (case e => k_is))
      case n8 => (refine' Ak.num_in ?e; (case e => k_is))
      case n9 => (refine' Ak.num_in ?e; (case e => k_is))
      case n10 => (refine' Ak.num_in ?e; (case e => k_is))
      case n11 => (refine' Ak.num_in ?e; (case e => k_is))
      case n12 => (refine' Ak.num_in ?e; (case e => k_is))
      case d1 => (refine' Ak.def_in ?a ?l ?c ?k; (case a => k_is); (case l => k_is); (case c => k_is); (case k => k_is))
      case d2 => (refine' Ak.def_in ?a ?l ?c ?k; (case a => k_is); (case l => k_is); (case c => k_is); (case k => k_is))
      case d3 => (refine' Ak.def_in ?a ?l ?c ?k; (case a => k_is); (case l => k_is); (case c => k_is); (case k => k_is))
      case d4 => (refine' Ak.def_in ?a ?l ?c ?k; (case a => k_is); (case l => k_is); (case c => k_is); (case k => k_is))
      case d5 => (refine' Ak.def_in ?a ?l ?c ?k; (case a => k_is); (case l => k_is); (case c => k_is); (case k => k_is))
      case d6 => (refine' Ak.def_in ?a ?l ?c ?k; (case a => k_is); (case l => k_is); (case c => k_is); (case k => k_is))
      case d7 => (refine' Ak.def_in ?a ?l ?c ?k; (case a => k_is); (case l => k_is); (case c => k_is); (case k => k_is))
      case d8 => (refine' Ak.def_in ?a ?l ?c ?k; (case a => k_is); (case l => k_is); (case c => k_is); (case k => k_is))
      case d9 => (refine' Ak.def_in ?a ?l ?c ?k; (case a => k_is); (case l => k_is); (case c => k_is); (case k => k_is))
      case d10 => (refine' Ak.def_in ?a ?l ?c ?k; (case a => k_is); (case l => k_is); (case c => k_is); (case k => k_is))
      case d11 => (refine' Ak.def_in ?a ?l ?c ?k; (case a => k_is); (case l => k_is); (case c => k_is); (case k => k_is))
      case d12 => (refine' Ak.def_in ?a ?l ?c ?k; (case a => k_is); (case l => k_is); (case c => k_is); (case k => k_is))
      case d13 => (refine' Ak.def_in ?a ?l ?c ?k; (case a => k_is); (case l => k_is); (case c => k_is); (case k => k_is))
      case d14 => (refine' Ak.def_in ?a ?l ?c ?k; (case a => k_is); (case l => k_is); (case c => k_is); (case k => k_is))
      case d15 => (refine' Ak.def_in ?a ?l ?c ?k; (case a => k_is); (case l => k_is); (case c => k_is); (case k => k_is))
      case d16 => (refine' Ak.def_in ?a ?l ?c ?k; (case a => k_is); (case l => k_is); (case c => k_is); (case k => k_is))
      case d17 => (refine' Ak.def_in ?a ?l ?c ?k; (case a => k_is); (case l => k_is); (case c => k_is); (case k => k_is))
      case d18 => (refine' Ak.def_in ?a ?l ?c ?k; (case a => k_is); (case l => k_is); (case c => k_is); (case k => k_is))
      case d19 => (refine' Ak.def_in ?a ?l ?c ?k; (case a => k_is); (case l => k_is); (case c => k_is); (case k => k_is))
      case d20 => (refine' Ak.def_in ?a ?l ?c ?k; (case a => k_is); (case l => k_is); (case c => k_is); (case k => k_is))
      case d21 => (refine' Ak.def_in ?a ?l ?c ?k; (case a => k_is); (case l => k_is); (case c => k_is); (case k => k_is))
      case d22 => (refine' Ak.def_in ?a ?l ?c ?k; (case a => k_is); (case l => k_is); (case c => k_is); (case k => k_is))
      case d23 => (refine' Ak.def_in ?a ?l ?c ?k; (case a => k_is); (case l => k_is); (case c => k_is); (case k => k_is))
      case d24 => (refine' Ak.def_in ?a ?l ?c ?k; (case a => k_is); (case l => k_is); (case c => k_is); (case k => k_is))
      case d25 => (refine' Ak.def_in ?a ?l ?c ?k; (case a => k_is); (case l => k_is); (case c => k_is); (case k => k_is))
      case d26 => (refine' Ak.def_in ?a ?l ?c ?k; (case a => k_is); (case l => k_is); (case c => k_is); (case k => k_is))
      case d27 => (refine' Ak.def_in ?a ?l ?c ?k; (case a => k_is); (case l => k_is); (case c => k_is); (case k => k_is))
      case d28 => (refine' Ak.def_in ?a ?l ?c ?k; (case a => k_is); (case l => k_is); (case c => k_is); (case k => k_is))
      case d29 => (refine' Ak.def_in ?a ?l ?c ?k; (case a => k_is); (case l => k_is); (case c => k_is); (case k => k_is))
      case d30 => (refine' Ak.def_in ?a ?l ?c ?k; (case a => k_is); (case l => k_is); (case c => k_is); (case k => k_is))
      case d31 => (refine' Ak.def_in ?a ?l ?c ?k; (case a => k_is); (case l => k_is); (case c => k_is); (case k => k_is))
      case d32 => (refine' Ak.def_in ?a ?l ?c ?k; (case a => k_is); (case l => k_is); (case c => k_is); (case k => k_is))
      case d33 => (refine' Ak.def_in ?a ?l ?c ?k; (case a => k_is); (case l => k_is); (case c => k_is); (case k => k_is))
      case d34 => (refine' Ak.def_in ?a ?l ?c ?k; (case a => k_is); (case l => k_is); (case c => k_is); (case k => k_is))
      case d35 => (refine' Ak.def_in ?a ?l ?c ?k; (case a => k_is); (case l => k_is); (case c => k_is); (case k => k_is))
      case d36 => (refine' Ak.def_in ?a ?l ?c ?k; (case a => k_is); (case l => k_is); (case c => k_is); (case k => k_is))
      case d37 => (refine' Ak.def_in ?a ?l ?c ?k; (case a => k_is); (case l => k_is); (case c => k_is); (case k => k_is))
      case tA => (refine' Ak.tab_in ?ua ?ul ?up ?us; (case ua => k_is); (case ul => k_is); (case up => exact .cons rfl (.cons rfl (.cons rfl (.cons rfl (.cons rfl (.cons rfl (.cons rfl (.cons rfl (.cons rfl .nil))))))))); (case us => decide))
      case tN => (refine' Ak.tab_in ?va ?vl ?vp ?vs; (case va => k_is); (case vl => k_is); (case vp => exact .cons rfl (.cons rfl (.cons rfl (.cons rfl (.cons rfl (.cons rfl (.cons rfl (.cons rfl (.cons rfl .nil))))))))); (case vs => decide))
  case S =>
    intro K H xs a hO hwi hask hx
    cases hx with
    | cons h1 h2 =>
      cases h2
      cases h1 with
      | lst hs ha =>
        have e := L2.ints_dw a.1 _ ha
        subst e
        have q : ((Codec.inLen 0 160 a.1 && a.1.all (Codec.inInt 0 4294967295)) && true) = true := hwi
        rw [Bool.and_eq_true, Bool.and_eq_true] at q
        exact ⟨_, a.1, rfl, hs, (Codec.inNat_iff.mp q.1.1).2, hask, fun H' p hp => .lst (L2.SqL.of hp) (L2.dw_ints _)⟩

