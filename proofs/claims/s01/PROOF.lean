import PyProof.Rows.All
import Wide.All
import OpenK.AllK
import Wide.FinOn
import PyProof.EqAt
import PyProof.EqKinds
import PyProof.TupleCall
import KE.BitLaws
import Open.SpecLaws
import KE.OsHead
import KE.OsGo
import PyFlatLaws
import PySem.Challenge.RW_shortcodes_s01_answers
import PyProof.Rows.SortShellAny
import KE.KDictList
import KE.KSortTupG
import KE.KSortKey
import PyProof.ListRange
import PyProof.CollectIter
import KE.KEqSeq
section
set_option Elab.async false
set_option linter.all false
set_option maxRecDepth 100000
namespace L2
open PySem PySem.Spec PyProof.Rows
abbrev Key := Sum Int Str
def keyIs : Key → Value → Bool
  | .inl k, v => Value.isInt k v
  | .inr x, v => Value.isStrOf x v
def keyH (w : World) : Key → Int
  | .inl k => hashInt k
  | .inr x => hashStr w x
theorem keyIs_shape : ∀ {k : Key} {v : Value}, keyIs k v = true → (∃ i t, k = Sum.inl i ∧ v = Value.int i t) ∨ (∃ x t, k = Sum.inr x ∧ v = Value.str x t)
  | .inl i, v, h => by
    obtain ⟨t, e⟩ := Value.isInt_shape (k := i) (v := v) h
    exact .inl ⟨i, t, rfl, e⟩
  | .inr x, v, h => by
    obtain ⟨t, e⟩ := Value.isStrOf_shape (x := x) (v := v) h
    exact .inr ⟨x, t, rfl, e⟩
theorem keyIs_int (i : Int) (t : Tok) : keyIs (.inl i) (.int i t) = true := by simp [keyIs, Value.isInt]
theorem keyIs_str (x : Str) (t : Tok) : keyIs (.inr x) (.str x t) = true := by simp [keyIs, Value.isStrOf]
theorem key_ll (a b : Int) : decide ((Sum.inl a : Key) = Sum.inl b) = (a == b) := by
  by_cases e : a = b
  · subst e; simp
  · have h : ¬ (Sum.inl a : Key) = Sum.inl b := fun q => e (Sum.inl.inj q)
    rw [decide_eq_false h]
    exact (beq_eq_false_iff_ne.mpr e).symm
theorem key_rr (a b : Str) : decide ((Sum.inr a : Key) = Sum.inr b) = decide (a = b) := by
  by_cases e : a = b
  · subst e; simp
  · have h : ¬ (Sum.inr a : Key) = Sum.inr b := fun q => e (Sum.inr.inj q)
    rw [decide_eq_false h, decide_eq_false e]
theorem key_lr (a : Int) (b : Str) : decide ((Sum.inl a : Key) = Sum.inr b) = false := decide_eq_false (fun q => nomatch q)
theorem key_rl (a : Str) (b : Int) : decide ((Sum.inr a : Key) = Sum.inl b) = false := decide_eq_false (fun q => nomatch q)
def mixKind (prog : Program) (w : World) : PySem.KeyKind prog w Key where
  is := keyIs
  hash := keyH w
  inj := fun v a b ha hb => by
    rcases keyIs_shape ha with ⟨i, t, rfl, rfl⟩ | ⟨x, t, rfl, rfl⟩
    · rcases keyIs_shape hb with ⟨j, u, rfl, e⟩ | ⟨y, u, rfl, e⟩
      · injection e with e1 _; rw [e1]
      · exact nomatch e
    · rcases keyIs_shape hb with ⟨j, u, rfl, e⟩ | ⟨y, u, rfl, e⟩
      · exact nomatch e
      · injection e with e1 _; rw [e1]
  byValue := fun k v h => by
    rcases keyIs_shape h with ⟨i, t, rfl, rfl⟩ | ⟨x, t, rfl, rfl⟩ <;> rfl
  pyHash := fun hv h => by
    rcases keyIs_shape hv with ⟨i, t, rfl, rfl⟩ | ⟨x, t, rfl, rfl⟩
    · exact wpAny_pyHash_int h
    · exact wpAny_pyHash_str h
  eqBool := fun hu hv h => by
    rcases keyIs_shape hu with ⟨i, t, rfl, rfl⟩ | ⟨x, t, rfl, rfl⟩
    · rcases keyIs_shape hv with ⟨j, u, rfl, rfl⟩ | ⟨y, u, rfl, rfl⟩
      · rw [key_ll] at h; exact wpAny_eqBool_int h
      · rw [key_lr] at h; exact SeqAt.EqAt.int_str i t y u _ _ _ _ h
    · rcases keyIs_shape hv with ⟨j, u, rfl, rfl⟩ | ⟨y, u, rfl, rfl⟩
      · rw [key_rl] at h; exact SeqAt.EqAt.str_int x t j u _ _ _ _ h
      · rw [key_rr] at h; exact wpAny_eqBool_str h
  «strs» := fun k x t v h => by
    rcases keyIs_shape h with ⟨i, u, rfl, e⟩ | ⟨y, u, rfl, e⟩
    · exact nomatch e
    · injection e with e1 _
      subst e1
      cases v <;> rfl
theorem mixKind_int (prog : Program) (w : World) (i : Int) (t : Tok) : (mixKind prog w).is (.inl i) (.int i t) = true := keyIs_int i t
theorem mixKind_str (prog : Program) (w : World) (x : Str) (t : Tok) : (mixKind prog w).is (.inr x) (.str x t) = true := keyIs_str x t
end L2
namespace L2
open PySem PySem.Spec PyProof.Rows
inductive V where
  | non | bl (b : Bool) | int (i : Int) | str (x : Str) | byt (b : Array UInt8) | flt (b : UInt64) | ref (a : Addr) | ty (n : String)
  deriving DecidableEq
def RelV : V → Value → Prop
  | .non, u => u = Value.none
  | .bl b, u => u = Value.bool b
  | .int i, u => ∃ t, u = Value.int i t
  | .str x, u => ∃ t, u = Value.str x t
  | .byt b, u => ∃ t, u = Value.bytes b t
  | .flt b, u => ∃ t, u = Value.float b t
  | .ref a, u => u = Value.ref a
  | .ty n, u => u = Value.type n
abbrev Vals : List V → List Value → Prop := Paired RelV
theorem Vals.length {xs : List V} {us : List Value} (r : Vals xs us) : xs.length = us.length := Paired.length r
theorem Vals.get : ∀ {xs : List V} {us : List Value} {i : Nat} {x : V}, Vals xs us → xs[i]? = some x → ∃ u, us[i]? = some u ∧ RelV x u
  | _, _, _, _, .nil, e => by simp at e
  | _, _, 0, _, .cons r _, e => by simp at e; subst e; exact ⟨_, rfl, r⟩
  | _, _, i + 1, x, .cons _ t, e => by
    obtain ⟨u, h1, h2⟩ := Vals.get (i := i) (x := x) t (by simpa using e)
    exact ⟨u, by simpa using h1, h2⟩
theorem Vals.set {x : V} {u : Value} (r : RelV x u) : ∀ {xs : List V} {us : List Value} (i : Nat), Vals xs us → Vals (xs.set i x) (us.set i u)
  | _, _, _, .nil => .nil
  | _, _, 0, .cons _ t => .cons r t
  | _, _, i + 1, .cons q t => .cons q (Vals.set r i t)
theorem Vals.append : ∀ {xs ys : List V} {us ws : List Value}, Vals xs us → Vals ys ws → Vals (xs ++ ys) (us ++ ws)
  | _, _, _, _, .nil, s => s
  | _, _, _, _, .cons r t, s => .cons r (Vals.append t s)
theorem Vals.take : ∀ {xs : List V} {us : List Value} (n : Nat), Vals xs us → Vals (xs.take n) (us.take n)
  | _, _, 0, _ => .nil
  | _, _, _ + 1, .nil => .nil
  | _, _, n + 1, .cons r t => .cons r (Vals.take n t)
theorem Vals.drop : ∀ {xs : List V} {us : List Value} (n : Nat), Vals xs us → Vals (xs.drop n) (us.drop n)
  | _, _, 0, r => r
  | _, _, _ + 1, .nil => .nil
  | _, _, n + 1, .cons _ t => Vals.drop n t
def RelO : Option V → Option Value → Prop
  | some v, some u => RelV v u
  | none, none => True
  | _, _ => False
def KV {κ : Type} : List (κ × V) → List (κ × Value) → Prop := Paired fun (p : κ × V) (q : κ × Value) => p.1 = q.1 ∧ RelV p.2 q.2
def kV : Key → V
  | .inl i => .int i
  | .inr x => .str x
inductive HO where
  | lst (xs : List V)
  | tup (xs : List V)
  | dK (kvs : List (Key × V)) | dT (kvs : List (List Key × V))
  | set (S : Int → Bool) (n : Nat)
  | ins (C dx : Addr) (fs : List (Str × V))
  | own (x : Addr)
  | xd (fs : List (Str × V))
  | met (f x : Addr)
  | rng (lo hi : Int)
  | frz (o : Obj) (u : HO)
  | tbl (ps : Array Value)
  | ext (φ : Heap → Prop)
abbrev Hp := Addr → Option HO
def upd (H : Hp) (a : Addr) (o : HO) : Hp := fun b => if b = a then some o else H b
theorem upd_same {H : Hp} {a : Addr} {o : HO} : upd H a o a = some o := by unfold upd; rw [if_pos rfl]
theorem upd_ne {H : Hp} {a b : Addr} {o : HO} (h : b ≠ a) : upd H a o b = H b := by unfold upd; rw [if_neg h]
theorem ne_of {H : Hp} {a b : Addr} {o u : HO} (h : H a = some o) (h' : H b = some u) (d : o ≠ u) : a ≠ b := by
  intro e; subst e; rw [h] at h'; exact d (Option.some.inj h')
theorem ne_of_none {H : Hp} {a b : Addr} {o : HO} (h : H a = some o) (h' : H b = none) : a ≠ b := by
  intro e; subst e; rw [h] at h'; cases h'
section
variable (P : Program) (w : World)
def ObjOk (H : Hp) (h : Heap) (a : Addr) : HO → Prop
  | .lst xs => xs.length ≤ sizeLine ∧ ∃ (its : List Value) (n : Nat), Vals xs its ∧ h.get? a = some { cls := .type "list", data := .seq its.toArray n }
  | .tup xs => xs.length ≤ sizeLine ∧ ∃ its : List Value, Vals xs its ∧ IsTup h a its.toArray
  | .dK kvs => kvs.length ≤ sizeLine ∧ (a == sysModules) = false ∧ ∃ vs, KV kvs vs ∧ h.DictOf (mixKind P w) a vs
  | .dT kvs => kvs.length ≤ sizeLine ∧ (a == sysModules) = false ∧ ∃ xs : List (List Key × Addr × Value),
      Paired (fun (p : List Key × V) (q : List Key × Addr × Value) => p.1 = q.1 ∧ H q.2.1 = some (.tup (p.1.map kV)) ∧ RelV p.2 q.2.2) kvs xs ∧
      ∃ o es ep, h.get? a = some o ∧ o.ExactDict ∧ o.data = .dict es ep ∧ es.toList = xs.map (entryOfKey (tupleKind (mixKind P w))) ∧ (xs.map (·.1)).Nodup
  | .set S n => h.SetOf (intKind P w) a S n
  | .ins C dx fs => H dx = some (.own a) ∧ fs.length ≤ 1000 ∧ dx ≠ a ∧ h.get? a = some (PySem.W.instObj C dx) ∧
      ∃ mA, h.Ns1 dx mA ∧ (∀ f, RelO (fs.lookup f) (mA f)) ∧ PySem.Within mA (fs.map (·.1))
  | .own _ => ∃ o, h.get? a = some o
  | .xd fs => ∃ mA, h.Ns1 a mA ∧ ∀ f, RelO (fs.lookup f) (mA f)
  | .rng lo hi => ∃ t u v, h.get? a = some { cls := .type "range", data := .fields #[.int lo t, .int hi u, .int 1 v] }
  | .frz o u => h.get? a = some o ∧ ObjOk H h a u
  | .tbl ps => h.get? a = some { cls := .none, data := .fields ps }
  | .met f x => h.get? a = some (PySem.W.methodObj (.ref f) (.ref x))
  | .ext φ => φ h ∧ (∃ o, h.get? a = some o) ∧ ∀ h1 h2 : Heap, φ h1 → (∀ o, h1.get? a = some o → h2.get? a = some o) → φ h2
def HOk (H : Hp) (h : Heap) : Prop := ∀ a o, H a = some o → ObjOk P w H h a o
end
section
variable {P : Program} {w : World} {H H' : Hp} {h h' : Heap} {a : Addr} {o : HO}
theorem ObjOk.lt (x : ObjOk P w H h a o) : a < h.objs.size := by
  cases o with
  | lst xs => obtain ⟨_, _, _, _, e⟩ := x; exact Heap.lt_size e
  | tup xs => obtain ⟨_, _, _, p⟩ := x; exact p.lt
  | dK kvs => obtain ⟨_, _, _, _, o, _, _, e, _⟩ := x; exact Heap.lt_size e
  | dT kvs => obtain ⟨_, _, _, _, o, _, _, e, _⟩ := x; exact Heap.lt_size e
  | set S n => obtain ⟨o, _, _, _, e, _⟩ := x; exact Heap.lt_size e
  | ins C dx fs => obtain ⟨_, _, _, e, _⟩ := x; exact Heap.lt_size e
  | own y => obtain ⟨_, e⟩ := x; exact Heap.lt_size e
  | xd fs => obtain ⟨_, ⟨_, _, _, e, _⟩, _⟩ := x; exact Heap.lt_size e
  | rng lo hi => obtain ⟨_, _, _, e⟩ := x; exact Heap.lt_size e
  | frz ob u => obtain ⟨e, _⟩ := x; exact Heap.lt_size e
  | tbl ps => exact Heap.lt_size (show h.get? a = some _ from x)
  | met f y => exact Heap.lt_size (show h.get? a = some _ from x)
  | ext φ => obtain ⟨_, ⟨_, e⟩, _⟩ := x; exact Heap.lt_size e
theorem Paired.mapP {α β : Type} {F G : α → β → Prop} : ∀ {l₁ : List α} {l₂ : List β}, Paired F l₁ l₂ → (∀ a b, F a b → G a b) → Paired G l₁ l₂
  | _, _, .nil, _ => .nil
  | _, _, .cons r t, f => .cons (f _ _ r) (Paired.mapP t f)
theorem ObjOk.stay (x : ObjOk P w H h a o) (k : ∀ b u, (b = a ∨ H b = some (.own a)) → h.get? b = some u → h'.get? b = some u)
    (ho : ∀ b, H b = some (.own a) → H' b = some (.own a)) (ht : ∀ b xs, H b = some (.tup xs) → H' b = some (.tup xs)) : ObjOk P w H' h' a o := by
  induction o with
  | lst xs => obtain ⟨z, its, n, r, e⟩ := x; exact ⟨z, its, n, r, k _ _ (.inl rfl) e⟩
  | tup xs => obtain ⟨z, its, r, ob, e, c⟩ := x; exact ⟨z, its, r, ob, k _ _ (.inl rfl) e, c⟩
  | dK kvs => obtain ⟨z, y, vs, r, ob, es, ep, e, c⟩ := x; exact ⟨z, y, vs, r, ob, es, ep, k _ _ (.inl rfl) e, c⟩
  | dT kvs =>
    obtain ⟨z, y, xs, r, ob, es, ep, e, c⟩ := x
    exact ⟨z, y, xs, Paired.mapP r fun p q z => ⟨z.1, ht _ _ z.2.1, z.2.2⟩, ob, es, ep, k _ _ (.inl rfl) e, c⟩
  | set S n => obtain ⟨ob, es, ep, t, e, c⟩ := x; exact ⟨ob, es, ep, t, k _ _ (.inl rfl) e, c⟩
  | ins C dx fs =>
    obtain ⟨d, z, ne, e, mA, ⟨od, es, ep, e2, c⟩, r⟩ := x
    exact ⟨ho _ d, z, ne, k _ _ (.inl rfl) e, mA, ⟨od, es, ep, k _ _ (.inr d) e2, c⟩, r⟩
  | own y => obtain ⟨ob, e⟩ := x; exact ⟨ob, k _ _ (.inl rfl) e⟩
  | xd fs => obtain ⟨mA, ⟨od, es, ep, e, c⟩, r⟩ := x; exact ⟨mA, ⟨od, es, ep, k _ _ (.inl rfl) e, c⟩, r⟩
  | rng lo hi => obtain ⟨t, u, v, e⟩ := x; exact ⟨t, u, v, k _ _ (.inl rfl) e⟩
  | frz ob u ih => obtain ⟨e, q⟩ := x; exact ⟨k _ _ (.inl rfl) e, ih q⟩
  | tbl ps =>
    have e : h.get? a = some { cls := .none, data := .fields ps } := x
    show h'.get? a = some { cls := .none, data := .fields ps }
    exact k a _ (.inl rfl) e
  | met f y =>
    have e : h.get? a = some (PySem.W.methodObj (.ref f) (.ref y)) := x
    show h'.get? a = some (PySem.W.methodObj (.ref f) (.ref y))
    exact k a _ (.inl rfl) e
  | ext φ => obtain ⟨p, ⟨o, e⟩, st⟩ := x; exact ⟨st _ _ p fun o q => k _ _ (.inl rfl) q, ⟨o, k _ _ (.inl rfl) e⟩, st⟩
theorem HOk.lt (x : HOk P w H h) (e : H a = some o) : a < h.objs.size := (x a o e).lt
theorem HOk.fresh (x : HOk P w H h) (e : h.objs.size ≤ a) : H a = none := by
  cases q : H a with
  | none => rfl
  | some u => exact absurd (Nat.lt_of_lt_of_le (x.lt q) e) (Nat.lt_irrefl _)
theorem HOk.kept (x : HOk P w H h) (k : ∀ b u, h.get? b = some u → h'.get? b = some u) : HOk P w H h' := fun a o e =>
  (x a o e).stay (fun b u _ q => k b u q) (fun _ q => q) fun _ _ q => q
theorem HOk.laid (x : HOk P w H h) (k : ∀ b u, h.get? b = some u → h'.get? b = some u) (hp : h.objs.size ≤ a) (new : ObjOk P w (upd H a o) h' a o) : HOk P w (upd H a o) h' := fun b u e => by
  have hn := x.fresh hp
  by_cases hb : b = a
  · subst hb; rw [upd_same] at e; cases e; exact new
  · rw [upd_ne hb] at e
    exact (x b u e).stay (fun c v _ q => k c v q) (fun c q => by rw [upd_ne (ne_of_none q hn)]; exact q) fun c xs q => by rw [upd_ne (ne_of_none q hn)]; exact q
end
def Rd (H : Hp) (a : Addr) (u : HO) : Prop := H a = some u ∨ ∃ o, H a = some (.frz o u)
theorem Rd.of {H : Hp} {a : Addr} {u : HO} (h : H a = some u) : Rd H a u := .inl h
theorem Rd.ok {P : Program} {w : World} {H : Hp} {h : Heap} {a : Addr} {u : HO} (r : Rd H a u) (x : HOk P w H h) : ObjOk P w H h a u := by
  rcases r with r | ⟨o, r⟩
  · exact x a u r
  · obtain ⟨_, q⟩ := x a _ r
    exact q
def Mut : Option HO → Prop
  | some (.lst _) => True
  | some (.dK _) => True
  | some (.dT _) => True
  | some (.set _ _) => True
  | some (.ins _ _ _) => True
  | some (.ext _) => True
  | _ => False
section
variable {P : Program} {w : World} {H : Hp} {h h' : Heap} {x e : Addr} {o' : HO}
theorem HOk.write (ok : HOk P w H h) (mu : Mut (H x)) (he : e = x ∨ H e = some (.own x)) (k : ∀ b u, b ≠ e → h.get? b = some u → h'.get? b = some u) (heo : ∃ u, h'.get? e = some u)
    (new : ObjOk P w (upd H x o') h' x o') : HOk P w (upd H x o') h' := fun b u q => by
  have nown : ∀ c y, H c = some (.own y) → c ≠ x := fun c y r z => by subst z; rw [r] at mu; exact mu
  have ntup : ∀ c xs, H c = some (.tup xs) → c ≠ x := fun c xs r z => by subst z; rw [r] at mu; exact mu
  by_cases hb : b = x
  · subst hb; rw [upd_same] at q; cases q; exact new
  · rw [upd_ne hb] at q
    by_cases hbe : b = e
    · have q' : H b = some (.own x) := by
        rcases he with z | z
        · exact absurd (hbe.trans z) hb
        · rw [hbe]; exact z
      rw [q] at q'; cases q'
      obtain ⟨v, hv⟩ := heo
      exact ⟨v, by rw [hbe]; exact hv⟩
    · refine (ok b u q).stay (fun c v hc r => k c v ?_ r) (fun c r => by rw [upd_ne (nown c b r)]; exact r) fun c xs r => by rw [upd_ne (ntup c xs r)]; exact r
      rcases hc with rfl | hc
      · exact hbe
      · rintro rfl
        rcases he with z | z
        · exact nown c b hc z
        · rw [hc] at z; cases z; exact hb rfl
end
structure Un (fs ex : List Addr) (H H' : Hp) (h h' : Heap) : Prop where
  keep : ∀ b o, h.get? b = some o → H b = none → b ∉ fs → b ∉ ex → h'.get? b = some o
  slot : ∀ b o, h.get? b = some o → H b = none → b ∈ fs → b ∉ ex → ∃ sl, h'.get? b = some { o with slots := sl }
  free : ∀ b o, h.get? b = some o → H b = none → b ∉ ex → H' b = none
  there : ∀ b o, h.get? b = some o → b ∉ ex → ∃ o', h'.get? b = some o'
  tups : ∀ b xs, H b = some (.tup xs) → H' b = some (.tup xs)
  frzs : ∀ b o u, H b = some (.frz o u) → H' b = some (.frz o u)
  tbls : ∀ b ps, H b = some (.tbl ps) → ∃ more, H' b = some (.tbl (ps ++ more))
section
variable {fs fs' ex ex' : List Addr} {H H1 H2 : Hp} {h h1 h2 h' : Heap} {a x e : Addr} {o : HO}
theorem Un.any (u : Un fs ex H H1 h h1) {b : Addr} {ob : Obj} (q : h.get? b = some ob) (n : H b = none) (hx : b ∉ ex) : ∃ sl, h1.get? b = some { ob with slots := sl } := by
  by_cases hb : b ∈ fs
  · exact u.slot b ob q n hb hx
  · exact ⟨ob.slots, u.keep b ob q n hb hx⟩
theorem Un.trans (a : Un fs ex H H1 h h1) (b : Un fs ex H1 H2 h1 h2) : Un fs ex H H2 h h2 where
  keep := fun c ob q n hc hx => b.keep c ob (a.keep c ob q n hc hx) (a.free c ob q n hx) hc hx
  slot := fun c ob q n hc hx => by
    obtain ⟨sl, e1⟩ := a.slot c ob q n hc hx
    obtain ⟨sl', e2⟩ := b.slot c _ e1 (a.free c ob q n hx) hc hx
    exact ⟨sl', e2⟩
  free := fun c ob q n hx => by
    obtain ⟨o', e1⟩ := a.there c ob q hx
    exact b.free c o' e1 (a.free c ob q n hx) hx
  there := fun c ob q hx => by
    obtain ⟨o', e1⟩ := a.there c ob q hx
    exact b.there c o' e1 hx
  tups := fun c xs q => b.tups c xs (a.tups c xs q)
  frzs := fun c ob xs q => b.frzs c ob xs (a.frzs c ob xs q)
  tbls := fun c ps q => by
    obtain ⟨m1, e1⟩ := a.tbls c ps q
    obtain ⟨m2, e2⟩ := b.tbls c _ e1
    exact ⟨m1 ++ m2, by rw [e2, Array.append_assoc]⟩
theorem Un.kept (k : ∀ b u, h.get? b = some u → h'.get? b = some u) : Un fs ex H H h h' :=
  ⟨fun b ob q _ _ _ => k b ob q, fun b ob q _ _ _ => ⟨ob.slots, k b ob q⟩, fun _ _ _ n _ => n, fun b ob q _ => ⟨ob, k b ob q⟩, fun _ _ q => q, fun _ _ _ q => q, fun _ ps q => ⟨#[], by rw [q]; simp⟩⟩
theorem Un.refl : Un fs ex H H h h := Un.kept fun _ _ q => q
theorem Un.laid (k : ∀ b u, h.get? b = some u → h'.get? b = some u) (hp : h.objs.size ≤ a) (hn : H a = none) : Un fs ex H (upd H a o) h h' where
  keep := fun b u q _ _ _ => k b u q
  slot := fun b u q _ _ _ => ⟨u.slots, k b u q⟩
  free := fun b u q n _ => by rw [upd_ne (Nat.ne_of_lt (Nat.lt_of_lt_of_le (Heap.lt_size q) hp))]; exact n
  there := fun b u q _ => ⟨u, k b u q⟩
  tups := fun b xs q => by rw [upd_ne (ne_of_none q hn)]; exact q
  frzs := fun b u xs q => by rw [upd_ne (ne_of_none q hn)]; exact q
  tbls := fun b ps q => ⟨#[], by rw [upd_ne (ne_of_none q hn), q]; simp⟩
theorem Un.write (mu : Mut (H x)) (he : e = x ∨ H e = some (.own x)) (k : ∀ b u, b ≠ e → h.get? b = some u → h'.get? b = some u) (heo : ∃ u, h'.get? e = some u) : Un fs ex H (upd H x o) h h' := by
  have hx : ∀ b, H b = none → b ≠ x := fun b n z => by subst z; rw [n] at mu; exact mu
  have hb : ∀ b, H b = none → b ≠ e := fun b n z => by
    subst z
    rcases he with r | r
    · exact hx b n r
    · rw [n] at r; cases r
  have hm : ∀ b u, H b = some u → ¬ Mut (some u) → b ≠ x := fun b u q nm z => by subst z; rw [q] at mu; exact nm mu
  refine ⟨fun b u q n _ _ => k b u (hb b n) q, fun b u q n _ _ => ⟨u.slots, k b u (hb b n) q⟩, fun b u q n _ => by rw [upd_ne (hx b n)]; exact n, fun b u q _ => ?_,
    fun b xs q => by rw [upd_ne (hm b _ q fun z => z)]; exact q, fun b u xs q => by rw [upd_ne (hm b _ q fun z => z)]; exact q, fun b ps q => ⟨#[], by rw [upd_ne (hm b _ q fun z => z), q]; simp⟩⟩
  by_cases hbe : b = e
  · subst hbe; exact heo
  · exact ⟨u, k b u hbe q⟩
theorem Un.mono (u : Un fs ex H H1 h h1) (hs : ∀ b ∈ fs, b ∈ fs') (hx : ∀ b ∈ ex, b ∈ ex') : Un fs' ex' H H1 h h1 :=
  ⟨fun b ob q n hb he => u.keep b ob q n (fun z => hb (hs b z)) fun z => he (hx b z), fun _ _ q n _ he => u.any q n fun z => he (hx _ z), fun b ob q n he => u.free b ob q n fun z => he (hx b z), fun b ob q he => u.there b ob q fun z => he (hx b z), u.tups, u.frzs, u.tbls⟩
end
def trk (h : Heap) (H : Hp) : List Addr := (List.range h.objs.size).filter fun a => (H a).isSome
def hidT (h : Heap) (H : Hp) : Heap := PySem.W.hideAll h (trk h H)
theorem hidT_size (h : Heap) (H : Hp) : (hidT h H).objs.size = h.objs.size := PySem.W.hideAll_size _ _
theorem hidT_get {h : Heap} {H : Hp} {b : Addr} {o : Obj} (e : h.get? b = some o) (n : H b = none) : (hidT h H).get? b = some o :=
  PySem.W.hideAll_get _ e fun hm => by
    have q : (H b).isSome = true := (List.mem_filter.mp hm).2
    rw [n] at q; simp at q
theorem of_hidT {h : Heap} {H : Hp} {b : Addr} {o : Obj} (e : (hidT h H).get? b = some o) : h.get? b = some o ∧ H b = none := by
  have e' : h.get? b = some o := PySem.W.of_hideAll (trk h H) e
  refine ⟨e', ?_⟩
  cases q : H b with
  | none => rfl
  | some x =>
    have hm : b ∈ trk h H := List.mem_filter.mpr ⟨List.mem_range.mpr (Heap.lt_size e'), by simp [q]⟩
    have z : (hidT h H).get? b = none := PySem.W.hideAll_none (trk h H) hm
    rw [z] at e; cases e
def allNews (g h : Heap) (L : Addr) : List (Addr × Obj) := (List.range h.objs.size).filterMap fun a => if a = L ∨ (g.get? a).isSome = true then none else (h.get? a).map fun o => (a, o)
def rest (g h : Heap) (L d : Addr) : List (Addr × Obj) := (allNews g h L).filter fun p => decide (p.1 ≠ d)
end L2
namespace L2
open PySem PySem.Spec PyProof.Rows
structure Mod (K : PySem.W.Frag) (mg : Str → Option Value) (base : Heap) : Prop where
  kin : K.In base
  glob : base.Ns mainGlobals mg
  blt : ∃ mb, base.Ns builtinsNs mb ∧ ∀ x : Str, x ≠ "__name__" → mb x = bootBuiltins x
  nolimit : base.NoLimit
structure Cx where
  prog : Program
  w : World
  K : PySem.W.Frag
  mg : Str → Option Value
  base : Heap
  A : Around
  N : List Str
  s_0 : Shared
  H_0 : Hp
  env : Env
  outer : List Env
  stack : List Env
  ex : List Addr
  fn : Str → Bool
  calm : Bool
  pn : List (Addr × Obj)
  xe : Value → Shared → Prop
def frs (l : List Env) : List Addr := l.filterMap (·.frame)
abbrev Cx.fs (X : Cx) : List Addr := frs X.outer
def Vis (sc : Scope) (x : Str) : Prop := sc.names.lookup x = some .local ∨ sc.names.lookup x = some .cell ∨ sc.names.lookup x = some .free
def Loc (sc : Scope) (x : Str) : Prop := sc.names.lookup x = some .local ∨ sc.names.lookup x = some .cell
def Look (env : Env) (h : Heap) (m : Str → Option Value) (x : Str) (u : Value) : Prop :=
  (env.kindOf x = some .local ∧ m x = some u) ∨ ((env.kindOf x = some .cell ∨ env.kindOf x = some .free) ∧ ∃ c, env.cells.lookup x = some c ∧ h.IsCell c (some u))
structure Cx.Ok (X : Cx) : Prop where
  mod : Mod X.K X.mg X.base
  kind : X.env.scope.kind = .function
  glob : X.env.globals = mainGlobals
  blt : X.env.builtins = builtinsNs
  above : X.s_0.heap.objs.size ≤ X.env.locals
  inj : ∀ x y c, X.env.cells.lookup x = some c → X.env.cells.lookup y = some c → x = y
  has : ∀ x, (X.env.kindOf x = some .cell ∨ X.env.kindOf x = some .free) → ∃ c, X.env.cells.lookup x = some c
  cab : ∀ x c, X.fn x = true → X.env.cells.lookup x = some c → X.s_0.heap.objs.size ≤ c
  hd : X.calm = true → X.A.handled = none
  frames : X.A.frames = some X.stack
  stk : X.stack = X.outer ∨ (X.stack = X.env :: X.outer ∧ X.env.frame = some X.env.locals)
  exf : ∀ b ∈ X.ex, b ≠ X.env.locals ∧ ∀ x c, X.env.cells.lookup x = some c → c ≠ b
  bs : ∀ b o, X.base.get? b = some o → X.s_0.heap.get? b = some o ∧ X.H_0 b = none
  bsz : X.base.objs.size ≤ X.s_0.heap.objs.size
  noex : ∀ b o, X.base.get? b = some o → b ∉ X.ex
  exfs : ∀ b ∈ X.ex, b ∉ X.fs
  funs : X.s_0.heap.FunFrames X.base X.outer
  frf : ∀ b ∈ X.fs, X.H_0 b = none
structure Inv (X : Cx) (pins : List (Addr × Obj)) (σ : List (Option V)) (H : Hp) (s : Shared) : Prop where
  ok : X.Ok
  os : s.os = X.s_0.os
  bare : AllBare s.gens
  base : Un X.fs X.ex X.H_0 H X.s_0.heap s.heap
  loc : ∃ m, s.heap.Ns X.env.locals m ∧ ∀ (i : Nat) (x : Str) (v : V), X.N[i]? = some x → σ[i]? = some (some v) → Vis X.env.scope x → ∃ u, RelV v u ∧ Look X.env s.heap m x u
  cell : ∀ x c, X.env.cells.lookup x = some c → ∃ v, s.heap.IsCell c v
  free : H X.env.locals = none
  freeC : ∀ x c, X.env.cells.lookup x = some c → H c = none
  pin : ∀ p ∈ X.pn ++ pins, s.heap.get? p.1 = some p.2 ∧ H p.1 = none ∧ p.1 ≠ X.env.locals ∧ p.1 ∉ X.fs ∧ ∀ v, p.2.data ≠ .cell v
  hok : HOk X.prog X.w H s.heap
  len : σ.length = X.N.length
section
variable {X : Cx} {pins : List (Addr × Obj)} {σ : List (Option V)} {H H' : Hp} {s : Shared} {h' : Heap}
theorem Cx.Ok.nofr (ok : X.Ok) {b : Addr} {o : Obj} (e : X.base.get? b = some o) : b ∉ X.fs := fun hb => by
  have := (ok.funs.mem hb).1
  rw [e] at this; cases this
theorem Inv.bs (I : Inv X pins σ H s) : ∀ b o, X.base.get? b = some o → s.heap.get? b = some o ∧ H b = none := fun b o e =>
  ⟨I.base.keep b o (I.ok.bs b o e).1 (I.ok.bs b o e).2 (I.ok.nofr e) (I.ok.noex b o e), I.base.free b o (I.ok.bs b o e).1 (I.ok.bs b o e).2 (I.ok.noex b o e)⟩
theorem Inv.bk (I : Inv X pins σ H s) : ∀ b o, X.base.get? b = some o → s.heap.get? b = some o := fun b o e => (I.bs b o e).1
theorem Inv.mod (I : Inv X pins σ H s) : Mod X.K X.mg X.base := I.ok.mod
theorem Inv.kIn (I : Inv X pins σ H s) : X.K.In s.heap := I.ok.mod.kin.keeps I.bk
theorem Inv.nolimit (I : Inv X pins σ H s) : s.heap.NoLimit := I.ok.mod.nolimit.keeps I.bk
theorem Inv.fr (I : Inv X pins σ H s) : ∃ m, Fr X.base X.env.locals s.heap m :=
  let ⟨m, hn, _⟩ := I.loc
  ⟨m, hn, I.bk, Nat.le_trans I.ok.bsz I.ok.above⟩
theorem Inv.lt (I : Inv X pins σ H s) : X.env.locals < s.heap.objs.size := let ⟨_, hn, _⟩ := I.loc; hn.lt
theorem Inv.sz (I : Inv X pins σ H s) : X.s_0.heap.objs.size ≤ s.heap.objs.size := Nat.le_trans I.ok.above (Nat.le_of_lt I.lt)
theorem Inv.nofs (I : Inv X pins σ H s) {a : Addr} (h : s.heap.objs.size ≤ a) : a ∉ X.fs := fun hb => by
  obtain ⟨_, o, ho, _⟩ := I.ok.funs.mem hb
  exact absurd (Nat.lt_of_lt_of_le (Heap.lt_size ho) (Nat.le_trans I.sz h)) (Nat.lt_irrefl _)
theorem Inv.cne (I : Inv X pins σ H s) : ∀ x c, X.env.cells.lookup x = some c → c ≠ X.env.locals := fun x c e z => by
  obtain ⟨v, o, ho, hd⟩ := I.cell x c e
  obtain ⟨m, ⟨o', es, ep, ho', hd', _⟩, _⟩ := I.loc
  rw [z, ho'] at ho; cases ho; rw [hd'] at hd; cases hd
theorem Inv.funs (I : Inv X pins σ H s) : s.heap.FunFrames X.base X.outer := by
  have all : ∀ (l : List Env), (∀ b ∈ frs l, b ∈ X.fs) → X.s_0.heap.FunFrames X.base l → s.heap.FunFrames X.base l := by
    intro l
    induction l with
    | nil => intro _ _; trivial
    | cons env r ih =>
      intro hs hl
      obtain ⟨hk, ⟨L, o, hf, hn, ho, hd⟩, hr⟩ := hl
      have hL : L ∈ X.fs := hs L (by unfold frs; rw [List.filterMap_cons, hf]; exact List.mem_cons_self)
      obtain ⟨sl, e⟩ := I.base.slot L o ho (I.ok.frf L hL) hL fun z => I.ok.exfs L z hL
      exact ⟨hk, ⟨L, _, hf, hn, e, hd⟩, ih (fun b hb => hs b (by unfold frs; rw [List.filterMap_cons, hf]; exact List.mem_cons_of_mem _ hb)) hr⟩
  exact all X.outer (fun _ hb => hb) I.ok.funs
theorem Inv.stack (I : Inv X pins σ H s) : s.heap.FunFrames X.base X.stack := by
  rcases I.ok.stk with e | ⟨e, hf⟩
  · rw [e]; exact I.funs
  · rw [e]
    obtain ⟨m, hn, _⟩ := I.loc
    refine .cons (by rw [I.ok.kind]; decide) hf hn ?_ I.funs
    exact Heap.get?_none_of_le (Nat.le_trans I.ok.bsz I.ok.above)
theorem Inv.stkSub (I : Inv X pins σ H s) : ∀ b ∈ frs X.stack, b ∈ X.env.locals :: X.fs := fun b hb => by
  rcases I.ok.stk with e | ⟨e, hf⟩
  · rw [e] at hb; exact List.mem_cons_of_mem _ hb
  · rw [e] at hb
    unfold frs at hb
    rw [List.filterMap_cons, hf] at hb
    exact hb
theorem Inv.stkFree (I : Inv X pins σ H s) : ∀ b ∈ frs X.stack, H b = none := fun b hb => by
  rcases List.mem_cons.mp (I.stkSub b hb) with e | hb
  · rw [e]; exact I.free
  · obtain ⟨_, o, ho, _⟩ := I.ok.funs.mem hb
    exact I.base.free b o ho (I.ok.frf b hb) fun z => I.ok.exfs b z hb
theorem Inv.step {g' : Array GenState} {t' : Nat} {d' : Drawn} {ch : List Addr} (I : Inv X pins σ H s)
    (hch : ∀ b ∈ ch, (b ∈ X.ex ∨ X.s_0.heap.objs.size ≤ b) ∧ b ≠ X.env.locals ∧ (∀ x c, X.env.cells.lookup x = some c → c ≠ b) ∧ ∀ p ∈ X.pn ++ pins, p.1 ≠ b)
    (keep : ∀ b o, b ≠ X.env.locals → b ∉ X.fs → b ∉ ch → s.heap.get? b = some o → H b = none → h'.get? b = some o)
    (slot : ∀ b o, b ≠ X.env.locals → b ∈ X.fs → b ∉ ch → s.heap.get? b = some o → H b = none → ∃ sl, h'.get? b = some { o with slots := sl }) (free : ∀ b o, b ∉ ch → s.heap.get? b = some o → H b = none → H' b = none)
    (there : ∀ b o, b ∉ ch → s.heap.get? b = some o → ∃ o', h'.get? b = some o')
    (tups : ∀ b xs, H b = some (.tup xs) → H' b = some (.tup xs)) (frzs : ∀ b o u, H b = some (.frz o u) → H' b = some (.frz o u)) (tbls : ∀ b ps, H b = some (.tbl ps) → ∃ more, H' b = some (.tbl (ps ++ more)))
    (ns : ∀ m, s.heap.Ns X.env.locals m → h'.Ns X.env.locals m) (hok : HOk X.prog X.w H' h') (hg : AllBare g') :
    Inv X pins σ H' { s with heap := h', gens := g', drawn := d', toks := t' } := by
  have neL : ∀ b o, X.s_0.heap.get? b = some o → b ≠ X.env.locals := fun b o e => Nat.ne_of_lt (Nat.lt_of_lt_of_le (Heap.lt_size e) I.ok.above)
  have neC : ∀ b o, X.s_0.heap.get? b = some o → b ∉ X.ex → b ∉ ch := fun b o e hx hb => by
    rcases (hch b hb).1 with z | z
    · exact hx z
    · exact absurd (Nat.lt_of_lt_of_le (Heap.lt_size e) z) (Nat.lt_irrefl _)
  have cellK : ∀ x c, X.env.cells.lookup x = some c → ∀ v, s.heap.IsCell c v → h'.IsCell c v := fun x c e v ⟨o, ho, hd⟩ => by
    have nch : c ∉ ch := fun z => (hch c z).2.2.1 x c e rfl
    by_cases hc : c ∈ X.fs
    · obtain ⟨sl, q⟩ := slot c o (I.cne x c e) hc nch ho (I.freeC x c e)
      exact ⟨_, q, hd⟩
    · exact ⟨o, keep c o (I.cne x c e) hc nch ho (I.freeC x c e), hd⟩
  refine ⟨I.ok, I.os, hg, ⟨fun b o e n hb hx => ?_, fun b o e n hb hx => ?_, fun b o e n hx => ?_, fun b o e hx => ?_, fun b xs e => tups b xs (I.base.tups b xs e), fun b o xs e => frzs b o xs (I.base.frzs b o xs e), fun b ps e => ?_⟩, ?_, fun x c e => ?_, ?_, fun x c e => ?_, fun p hp => ?_, hok, I.len⟩
  · exact keep b o (neL b o e) hb (neC b o e hx) (I.base.keep b o e n hb hx) (I.base.free b o e n hx)
  · obtain ⟨sl, e1⟩ := I.base.slot b o e n hb hx
    obtain ⟨sl', e2⟩ := slot b _ (neL b o e) hb (neC b o e hx) e1 (I.base.free b o e n hx)
    exact ⟨sl', e2⟩
  · obtain ⟨o', e1⟩ := I.base.there b o e hx
    exact free b o' (neC b o e hx) e1 (I.base.free b o e n hx)
  · obtain ⟨o', e1⟩ := I.base.there b o e hx
    exact there b o' (neC b o e hx) e1
  · obtain ⟨m1, e1⟩ := I.base.tbls b ps e
    obtain ⟨m2, e2⟩ := tbls b _ e1
    exact ⟨m1 ++ m2, by rw [e2, Array.append_assoc]⟩
  · obtain ⟨m, hn, hl⟩ := I.loc
    refine ⟨m, ns m hn, fun i x v e1 e2 e3 => ?_⟩
    obtain ⟨u, r, l⟩ := hl i x v e1 e2 e3
    refine ⟨u, r, ?_⟩
    rcases l with l | ⟨k, c, e, z⟩
    · exact .inl l
    · exact .inr ⟨k, c, e, cellK x c e _ z⟩
  · obtain ⟨v, z⟩ := I.cell x c e
    exact ⟨v, cellK x c e v z⟩
  · obtain ⟨m, ⟨o, _, _, ho, _⟩, _⟩ := I.loc
    exact free _ o (fun z => (hch _ z).2.1 rfl) ho I.free
  · obtain ⟨v, o, ho, hd⟩ := I.cell x c e
    exact free c o (fun z => (hch c z).2.2.1 x c e rfl) ho (I.freeC x c e)
  · obtain ⟨e, n, ne, nf, d⟩ := I.pin p hp
    have nch : p.1 ∉ ch := fun z => (hch p.1 z).2.2.2 p hp rfl
    exact ⟨keep p.1 p.2 ne nf nch e n, free p.1 p.2 nch e n, ne, nf, d⟩
theorem Inv.un {t' : Nat} (I : Inv X pins σ H s) (u : Un X.fs [] H H' s.heap h') (hok : HOk X.prog X.w H' h') : Inv X pins σ H' { s with heap := h', toks := t' } := by
  obtain ⟨m, ⟨o, es, ep, ho, r⟩, _⟩ := id I.loc
  obtain ⟨sl, hL⟩ := u.any ho I.free (by simp)
  exact I.step (g' := s.gens) (d' := s.drawn) (ch := []) (fun _ z => nomatch z) (fun b o _ hb _ e n => u.keep b o e n hb (by simp)) (fun b o _ hb _ e n => u.slot b o e n hb (by simp)) (fun b o _ e n => u.free b o e n (by simp)) (fun b o _ e => u.there b o e (by simp)) u.tups u.frzs u.tbls (fun m' hm => by
    obtain ⟨o', es', ep', ho', r'⟩ := hm
    rw [ho] at ho'; cases ho'
    exact ⟨_, es', ep', hL, r'⟩) hok I.bare
theorem Inv.call {g' : Array GenState} {t' : Nat} {d' : Drawn} {ch : List Addr} (I : Inv X pins σ H s) (u : Un (frs X.stack) ch H H' s.heap h') (hok : HOk X.prog X.w H' h') (hg : AllBare g')
    (hch : ∀ b ∈ ch, (b ∈ X.ex ∨ X.s_0.heap.objs.size ≤ b) ∧ b ≠ X.env.locals ∧ (∀ x c, X.env.cells.lookup x = some c → c ≠ b) ∧ ∀ p ∈ X.pn ++ pins, p.1 ≠ b) :
    Inv X pins σ H' { s with heap := h', gens := g', drawn := d', toks := t' } := by
  obtain ⟨m, ⟨o, es, ep, ho, r⟩, _⟩ := id I.loc
  obtain ⟨sl, hL⟩ := u.any ho I.free fun z => (hch _ z).2.1 rfl
  exact I.step (ch := ch) hch (fun b o hL hb hc e n => u.keep b o e n (fun z => (List.mem_cons.mp (I.stkSub b z)).elim hL hb) hc) (fun b o _ _ hc e n => u.any e n hc) (fun b o hc e n => u.free b o e n hc) (fun b o hc e => u.there b o e hc) u.tups u.frzs u.tbls (fun m' hm => by
    obtain ⟨o', es', ep', ho', r'⟩ := hm
    rw [ho] at ho'; cases ho'
    exact ⟨_, es', ep', hL, r'⟩) hok hg
theorem Inv.turned {t' : Nat} {it : Addr} (I : Inv X pins σ H s) (k : ∀ b o, b ≠ it → s.heap.get? b = some o → h'.get? b = some o) (hn : H it = none) (hL : it ≠ X.env.locals)
    (h1 : it ∈ X.ex ∨ X.s_0.heap.objs.size ≤ it) (h2 : ∀ x c, X.env.cells.lookup x = some c → c ≠ it) (h3 : ∀ p ∈ X.pn ++ pins, p.1 ≠ it) : Inv X pins σ H { s with heap := h', toks := t' } := by
  have nit : ∀ b u, H b = some u → b ≠ it := fun b u e z => by rw [z, hn] at e; cases e
  refine I.step (g' := s.gens) (d' := s.drawn) (ch := [it]) (fun b hb => ?_) (fun b o _ _ hc e _ => k b o (fun z => hc (by simp [z])) e) (fun b o _ _ hc e _ => ⟨o.slots, k b o (fun z => hc (by simp [z])) e⟩) (fun _ _ _ _ n => n)
    (fun b o hc e => ⟨o, k b o (fun z => hc (by simp [z])) e⟩) (fun _ _ e => e) (fun _ _ _ e => e) (fun b ps e => ⟨#[], by rw [e]; simp⟩) (fun m hm => ?_) (fun b u e => ?_) I.bare
  · have e : b = it := by simpa using hb
    subst e
    exact ⟨h1, hL, h2, h3⟩
  · obtain ⟨o, es, ep, ho, r⟩ := hm
    exact ⟨o, es, ep, k _ o (Ne.symm hL) ho, r⟩
  · refine (I.hok b u e).stay (fun c v hc q => k c v ?_ q) (fun _ q => q) fun _ _ q => q
    rcases hc with z | z
    · rw [z]; exact nit b u e
    · exact nit c _ z
theorem Inv.tok (I : Inv X pins σ H s) (t : Nat) : Inv X pins σ H { s with toks := t } := I.un (h' := s.heap) (t' := t) Un.refl I.hok
theorem Inv.kept {t' : Nat} (I : Inv X pins σ H s) (k : ∀ b u, s.heap.get? b = some u → h'.get? b = some u) : Inv X pins σ H { s with heap := h', toks := t' } := I.un (Un.kept k) (I.hok.kept k)
theorem Inv.laid {a : Addr} {o : HO} {t' : Nat} (I : Inv X pins σ H s) (k : ∀ b u, s.heap.get? b = some u → h'.get? b = some u) (hp : s.heap.objs.size ≤ a) (new : ObjOk X.prog X.w (upd H a o) h' a o) :
    Inv X pins σ (upd H a o) { s with heap := h', toks := t' } := I.un (Un.laid k hp (I.hok.fresh hp)) (I.hok.laid k hp new)
theorem Inv.write {x e : Addr} {o : HO} {t' : Nat} (I : Inv X pins σ H s) (mu : Mut (H x)) (he : e = x ∨ H e = some (.own x)) (k : ∀ b u, b ≠ e → s.heap.get? b = some u → h'.get? b = some u) (heo : ∃ u, h'.get? e = some u)
    (new : ObjOk X.prog X.w (upd H x o) h' x o) : Inv X pins σ (upd H x o) { s with heap := h', toks := t' } := I.un (Un.write mu he k heo) (I.hok.write mu he k heo new)
theorem Inv.weak {σ' : List (Option V)} (I : Inv X pins σ H s) (hl : σ'.length = σ.length) (w : ∀ (i : Nat) v, σ'[i]? = some (some v) → σ[i]? = some (some v)) : Inv X pins σ' H s :=
  ⟨I.ok, I.os, I.bare, I.base, let ⟨m, hn, hl'⟩ := I.loc; ⟨m, hn, fun i x v e1 e2 e3 => hl' i x v e1 (w i v e2) e3⟩, I.cell, I.free, I.freeC, I.pin, I.hok, hl.trans I.len⟩
theorem Inv.pins_of {pins' : List (Addr × Obj)} (I : Inv X pins σ H s) (h : ∀ p ∈ pins', s.heap.get? p.1 = some p.2 ∧ H p.1 = none ∧ p.1 ≠ X.env.locals ∧ p.1 ∉ X.fs ∧ ∀ v, p.2.data ≠ .cell v) : Inv X pins' σ H s :=
  ⟨I.ok, I.os, I.bare, I.base, I.loc, I.cell, I.free, I.freeC, fun p hp => (List.mem_append.mp hp).elim (fun z => I.pin p (List.mem_append_left _ z)) (h p), I.hok, I.len⟩
theorem nodup_ix {N : List Str} (hN : N.Nodup) {i j : Nat} {x : Str} (a : N[i]? = some x) (b : N[j]? = some x) : i = j := by
  obtain ⟨h1, e1⟩ := List.getElem?_eq_some_iff.mp a
  obtain ⟨h2, e2⟩ := List.getElem?_eq_some_iff.mp b
  exact (List.getElem_inj hN).mp (e1.trans e2.symm)
theorem store_ok2 {M : Model} {A : Around} {E : Value → Shared → Prop} {i : Nat} {x : Str} {v : V} {u : Value} {Q : Unit → Shared → Prop} (I : Inv X pins σ H s) (hN : X.N.Nodup) (hi : X.N[i]? = some x) (hx : Loc X.env.scope x) (r : RelV v u)
    (h : ∀ s', Inv X pins (σ.set i (some v)) H s' → (∃ a, Heap.SameBut a s.heap s'.heap ∧ (a = X.env.locals ∨ X.env.cells.lookup x = some a)) → Q () s') (hf : X.fn x = true ∨ X.env.scope.names.lookup x = some .local := by first | exact .inl rfl | exact .inr rfl | assumption) : wpAny M A (storeName X.env x u) Q E s := by
  obtain ⟨m, hn, hl⟩ := id I.loc
  have hcls : (X.env.scope.kind == .class || (X.env.scope.kind == .module && X.env.locals != X.env.globals)) = false := by rw [I.ok.kind]; rfl
  have hiσ : i < σ.length := by rw [I.len]; exact (List.getElem?_eq_some_iff.mp hi).1
  have cne := I.cne
  have tracked : ∀ {a : Addr} {h' : Heap}, (∃ o, s.heap.get? a = some o ∧ H a = none) → Heap.SameBut a s.heap h' → HOk X.prog X.w H h' := fun {a h'} ha hs b ob e => by
    obtain ⟨_, _, hfree⟩ := ha
    refine (I.hok b ob e).stay (fun c w' hc q => (hs.2 c ?_).trans q) (fun _ q => q) fun _ _ q => q
    rintro rfl
    rcases hc with rfl | hc
    · rw [hfree] at e; cases e
    · rw [hfree] at hc; cases hc
  rcases hx with hk | hk
  · refine wpAny_storeName_local hk hn (fun h' hn' hs => ?_) hcls
    obtain ⟨oL, _, _, hoL, _⟩ := id hn
    refine h _ ⟨I.ok, I.os, I.bare, ⟨fun b o e n hb hx => ?_, fun b o e n hb hx => ?_, I.base.free, fun b o e hx => ?_, I.base.tups, I.base.frzs, I.base.tbls⟩, ⟨_, hn', fun j y v' e1 e2 e3 => ?_⟩, fun y c e => ?_, I.free, I.freeC, fun p hp => ?_, tracked ⟨oL, hoL, I.free⟩ hs, by simpa using I.len⟩ ⟨_, hs, .inl rfl⟩
    · exact (hs.2 b (Nat.ne_of_lt (Nat.lt_of_lt_of_le (Heap.lt_size e) I.ok.above))).trans (I.base.keep b o e n hb hx)
    · obtain ⟨sl, e1⟩ := I.base.slot b o e n hb hx
      exact ⟨sl, (hs.2 b (Nat.ne_of_lt (Nat.lt_of_lt_of_le (Heap.lt_size e) I.ok.above))).trans e1⟩
    · obtain ⟨o', e1⟩ := I.base.there b o e hx
      exact ⟨o', (hs.2 b (Nat.ne_of_lt (Nat.lt_of_lt_of_le (Heap.lt_size e) I.ok.above))).trans e1⟩
    · by_cases hj : j = i
      · subst hj
        rw [hi] at e1; cases e1
        rw [List.getElem?_set_self hiσ] at e2
        cases e2
        exact ⟨u, r, .inl ⟨hk, by simp⟩⟩
      · rw [List.getElem?_set_ne (Ne.symm hj)] at e2
        obtain ⟨u', r', q⟩ := hl j y v' e1 e2 e3
        refine ⟨u', r', ?_⟩
        rcases q with ⟨k, e⟩ | ⟨k, c, e, z⟩
        · refine .inl ⟨k, ?_⟩
          have : y ≠ x := fun e => hj (nodup_ix hN e1 (e ▸ hi))
          simp [this, e]
        · exact .inr ⟨k, c, e, z.sameBut hs (cne y c e)⟩
    · obtain ⟨w', z⟩ := I.cell y c e
      exact ⟨w', z.sameBut hs (cne y c e)⟩
    · obtain ⟨e, n, ne, nf, d⟩ := I.pin p hp
      exact ⟨(hs.2 p.1 ne).trans e, n, ne, nf, d⟩
  · have hfn : X.fn x = true := by
      rcases hf with z | z
      · exact z
      · rw [z] at hk; cases hk
    obtain ⟨c, hc⟩ := I.ok.has x (.inl hk)
    obtain ⟨w', z⟩ := I.cell x c hc
    refine wpAny_storeName_cell I.ok.kind hk hc z (fun h' hc' hs => ?_)
    obtain ⟨oc, hoc, hocd⟩ := id z
    refine h { s with heap := h' } ⟨I.ok, I.os, I.bare, ⟨fun b o e n hb hx => ?_, fun b o e n hb hx => ?_, I.base.free, fun b o e hx => ?_, I.base.tups, I.base.frzs, I.base.tbls⟩, ⟨m, hn.sameBut hs (Ne.symm (cne x c hc)), fun j y v' e1 e2 e3 => ?_⟩, fun y c' e => ?_, I.free, I.freeC, fun p hp => ?_, tracked ⟨oc, hoc, I.freeC x c hc⟩ hs, by simpa using I.len⟩ ⟨c, hs, .inr hc⟩
    · exact (hs.2 b (Nat.ne_of_lt (Nat.lt_of_lt_of_le (Heap.lt_size e) (I.ok.cab x c hfn hc)))).trans (I.base.keep b o e n hb hx)
    · obtain ⟨sl, e1⟩ := I.base.slot b o e n hb hx
      exact ⟨sl, (hs.2 b (Nat.ne_of_lt (Nat.lt_of_lt_of_le (Heap.lt_size e) (I.ok.cab x c hfn hc)))).trans e1⟩
    · obtain ⟨o', e1⟩ := I.base.there b o e hx
      exact ⟨o', (hs.2 b (Nat.ne_of_lt (Nat.lt_of_lt_of_le (Heap.lt_size e) (I.ok.cab x c hfn hc)))).trans e1⟩
    · by_cases hj : j = i
      · subst hj
        rw [hi] at e1; cases e1
        rw [List.getElem?_set_self hiσ] at e2
        cases e2
        exact ⟨u, r, .inr ⟨.inl hk, c, hc, hc'⟩⟩
      · rw [List.getElem?_set_ne (Ne.symm hj)] at e2
        obtain ⟨u', r', q⟩ := hl j y v' e1 e2 e3
        refine ⟨u', r', ?_⟩
        rcases q with q | ⟨k, c', e, z'⟩
        · exact .inl q
        · refine .inr ⟨k, c', e, z'.sameBut hs ?_⟩
          rintro rfl
          exact hj (nodup_ix hN e1 (I.ok.inj _ _ _ e hc ▸ hi))
    · by_cases hcc : c' = c
      · subst hcc; exact ⟨_, hc'⟩
      · obtain ⟨w2, z2⟩ := I.cell y c' e
        exact ⟨w2, z2.sameBut hs hcc⟩
    · obtain ⟨e, n, ne, nf, d⟩ := I.pin p hp
      refine ⟨(hs.2 p.1 ?_).trans e, n, ne, nf, d⟩
      intro q
      rw [q, hoc] at e
      have q' : oc = p.2 := Option.some.inj e
      exact d w' (by rw [← q']; exact hocd)
theorem store_ok {M : Model} {A : Around} {E : Value → Shared → Prop} {i : Nat} {x : Str} {v : V} {u : Value} {Q : Unit → Shared → Prop} (I : Inv X pins σ H s) (hN : X.N.Nodup) (hi : X.N[i]? = some x) (hx : Loc X.env.scope x) (r : RelV v u)
    (h : ∀ s', Inv X pins (σ.set i (some v)) H s' → Q () s') (hf : X.fn x = true ∨ X.env.scope.names.lookup x = some .local := by first | exact .inl rfl | exact .inr rfl | assumption) : wpAny M A (storeName X.env x u) Q E s :=
  store_ok2 I hN hi hx r (fun s' I' _ => h s' I') hf
theorem Inv.call' {s' : Shared} {ch : List Addr} (I : Inv X pins σ H s) (ho : s'.os = s.os) (u : Un (frs X.stack) ch H H' s.heap s'.heap) (hok : HOk X.prog X.w H' s'.heap) (hg : AllBare s'.gens)
    (hch : ∀ b ∈ ch, (b ∈ X.ex ∨ X.s_0.heap.objs.size ≤ b) ∧ b ≠ X.env.locals ∧ (∀ x c, X.env.cells.lookup x = some c → c ≠ b) ∧ ∀ p ∈ X.pn ++ pins, p.1 ≠ b) : Inv X pins σ H' s' := by
  obtain ⟨h', g', d', t', o'⟩ := s'
  have e : o' = s.os := ho
  subst e
  exact I.call (g' := g') (t' := t') (d' := d') u hok hg hch
end
abbrev XK := Value → Option Addr → Hp → Prop
abbrev St := List (Option V)
abbrev VK := V → Hp → Prop
abbrev TE := St → Hp → VK → Prop
abbrev TT := St → Hp → (Bool → Hp → Prop) → Prop
abbrev TA := St → Hp → (List V → Hp → Prop) → Prop
structure Ends where
  nx : St → Hp → Prop
  rt : VK
  bk : St → Hp → Prop := fun _ _ => False
  ct : St → Hp → Prop := fun _ _ => False
abbrev TS := Ends → St → Hp → Prop
def EP (X : Cx) (pins : List (Addr × Obj)) (σ : St) (Q : VK) (u : Value) (s' : Shared) : Prop := ∃ v H', Inv X pins σ H' s' ∧ RelV v u ∧ Q v H'
def TP (X : Cx) (pins : List (Addr × Obj)) (σ : St) (Q : Bool → Hp → Prop) (b : Bool) (s' : Shared) : Prop := ∃ H', Inv X pins σ H' s' ∧ Q b H'
def AP (X : Cx) (pins : List (Addr × Obj)) (σ : St) (Q : List V → Hp → Prop) (us : List Value) (s' : Shared) : Prop := ∃ vs H', Inv X pins σ H' s' ∧ Vals vs us ∧ Q vs H'
def SP (X : Cx) (pins : List (Addr × Obj)) (D : Ends) (f : Flow) (s' : Shared) : Prop :=
  match f with
  | .next => ∃ σ' H', Inv X pins σ' H' s' ∧ D.nx σ' H'
  | .brk => ∃ σ' H', Inv X pins σ' H' s' ∧ D.bk σ' H'
  | .cont => ∃ σ' H', Inv X pins σ' H' s' ∧ D.ct σ' H'
  | .ret u => ∃ v σ' H', Inv X pins σ' H' s' ∧ RelV v u ∧ D.rt v H'
def PE (X : Cx) (e : Expr) (t : TE) : Prop :=
  ∀ (pins : List (Addr × Obj)) (s : Shared) (σ : St) (H : Hp) (Q : VK), Inv X pins σ H s → t σ H Q → wpAny (model X.prog X.w) X.A (eval e X.env) (EP X pins σ Q) X.xe s
def PT (X : Cx) (e : Expr) (t : TT) : Prop :=
  ∀ (pins : List (Addr × Obj)) (s : Shared) (σ : St) (H : Hp) (Q : Bool → Hp → Prop), Inv X pins σ H s → t σ H Q → wpAny (model X.prog X.w) X.A (isTrue e X.env (eval e X.env)) (TP X pins σ Q) X.xe s
def PW (X : Cx) (e : Expr) (t : TT) : Prop :=
  ∀ (whole : Sem Value) (pins : List (Addr × Obj)) (s : Shared) (σ : St) (H : Hp) (Q : Bool → Hp → Prop), Inv X pins σ H s → t σ H Q → wpAny (model X.prog X.w) X.A (isTrue e X.env whole) (TP X pins σ Q) X.xe s
theorem PW.pt {X : Cx} {e : Expr} {t : TT} (h : PW X e t) : PT X e t := h _
def PA (X : Cx) (es : List Expr) (t : TA) : Prop :=
  ∀ (pos : Pos) (pins : List (Addr × Obj)) (s : Shared) (σ : St) (H : Hp) (Q : List V → Hp → Prop), Inv X pins σ H s → t σ H Q → wpAny (model X.prog X.w) X.A (spliced (backTo pos (starEach es X.env))) (AP X pins σ Q) X.xe s
def PS (X : Cx) (st : Stmt) (t : TS) : Prop :=
  ∀ (pins : List (Addr × Obj)) (s : Shared) (σ : St) (H : Hp) (D : Ends), Inv X pins σ H s → t D σ H → wpAny (model X.prog X.w) X.A (exec st X.env) (SP X pins D) X.xe s
def PSs (X : Cx) (st : List Stmt) (t : TS) : Prop :=
  ∀ (pins : List (Addr × Obj)) (s : Shared) (σ : St) (H : Hp) (D : Ends), Inv X pins σ H s → t D σ H → wpAny (model X.prog X.w) X.A (execs st X.env) (SP X pins D) X.xe s
theorem thn {α : Type} {t : Sem α} {Q Q' : α → Shared → Prop} {M : Model} {A : Around} {E : Value → Shared → Prop} {s : Shared} (h : wpAny M A t Q E s) (hQ : ∀ a s, Q a s → Q' a s) : wpAny M A t Q' E s := wpAny_mono h hQ fun _ _ x => x
end L2
namespace L2
open PySem PySem.Spec PyProof.Rows
section
variable {X : Cx}
theorem bin {a b : Expr} {ta tb : TE} (ha : PE X a ta) (hb : PE X b tb) {pins : List (Addr × Obj)} {s : Shared} {σ : St} {H : Hp} {R : V → V → Hp → Prop} (I : Inv X pins σ H s) (h : ta σ H fun x H1 => tb σ H1 fun y H2 => R x y H2)
    {α : Type} {Q : α → Shared → Prop} {f : Value → Value → Sem α}
    (hf : ∀ v u s2 x y H2, Inv X pins σ H2 s2 → RelV x v → RelV y u → R x y H2 → wpAny (model X.prog X.w) X.A (f v u) Q X.xe s2) :
    wpAny (model X.prog X.w) X.A (eval a X.env) (fun v s₁ => wpAny (model X.prog X.w) X.A (eval b X.env) (fun u s₂ => wpAny (model X.prog X.w) X.A (f v u) Q X.xe s₂) X.xe s₁) X.xe s := by
  refine thn (ha pins s σ H _ I h) fun v s1 ⟨x, H1, I1, r1, q1⟩ => ?_
  refine thn (hb pins s1 σ H1 _ I1 q1) fun u s2 ⟨y, H2, I2, r2, q2⟩ => ?_
  exact hf v u s2 x y H2 I2 r1 r2 q2
def tVar (i : Nat) : TE := fun σ H Q => ∃ v, σ[i]? = some (some v) ∧ Q v H
def tC (v : V) : TE := fun _ H Q => Q v H
theorem pe_var {i : Nat} {x : Str} {pos : Pos} (hN : X.N[i]? = some x) (hv : Vis X.env.scope x) (hd : (x == ("__debug__" : Str)) = false := by decide) (hcd : (x == ("__classdict__" : Str)) = false := by decide) : PE X (.Name x pos) (tVar i) := by
  intro pins s σ H Q I h
  obtain ⟨v, e, h⟩ := h
  obtain ⟨m, hn, hl⟩ := I.loc
  obtain ⟨u, r, l⟩ := hl i x v hN e hv
  have fin : EP X pins σ Q u s := ⟨v, H, I, r, h⟩
  rcases l with ⟨hk, hm⟩ | ⟨hk, c, hc, hcell⟩
  · exact wpAny_Name (wpAny_loadName_local I.ok.kind hk hn hm fin) hd
  · rcases hk with hk | hk
    · exact wpAny_Name (wpAny_loadName_cell I.ok.kind hk hc hcell fin) hd
    · exact wpAny_Name (wpAny_loadName_free I.ok.kind hk hc hcell fin hcd) hd
theorem pe_int {i j pos} : PE X (.Constant (.int i) j pos) (tC (.int i)) := fun _ _ _ H _ I h => wpAny_Constant_int ⟨.int i, H, I.tok _, ⟨_, rfl⟩, h⟩
theorem pe_bl {b j pos} : PE X (.Constant (.bool b) j pos) (tC (.bl b)) := fun _ _ _ H _ I h => Constant_bool ⟨.bl b, H, I, rfl, h⟩
def Gl (X : Cx) (x : Str) : Prop := X.env.kindOf x = some .globalImplicit
theorem ld_glob {E : Value → Shared → Prop} {pins : List (Addr × Obj)} {s : Shared} {σ : St} {H : Hp} {x : Str} {u : Value} {pos : Pos} {Q : Value → Shared → Prop} (I : Inv X pins σ H s) (hg : Gl X x) (hm : X.mg x = some u) (h : Q u s)
    (hd : (x == ("__debug__" : Str)) = false := by decide) : wpAny (model X.prog X.w) X.A (eval (.Name x pos) X.env) Q E s :=
  Calls.Name_function_global I.ok.kind hg (Calls.loadGlobal_global (by rw [I.ok.glob]; exact I.mod.glob.keeps I.bk) hm h) hd
theorem ld_blt {E : Value → Shared → Prop} {pins : List (Addr × Obj)} {s : Shared} {σ : St} {H : Hp} {x : Str} {u : Value} {pos : Pos} {Q : Value → Shared → Prop} (I : Inv X pins σ H s) (hg : Gl X x) (hm : X.mg x = none) (hv : bootBuiltins x = some u) (h : Q u s)
    (hn : x ≠ "__name__" := by decide) (hd : (x == ("__debug__" : Str)) = false := by decide) : wpAny (model X.prog X.w) X.A (eval (.Name x pos) X.env) Q E s := by
  obtain ⟨mb, h1, h2⟩ := I.mod.blt
  exact Calls.Name_function_global I.ok.kind hg (Calls.loadGlobal_builtin (by rw [I.ok.glob]; exact I.mod.glob.keeps I.bk) hm (by rw [I.ok.blt]; exact h1.keeps I.bk) ((h2 x hn).trans hv) h) hd
theorem pe_glob {x : Str} {v : V} {u : Value} {pos : Pos} (hg : Gl X x) (hm : X.mg x = some u) (r : RelV v u) (hd : (x == ("__debug__" : Str)) = false := by decide) : PE X (.Name x pos) (tC v) :=
  fun _ _ _ H _ I h => ld_glob I hg hm ⟨v, H, I, r, h⟩ hd
variable {a b : Expr} {ta tb : TE} {pos : Pos}
def PC (X : Cx) (op : CmpOp) (a b : Expr) (t : TE) : Prop :=
  ∀ (pins : List (Addr × Obj)) (s : Shared) (σ : St) (H : Hp) (Q : VK), Inv X pins σ H s → t σ H Q →
    wpAny (model X.prog X.w) X.A (eval a X.env) (fun v s₁ => wpAny (model X.prog X.w) X.A (eval b X.env) (fun u s₂ => wpAny (model X.prog X.w) X.A (compareOp op v u) (EP X pins σ Q) X.xe s₂) X.xe s₁) X.xe s
theorem nobehind (b : Expr) {op : CmpOp} (h : op ≠ .In) (h2 : op ≠ .NotIn) : behindInMarks op b = false := by
  have e1 : (op == CmpOp.In) = false := by cases op <;> first | rfl | exact absurd rfl h
  have e2 : (op == CmpOp.NotIn) = false := by cases op <;> first | rfl | exact absurd rfl h2
  cases b <;> simp [behindInMarks, e1, e2]
def tB (t : TE) : TT := fun σ H Q => t σ H fun x H1 => ∃ c, x = .bl c ∧ Q c H1
theorem pt_cmp {op : CmpOp} {t : TE} (h : PC X op a b t) (h1 : behindInMarks op b = false := by first | exact nobehind _ (by decide) (by decide) | rfl) : PT X (.Compare a [op] [b] pos) (tB t) := by
  intro pins s σ H Q I hw
  refine wpAny_isTrue_Compare1 (thn (h pins s σ H _ I hw) fun v s1 h1 => thn h1 fun u s2 h2 => thn h2 fun c s3 ⟨x, H1, I1, r1, q1⟩ => ?_) h1
  obtain ⟨d, rfl, q⟩ := q1
  cases r1
  exact wpAny_truthy_bool ⟨H1, I1, q⟩
theorem pt_val {e : Expr} {t : TE} (h : PE X e t) (he : ∀ whole, isTrue e X.env whole = (do let v ← whole; standAt e.pos; holding [v] (truthy v)) := by intro _; rfl) : PT X e (tB t) := by
  intro pins s σ H Q I hw
  refine isTrue_plain (thn (h pins s σ H _ I hw) fun v s1 ⟨x, H1, I1, r1, q1⟩ => ?_) (he _)
  obtain ⟨d, rfl, q⟩ := q1
  cases r1
  exact wpAny_truthy_bool ⟨H1, I1, q⟩
variable {tA tB' : TT} {rest : List Expr}
def tAnd (t u : TT) : TT := fun σ H Q => t σ H fun c H1 => if c = true then u σ H1 Q else Q false H1
def tOr (t u : TT) : TT := fun σ H Q => t σ H fun c H1 => if c = true then Q true H1 else u σ H1 Q
def tNot (t : TT) : TT := fun σ H Q => t σ H fun c H1 => Q (!c) H1
theorem pw_and1 (ha : PT X a tA) : PW X (.BoolOp .And [a] pos) tA := by
  intro wh pins s σ H Q I h
  refine isTrue_and (thn (ha pins s σ H Q I h) fun c s1 e => ?_)
  cases c with
  | true => exact isTrue_and_nil e
  | false => exact e
theorem pw_or1 (ha : PT X a tA) : PW X (.BoolOp .Or [a] pos) tA := by
  intro wh pins s σ H Q I h
  refine isTrue_or (thn (ha pins s σ H Q I h) fun c s1 e => ?_)
  cases c with
  | false => exact isTrue_or_nil e
  | true => exact e
theorem pw_and (ha : PT X a tA) (hb : PW X (.BoolOp .And (b :: rest) pos) tB') : PW X (.BoolOp .And (a :: b :: rest) pos) (tAnd tA tB') := by
  intro wh pins s σ H Q I h
  refine isTrue_and (thn (ha pins s σ H _ I h) fun c s1 ⟨H1, I1, q1⟩ => ?_)
  cases c with
  | true => exact hb wh pins s1 σ H1 Q I1 q1
  | false => exact ⟨H1, I1, q1⟩
theorem pw_or (ha : PT X a tA) (hb : PW X (.BoolOp .Or (b :: rest) pos) tB') : PW X (.BoolOp .Or (a :: b :: rest) pos) (tOr tA tB') := by
  intro wh pins s σ H Q I h
  refine isTrue_or (thn (ha pins s σ H _ I h) fun c s1 ⟨H1, I1, q1⟩ => ?_)
  cases c with
  | true => exact ⟨H1, I1, q1⟩
  | false => exact hb wh pins s1 σ H1 Q I1 q1
theorem pt_not (ha : PT X a tA) : PT X (.UnaryOp .Not a pos) (tNot tA) := by
  intro pins s σ H Q I h
  exact isTrue_not (ha pins s σ H (fun c H1 => Q (!c) H1) I h)
def tAndV (ta tb : TE) : TE := fun σ H Q => ta σ H fun x H1 => ∃ c, x = .bl c ∧ if c = true then tb σ H1 Q else Q (.bl false) H1
def tOrV (ta tb : TE) : TE := fun σ H Q => ta σ H fun x H1 => ∃ c, x = .bl c ∧ if c = true then Q (.bl true) H1 else tb σ H1 Q
theorem pe_one {op} {t : TE} (h : PE X a t) : PE X (.BoolOp op [a] pos) t := fun pins s σ H Q I hw => BoolOp_one (h pins s σ H Q I hw)
theorem pe_and (ha : PE X a ta) (hb : PE X (.BoolOp .And (b :: rest) pos) tb) : PE X (.BoolOp .And (a :: b :: rest) pos) (tAndV ta tb) := by
  intro pins s σ H Q I h
  refine BoolOp_and (thn (ha pins s σ H _ I h) fun v s1 ⟨x, H1, I1, r1, q1⟩ => ?_)
  obtain ⟨c, rfl, q1⟩ := q1
  cases r1
  refine wpAny_truthy_bool ?_
  cases c with
  | true => exact hb pins s1 σ H1 Q I1 q1
  | false => exact ⟨.bl false, H1, I1, rfl, q1⟩
theorem pe_or (ha : PE X a ta) (hb : PE X (.BoolOp .Or (b :: rest) pos) tb) : PE X (.BoolOp .Or (a :: b :: rest) pos) (tOrV ta tb) := by
  intro pins s σ H Q I h
  refine BoolOp_or (thn (ha pins s σ H _ I h) fun v s1 ⟨x, H1, I1, r1, q1⟩ => ?_)
  obtain ⟨c, rfl, q1⟩ := q1
  cases r1
  refine wpAny_truthy_bool ?_
  cases c with
  | false => exact hb pins s1 σ H1 Q I1 q1
  | true => exact ⟨.bl true, H1, I1, rfl, q1⟩
end
end L2
namespace L2
open PySem PySem.Spec PyProof.Rows
def SqL (K : PySem.W.Frag) (H : Hp) (a : Addr) (xs : List V) : Prop :=
  Rd H a (.lst xs) ∨
    ∃ (o : Obj) (its : Array Value) (n : Nat), K.lookup a = some o ∧ o.cls = .type "list" ∧ o.dict = none ∧ o.data = .seq its n ∧ its.size ≤ sizeLine ∧ Vals xs its.toList
def SqT (K : PySem.W.Frag) (H : Hp) (a : Addr) (xs : List V) : Prop :=
  Rd H a (.tup xs) ∨
    ∃ (o : Obj) (its : Array Value) (n : Nat), K.lookup a = some o ∧ o.cls = .type "tuple" ∧ o.data = .seq its n ∧ its.size ≤ sizeLine ∧ Vals xs its.toList
def absV : Value → Option V
  | .none => some .non
  | .bool b => some (.bl b)
  | .int i _ => some (.int i)
  | .str x _ => some (.str x)
  | .bytes b _ => some (.byt b)
  | .float b _ => some (.flt b)
  | .ref a => some (.ref a)
  | .type n => some (.ty n)
  | _ => none
theorem RelV.abs {x : V} {u : Value} (r : RelV x u) : absV u = some x := by
  cases x with
  | non => cases r; rfl
  | bl _ => cases r; rfl
  | int _ => obtain ⟨t, rfl⟩ := r; rfl
  | str _ => obtain ⟨t, rfl⟩ := r; rfl
  | byt _ => obtain ⟨t, rfl⟩ := r; rfl
  | flt _ => obtain ⟨t, rfl⟩ := r; rfl
  | ref _ => cases r; rfl
  | ty _ => cases r; rfl
theorem RelV.inj {x y : V} {u : Value} (r : RelV x u) (q : RelV y u) : x = y := Option.some.inj (r.abs.symm.trans q.abs)
theorem Vals.inj : ∀ {xs ys : List V} {us : List Value}, Vals xs us → Vals ys us → xs = ys
  | _, _, _, .nil, .nil => rfl
  | _, _, _, .cons r t, .cons r' t' => by rw [r.inj r', Vals.inj t t']
section
variable {X : Cx} {pins : List (Addr × Obj)} {σ : St} {H : Hp} {s : Shared} {a : Addr} {xs ys : List V}
theorem SqL.of {K : PySem.W.Frag} (h : H a = some (.lst xs)) : SqL K H a xs := .inl (.inl h)
theorem SqT.of {K : PySem.W.Frag} (h : H a = some (.tup xs)) : SqT K H a xs := .inl (.inl h)
theorem Inv.list (I : Inv X pins σ H s) (h : SqL X.K H a xs) : ∃ its : List Value, Vals xs its ∧ PlainL s.heap a its.toArray ∧ xs.length ≤ sizeLine := by
  rcases h with h | ⟨o, its, n, hk, hc, hd, hs, hz, r⟩
  · obtain ⟨z, its, n, r, e⟩ := h.ok I.hok
    exact ⟨its, r, ⟨_, n, e, rfl, rfl, rfl⟩, z⟩
  · refine ⟨its.toList, r, ⟨o, n, I.kIn a o hk, hc, hd, by simpa using hs⟩, ?_⟩
    have e := r.length
    simp only [Array.length_toList] at e
    omega
theorem Inv.tuple (I : Inv X pins σ H s) (h : SqT X.K H a xs) : ∃ its : List Value, Vals xs its ∧ IsTup s.heap a its.toArray ∧ xs.length ≤ sizeLine := by
  rcases h with h | ⟨o, its, n, hk, hc, hs, hz, r⟩
  · obtain ⟨z, its, r, p⟩ := h.ok I.hok
    exact ⟨its, r, p, z⟩
  · refine ⟨its.toList, r, ⟨o, I.kIn a o hk, hc, n, by simpa using hs⟩, ?_⟩
    have e := r.length
    simp only [Array.length_toList] at e
    omega
theorem Inv.list_inj (I : Inv X pins σ H s) (h : SqL X.K H a xs) (h' : SqL X.K H a ys) : xs = ys := by
  obtain ⟨its, r, ⟨o, n, e, _, _, d⟩, _⟩ := I.list h
  obtain ⟨its', r', ⟨o', n', e', _, _, d'⟩, _⟩ := I.list h'
  rw [e] at e'; cases e'
  rw [d] at d'
  injection d' with d1 _
  have : its = its' := by simpa using congrArg Array.toList d1
  subst this
  exact r.inj r'
end
abbrev Cx.wish (X : Cx) (E : Value → Shared → Prop) : Cx := { X with xe := E }
abbrev Cx.nox (X : Cx) : Cx := X.wish fun _ _ => False
theorem Cx.Ok.wish {X : Cx} (ok : X.Ok) (E : Value → Shared → Prop) : (X.wish E).Ok :=
  ⟨ok.mod, ok.kind, ok.glob, ok.blt, ok.above, ok.inj, ok.has, ok.cab, ok.hd, ok.frames, ok.stk, ok.exf, ok.bs, ok.bsz, ok.noex, ok.exfs, ok.funs, ok.frf⟩
theorem Cx.Ok.unwish {X : Cx} {E : Value → Shared → Prop} (ok : (X.wish E).Ok) : X.Ok :=
  ⟨ok.mod, ok.kind, ok.glob, ok.blt, ok.above, ok.inj, ok.has, ok.cab, ok.hd, ok.frames, ok.stk, ok.exf, ok.bs, ok.bsz, ok.noex, ok.exfs, ok.funs, ok.frf⟩
section
variable {X : Cx} {pins : List (Addr × Obj)} {σ : St} {H : Hp} {s : Shared} {E : Value → Shared → Prop}
theorem Inv.wish (I : Inv X pins σ H s) (E : Value → Shared → Prop) : Inv (X.wish E) pins σ H s := ⟨I.ok.wish E, I.os, I.bare, I.base, I.loc, I.cell, I.free, I.freeC, I.pin, I.hok, I.len⟩
theorem Inv.unwish (I : Inv (X.wish E) pins σ H s) : Inv X pins σ H s := ⟨I.ok.unwish, I.os, I.bare, I.base, I.loc, I.cell, I.free, I.freeC, I.pin, I.hok, I.len⟩
theorem SP.unwish {D : Ends} {f : Flow} {s' : Shared} (h : SP (X.wish E) pins D f s') : SP X pins D f s' := by
  cases f with
  | next => obtain ⟨σ', H', I, q⟩ := h; exact ⟨σ', H', I.unwish, q⟩
  | brk => obtain ⟨σ', H', I, q⟩ := h; exact ⟨σ', H', I.unwish, q⟩
  | cont => obtain ⟨σ', H', I, q⟩ := h; exact ⟨σ', H', I.unwish, q⟩
  | ret u => obtain ⟨v, σ', H', I, r, q⟩ := h; exact ⟨v, σ', H', I.unwish, r, q⟩
theorem PE.nox {e : Expr} {t : TE} (h : PE X.nox e t) : PE X e t := fun pins s σ H Q I hw =>
  wpAny_mono (h pins s σ H Q (I.wish _) hw) (fun _ _ ⟨v, H', I', r, q⟩ => ⟨v, H', I'.unwish, r, q⟩) fun _ _ z => False.elim z
theorem PT.nox {e : Expr} {t : TT} (h : PT X.nox e t) : PT X e t := fun pins s σ H Q I hw =>
  wpAny_mono (h pins s σ H Q (I.wish _) hw) (fun _ _ ⟨H', I', q⟩ => ⟨H', I'.unwish, q⟩) fun _ _ z => False.elim z
theorem PSs.nox {st : List Stmt} {t : TS} (h : PSs X.nox st t) : PSs X st t := fun pins s σ H D I hw =>
  wpAny_mono (h pins s σ H D (I.wish _) hw) (fun _ _ q => q.unwish) fun _ _ z => False.elim z
end
section
variable {X : Cx} {st : Stmt} {rest : List Stmt} {t u : TS} {e : Expr} {te : TE} {pos : Pos}
def tNext : TS := fun D σ H => D.nx σ H
def tSeq (t u : TS) : TS := fun D σ H => t { D with nx := u D } σ H
theorem pss_nil : PSs X [] tNext := fun _ _ σ H _ I h => wpAny_execs_nil ⟨σ, H, I, h⟩
theorem pss_cons (h1 : PS X st t) (h2 : PSs X rest u) : PSs X (st :: rest) (tSeq t u) := by
  intro pins s σ H D I h
  refine wpAny_execs_cons (thn (h1 pins s σ H { D with nx := u D } I h) fun f s1 q => ?_)
  cases f with
  | next =>
    obtain ⟨σ', H', I', q⟩ := q
    exact h2 pins s1 σ' H' D I' q
  | ret v => exact q
  | brk => exact q
  | cont => exact q
theorem pss_one (h1 : PS X st t) : PSs X [st] t := by
  intro pins s σ H D I h
  refine wpAny_execs_cons (thn (h1 pins s σ H D I h) fun f s1 q => ?_)
  cases f with
  | next => exact wpAny_execs_nil q
  | ret v => exact q
  | brk => exact q
  | cont => exact q
theorem Inv.quiet {pins : List (Addr × Obj)} {σ : St} {H : Hp} {s : Shared} (I : Inv X pins σ H s) : interactive X.env = false := by simp [interactive, I.ok.kind]
def tDrop (te : TE) : TS := fun D σ H => te σ H fun _ H1 => D.nx σ H1
theorem ps_expr (he : PE X e te) (hs : swapsWith e none pos.line X.env = pure false := by rfl) : PS X (.Expr e pos) (tDrop te) := by
  intro pins s σ H D I h
  exact wpAny_Expr_any (thn (he pins s σ H _ I h) fun v s1 ⟨x, H1, I1, r1, q1⟩ => ⟨σ, H1, I1, q1⟩) I.quiet hs
def tRet (te : TE) : TS := fun D σ H => te σ H D.rt
theorem ps_ret (he : PE X e te) : PS X (.Return (some e) pos) (tRet te) := by
  intro pins s σ H D I h
  exact wpAny_Return_some (thn (he pins s σ H _ I h) fun v s1 ⟨x, H1, I1, r1, q1⟩ => ⟨x, σ, H1, I1, r1, q1⟩)
def tIfS (c : TT) (t u : TS) : TS := fun D σ H => c σ H fun b H1 => if b = true then t D σ H1 else u D σ H1
theorem ps_if {c : Expr} {a b : List Stmt} {tc : TT} (hc : PT X c tc) (ha : PSs X a t) (hb : PSs X b u) : PS X (.If c a b pos) (tIfS tc t u) := by
  intro pins s σ H D I h
  refine wpAny_If (thn (hc pins s σ H _ I h) fun d s1 ⟨H1, I1, q1⟩ => ?_)
  cases d with
  | true => exact ha pins s1 σ H1 D I1 q1
  | false => exact hb pins s1 σ H1 D I1 q1
end
abbrev TG := V → St → Hp → (St → Hp → Prop) → Prop
abbrev TGs := List V → St → Hp → (St → Hp → Prop) → Prop
def PG (X : Cx) (target : Expr) (t : TG) : Prop :=
  ∀ (pins : List (Addr × Obj)) (s : Shared) (σ : St) (H : Hp) (v : V) (u : Value) (Q : St → Hp → Prop), Inv X pins σ H s → RelV v u → t v σ H Q →
    wpAny (model X.prog X.w) X.A (assign target X.env u) (fun _ s' => ∃ σ' H', Inv X pins σ' H' s' ∧ Q σ' H') X.xe s
def PGs (X : Cx) (ts : List Expr) (t : TGs) : Prop :=
  ∀ (pins : List (Addr × Obj)) (s : Shared) (σ : St) (H : Hp) (vs : List V) (us : List Value) (Q : St → Hp → Prop), Inv X pins σ H s → Vals vs us → t vs σ H Q →
    wpAny (model X.prog X.w) X.A (assignInOrder ((assignEach ts X.env).map (·.2)) us) (fun _ s' => ∃ σ' H', Inv X pins σ' H' s' ∧ Q σ' H') X.xe s
abbrev TSet := V → V → V → Hp → (Hp → Prop) → Prop
def PSet (X : Cx) (t : TSet) : Prop :=
  ∀ (pins : List (Addr × Obj)) (s : Shared) (σ : St) (H : Hp) (o i v : V) (ov iv u : Value) (Q : Hp → Prop), Inv X pins σ H s → RelV o ov → RelV i iv → RelV v u → t o i v H Q →
    wpAny (model X.prog X.w) X.A (setItem ov iv u) (fun _ s' => ∃ H', Inv X pins σ H' s' ∧ Q H') X.xe s
abbrev TIp := V → V → Hp → VK → Prop
def PIp (X : Cx) (op : Operator) (t : TIp) : Prop :=
  ∀ (pins : List (Addr × Obj)) (s : Shared) (σ : St) (H : Hp) (x y : V) (v u : Value) (Q : VK), Inv X pins σ H s → RelV x v → RelV y u → t x y H Q →
    wpAny (model X.prog X.w) X.A (inplaceOp op v u) (EP X pins σ Q) X.xe s
section
variable {X : Cx} {pos : Pos}
def gName (i : Nat) : TG := fun v σ H Q => Q (σ.set i (some v)) H
theorem pg_name {i : Nat} {x : Str} (hN : X.N.Nodup) (hi : X.N[i]? = some x) (hx : Loc X.env.scope x) (hf : X.fn x = true ∨ X.env.scope.names.lookup x = some .local := by first | exact .inl rfl | exact .inr rfl | assumption) : PG X (.Name x pos) (gName i) := by
  intro pins s σ H v u Q I r h
  exact wpAny_assign_Name (store_ok I hN hi hx r (fun s' I' => ⟨_, H, I', h⟩) hf)
def gNil : TGs := fun vs σ H Q => vs = [] ∧ Q σ H
def gCons (t : TG) (u : TGs) : TGs := fun vs σ H Q => ∃ v r, vs = v :: r ∧ t v σ H fun σ' H' => u r σ' H' Q
theorem pgs_nil : PGs X [] gNil := by
  intro pins s σ H vs us Q I r h
  obtain ⟨e, h⟩ := h
  subst e
  cases r
  exact assignInOrder_nil ⟨σ, H, I, h⟩
theorem pgs_cons {e : Expr} {es : List Expr} {t : TG} {u : TGs} (h1 : PG X e t) (h2 : PGs X es u)
    (hs : (assignEach (e :: es) X.env).map (·.2) = assign e X.env :: (assignEach es X.env).map (·.2) := by rfl) : PGs X (e :: es) (gCons t u) := by
  intro pins s σ H vs us Q I r h
  obtain ⟨v, vr, e1, h⟩ := h
  subst e1
  cases r with
  | cons r rr =>
    rw [hs]
    refine assignInOrder_cons (thn (h1 pins s σ H _ _ _ I r h) fun _ s1 ⟨σ1, H1, I1, q1⟩ => ?_)
    exact h2 pins s1 σ1 H1 _ _ Q I1 rr q1
def gTup (K : PySem.W.Frag) (n : Nat) (t : TGs) : TG := fun v σ H Q => ∃ a xs, v = .ref a ∧ SqT K H a xs ∧ xs.length = n ∧ t xs σ H Q
theorem pg_tup {es : List Expr} {k : Nat} {t : TGs} {n : Nat} (hc : X.calm = true) (h : PGs X es t)
    (hn : (assignEach es X.env).length = n := by rfl) (hst : (assignEach es X.env).findIdx? (·.1) = none := by rfl) : PG X (.Tuple es k pos) (gTup X.K n t) := by
  intro pins s σ H v u Q I r hw
  obtain ⟨a, xs, e1, hq, hl, hw⟩ := hw
  subst e1
  cases r
  obtain ⟨its, rv, ht, hz⟩ := I.tuple hq
  refine assign_Tuple_tuple (I.ok.hd hc) ht (by simp [hn, ← hl, rv.length]) hst fun h' hx => ?_
  have I1 : Inv X pins σ H { s with heap := h' } := I.kept (t' := s.toks) fun b o e => hx b o (Nat.ne_of_lt (Heap.lt_size e)) e
  exact h pins _ σ H xs _ Q I1 (by simpa using rv) hw
def gSub (to ti : TE) (t : TSet) : TG := fun v σ H Q => to σ H fun o H1 => ti σ H1 fun i H2 => t o i v H2 fun H3 => Q σ H3
theorem pg_sub {o i : Expr} {to ti : TE} {t : TSet} (ho : PE X o to) (hi : PE X i ti) (hs : PSet X t)
    (ha : ∀ v, assign (.Subscript o i pos) X.env v = (do
      let ov ← holding [v] (eval o X.env)
      let iv ← holding [v, ov] (eval i X.env)
      standAt pos
      holding [v, ov, iv] (setItem ov iv v)
      release [v, ov, iv] []) := by intro _; rfl) : PG X (.Subscript o i pos) (gSub to ti t) := by
  intro pins s σ H v u Q I r h
  rw [ha]
  refine wpAny_bind (wpAny_holding (thn (ho pins s σ H _ I h) fun ov s1 ⟨x, H1, I1, r1, q1⟩ => ?_))
  refine wpAny_bind (wpAny_holding (thn (hi pins s1 σ H1 _ I1 q1) fun iv s2 ⟨y, H2, I2, r2, q2⟩ => ?_))
  refine wpAny_bind (wpAny_standAt (wpAny_bind (wpAny_holding (thn (hs pins s2 σ H2 x y v ov iv u _ I2 r1 r2 r q2) fun _ s3 ⟨H3, I3, q3⟩ => ?_))))
  exact wpAny_release ⟨σ, H3, I3, q3⟩
def tAsg (te : TE) (g : TG) : TS := fun D σ H => te σ H fun x H1 => g x σ H1 D.nx
theorem ps_asg {tg e : Expr} {te : TE} {g : TG} (he : PE X e te) (hg : PG X tg g) (hs : swapsWithSole [tg] e pos.line X.env = pure false := by rfl) (hw : swappedStores [tg] e X.env = pure none := by rfl)
    (h1 : (assignEach [tg] X.env).map (·.2) = [assign tg X.env] := by rfl) : PS X (.Assign [tg] e pos) (tAsg te g) := by
  intro pins s σ H D I h
  refine wpAny_Assign_stores (thn (he pins s σ H _ I h) fun v s1 ⟨x, H1, I1, r1, q1⟩ => ?_) hs hw
  rw [h1]
  exact thn (hg pins s1 σ H1 x v _ I1 r1 q1) fun _ s2 q => q
theorem ps_set {i : Nat} {x : Str} {e : Expr} {te : TE} {pos' : Pos} (hN : X.N.Nodup) (hi : X.N[i]? = some x) (hx : Loc X.env.scope x) (he : PE X e te) (hs : swapsWith e (some (.Name x pos')) pos.line X.env = pure false := by rfl) (hf : X.fn x = true ∨ X.env.scope.names.lookup x = some .local := by first | exact .inl rfl | exact .inr rfl | assumption) :
    PS X (.Assign [.Name x pos'] e pos) (tAsg te (gName i)) := by
  intro pins s σ H D I h
  refine wpAny_Assign_Name (thn (he pins s σ H _ I h) fun v s1 ⟨y, H1, I1, r1, q1⟩ => ?_) hs
  exact store_ok I1 hN hi hx r1 (fun s2 I2 => ⟨_, H1, I2, q1⟩) hf
def tAug (i : Nat) (te : TE) (ti : TIp) : TS := fun D σ H => ∃ x, σ[i]? = some (some x) ∧ te σ H fun y H1 => ti x y H1 fun z H2 => D.nx (σ.set i (some z)) H2
theorem ps_aug {i : Nat} {x : Str} {e : Expr} {te : TE} {op : Operator} {ti : TIp} {pos' : Pos} (hN : X.N.Nodup) (hi : X.N[i]? = some x) (hx : Loc X.env.scope x) (he : PE X e te) (ho : PIp X op ti) (hf : X.fn x = true ∨ X.env.scope.names.lookup x = some .local := by first | exact .inl rfl | exact .inr rfl | assumption) :
    PS X (.AugAssign (.Name x pos') op e pos) (tAug i te ti) := by
  intro pins s σ H D I h
  obtain ⟨v, e1, h⟩ := h
  obtain ⟨m, hn, hl⟩ := I.loc
  have vis : Vis X.env.scope x := by rcases hx with k | k; exact .inl k; exact .inr (.inl k)
  obtain ⟨u, r, l⟩ := hl i x v hi e1 vis
  refine wpAny_AugAssign_Name ?_
  have go : wpAny (model X.prog X.w) X.A (eval e X.env) (fun w s₂ => wpAny (model X.prog X.w) X.A (inplaceOp op u w) (fun r s₃ => wpAny (model X.prog X.w) X.A (storeName X.env x r) (fun _ => SP X pins D .next) X.xe s₃) X.xe s₂) X.xe s := by
    refine thn (he pins s σ H _ I h) fun w s1 ⟨y, H1, I1, r1, q1⟩ => ?_
    refine thn (ho pins s1 σ H1 v y u w _ I1 r r1 q1) fun z s2 ⟨zv, H2, I2, r2, q2⟩ => ?_
    exact store_ok I2 hN hi hx r2 (fun s3 I3 => ⟨_, H2, I3, q2⟩) hf
  rcases l with ⟨hk, hm⟩ | ⟨hk, c, hc, hcell⟩
  · exact wpAny_loadName_local I.ok.kind hk hn hm go
  · rcases hk with hk | hk
    · exact wpAny_loadName_cell I.ok.kind hk hc hcell go
    · rcases hx with k | k
      · have : X.env.scope.names.lookup x = some .free := hk
        rw [k] at this; cases this
      · have : X.env.scope.names.lookup x = some .free := hk
        rw [k] at this; cases this
def tAugS (to ti te : TE) (tget : V → V → Hp → VK → Prop) (tip : TIp) (tset : TSet) : TS := fun D σ H => to σ H fun o H1 => ti σ H1 fun i H2 => tget o i H2 fun x H3 => te σ H3 fun y H4 => tip x y H4 fun z H5 => tset o i z H5 fun H6 => D.nx σ H6
def PGet (X : Cx) (t : V → V → Hp → VK → Prop) : Prop :=
  ∀ (pins : List (Addr × Obj)) (s : Shared) (σ : St) (H : Hp) (o i : V) (ov iv : Value) (Q : VK), Inv X pins σ H s → RelV o ov → RelV i iv → t o i H Q →
    wpAny (model X.prog X.w) X.A (getItem ov iv) (EP X pins σ Q) X.xe s
theorem ps_augS {o i e : Expr} {to ti te : TE} {tget : V → V → Hp → VK → Prop} {tip : TIp} {tset : TSet} {op : Operator} {tpos : Pos} (ho : PE X o to) (hi : PE X i ti) (hg : PGet X tget) (he : PE X e te) (hp : PIp X op tip) (hs : PSet X tset)
    (ha : ∀ ov iv new, augStore i ov iv new = (do holding [new, ov, iv] (setItem ov iv new); release [new, ov, iv] []; pure .next) := by intros; rfl) : PS X (.AugAssign (.Subscript o i tpos) op e pos) (tAugS to ti te tget tip tset) := by
  intro pins s σ H D I h
  refine wpAny_AugAssign_SubscriptAny (thn (ho pins s σ H _ I h) fun ov s1 ⟨x1, H1, I1, r1, q1⟩ => ?_) ha
  refine thn (hi pins s1 σ H1 _ I1 q1) fun iv s2 ⟨x2, H2, I2, r2, q2⟩ => ?_
  refine thn (hg pins s2 σ H2 x1 x2 ov iv _ I2 r1 r2 q2) fun old s3 ⟨x3, H3, I3, r3, q3⟩ => ?_
  refine thn (he pins s3 σ H3 _ I3 q3) fun v s4 ⟨x4, H4, I4, r4, q4⟩ => ?_
  refine thn (hp pins s4 σ H4 x3 x4 old v _ I4 r3 r4 q4) fun new s5 ⟨x5, H5, I5, r5, q5⟩ => ?_
  exact thn (hs pins s5 σ H5 x1 x2 x5 ov iv new _ I5 r1 r2 r5 q5) fun _ s6 ⟨H6, I6, q6⟩ => ⟨σ, H6, I6, q6⟩
end
section
variable {X : Cx} {pos : Pos}
def tWhile (c : TT) (tb : TS) : TS := fun D σ H => ∃ W : Nat → St → Hp → Prop, (∃ m, W m σ H) ∧ ∀ m σ H, W m σ H →
  c σ H fun b H1 => if b = true then ∃ N : St → Hp → Prop, (∀ σ' H', N σ' H' → ∃ m', m' < m ∧ W m' σ' H') ∧ tb { D with nx := N, ct := N, bk := D.nx } σ H1 else D.nx σ H1
theorem ps_while {c : Expr} {body : List Stmt} {tc : TT} {tb : TS} (hp : PassesOwn (model X.prog X.w) X.A X.env X.xe) (hc : PT X c tc) (hb : PSs X body tb) : PS X (.While c body [] pos) (tWhile tc tb) := by
  intro pins s σ H D I h
  obtain ⟨W, ⟨m0, w0⟩, turn⟩ := h
  refine wpAny_While (codeAny_whileLoop (fun n s' => ∃ σ' H', Inv X pins σ' H' s' ∧ W n σ' H') ?_ m0 ⟨σ, H, I, w0⟩)
  rintro n s1 ⟨σ1, H1, I1, w1⟩
  refine wpAny_passesOwn hp (thn (hc pins s1 σ1 H1 _ I1 (turn n σ1 H1 w1)) fun b s2 ⟨H2, I2, q2⟩ => ?_)
  cases b with
  | true =>
    obtain ⟨N, hN, q2⟩ := q2
    rw [if_pos rfl]
    refine wpAny_passesOwn hp (thn (hb pins s2 σ1 H2 _ I2 q2) fun f s3 q3 => ?_)
    cases f with
    | next =>
      obtain ⟨σ3, H3, I3, n3⟩ := q3
      obtain ⟨m', hm, w3⟩ := hN σ3 H3 n3
      exact ⟨m', hm, σ3, H3, I3, w3⟩
    | cont =>
      obtain ⟨σ3, H3, I3, n3⟩ := q3
      obtain ⟨m', hm, w3⟩ := hN σ3 H3 n3
      exact ⟨m', hm, σ3, H3, I3, w3⟩
    | brk => exact q3
    | ret v => exact q3
  | false =>
    rw [if_neg Bool.false_ne_true]
    exact wpAny_execs_nil ⟨σ1, H2, I2, q2⟩
end
structure It where
  go : Nat → Hp → Prop
  yld : Nat → Hp → V → Hp → Prop
  stop : Nat → Hp → Prop
def FpOk (X : Cx) (pins : List (Addr × Obj)) (H : Hp) (b : Addr) : Prop :=
  H b = none ∧ b ≠ X.env.locals ∧ b ∉ X.fs ∧ (b ∈ X.ex ∨ X.s_0.heap.objs.size ≤ b) ∧ (∀ x c, X.env.cells.lookup x = some c → c ≠ b) ∧ ∀ p ∈ X.pn ++ pins, p.1 ≠ b
theorem Inv.fpOk {X : Cx} {pins : List (Addr × Obj)} {σ : St} {H H' : Hp} {s : Shared} {b : Addr} (I : Inv X pins σ H s) (hb : s.heap.objs.size ≤ b) (hn : H' b = none) : FpOk X pins H' b := by
  refine ⟨hn, Nat.ne_of_gt (Nat.lt_of_lt_of_le I.lt hb), I.nofs hb, .inr (Nat.le_trans I.sz hb), fun x c e z => ?_, fun p hp z => ?_⟩
  · obtain ⟨v, q⟩ := I.cell x c e
    exact absurd (Nat.lt_of_lt_of_le q.lt (by rw [z]; exact hb)) (Nat.lt_irrefl _)
  · exact absurd (Nat.lt_of_lt_of_le (Heap.lt_size (I.pin p hp).1) (by rw [z]; exact hb)) (Nat.lt_irrefl _)
structure Turn (P : Program) (w : World) (K : PySem.W.Frag) (tg : Expr) (J : It) (fp : List Addr) (it : Addr) (tn : Nat → Heap → Prop) : Prop where
  mem : it ∈ fp
  obj : ∀ i h, tn i h → ∀ b ∈ fp, ∃ o, h.get? b = some o ∧ ∀ v, o.data ≠ .cell v
  keep : ∀ i h h', tn i h → (∀ b ∈ fp, ∀ o, h.get? b = some o → h'.get? b = some o) → tn i h'
  item : ∀ (X : Cx), X.prog = P → X.w = w → X.K = K → X.calm = true → ∀ (i : Nat) (pins : List (Addr × Obj)) (s : Shared) (σ : St) (H : Hp) (E : Value → Shared → Prop), Inv X pins σ H s → (∀ b ∈ fp, FpOk X pins H b) → tn i s.heap → J.go i H →
    wpAny (model P w) X.A (pyNext (.ref it)) (fun r s1 => ∃ u, r = some u ∧
      wpAny (model P w) X.A (letOwnedTupleGo tg (.ref it) u) (fun _ s2 => ∃ x H', Inv X pins σ H' s2 ∧ RelV x u ∧ J.yld i H x H' ∧ tn (i + 1) s2.heap ∧ ∀ b ∈ fp, H' b = none) E s1) E s
  done : ∀ (X : Cx), X.prog = P → X.w = w → X.K = K → X.calm = true → ∀ (i : Nat) (pins : List (Addr × Obj)) (s : Shared) (σ : St) (H : Hp) (E : Value → Shared → Prop), Inv X pins σ H s → (∀ b ∈ fp, FpOk X pins H b) → tn i s.heap → J.stop i H →
    wpAny (model P w) X.A (pyNext (.ref it)) (fun r s1 => r = none ∧ Inv X pins σ H s1) E s
  self : ∀ (A : Around) (i : Nat) (s : Shared) (Q : Value → Shared → Prop) (E : Value → Shared → Prop), tn i s.heap → Q (.ref it) s → wpAny (model P w) A (pyIter (.ref it)) Q E s
abbrev TI := St → Hp → (It → Hp → Prop) → Prop
def PIE (X : Cx) (pins : List (Addr × Obj)) (σ : St) (tg : Expr) (R : It → Hp → Prop) (itv : Value) (s2 : Shared) : Prop :=
  ∃ (it : Addr) (fp : List Addr) (tn : Nat → Heap → Prop) (J : It) (H' : Hp), itv = .ref it ∧ Inv X pins σ H' s2 ∧ Turn X.prog X.w X.K tg J fp it tn ∧ tn 0 s2.heap ∧ (∀ b ∈ fp, FpOk X pins H' b) ∧ R J H'
def PI (X : Cx) (tg iter : Expr) (wi : TI) : Prop :=
  ∀ (pins : List (Addr × Obj)) (s : Shared) (σ : St) (H : Hp) (R : It → Hp → Prop), Inv X pins σ H s → wi σ H R →
    wpAny (model X.prog X.w) X.A (eval iter X.env) (fun v s1 => wpAny (model X.prog X.w) X.A (pyIter v) (PIE X pins σ tg R) X.xe s1) X.xe s
theorem go_of {M : Model} {A : Around} {E : Value → Shared → Prop} {s : Shared} {tg : Expr} {it : Addr} {u : Value} {o : Obj} {n : String} {vs : Array Value} {Q : Unit → Shared → Prop} (ho : s.heap.get? it = some o) (hc : o.cls = .type n) (hd : o.data = .fields vs)
    (hn : ["enumerate", "zip", "dict_itemiterator", "dict_reverseitemiterator", "odict_iterator", "itertools.zip_longest", "itertools.pairwise"].contains n = false) (hQ : Q () s) : wpAny M A (letOwnedTupleGo tg (.ref it) u) Q E s := by
  unfold letOwnedTupleGo
  cases tg <;> first
    | exact wpAny_pure hQ
    | (cases u <;> first
        | exact wpAny_pure hQ
        | (refine wpAny_bind (wpAny_load ho ?_)
           rw [hc, hd]
           show wpAny M A (if (["enumerate", "zip", "dict_itemiterator", "dict_reverseitemiterator", "odict_iterator", "itertools.zip_longest", "itertools.pairwise"].contains n && vs[0]? == some (rawInt _)) = true then _ else _) Q E s
           rw [if_neg (by intro h; rw [hn, Bool.false_and] at h; cases h)]
           exact wpAny_pure hQ))
def Itl (K : PySem.W.Frag) (a : Addr) : It :=
  ⟨fun i H => ∃ xs x, SqL K H a xs ∧ xs[i]? = some x, fun i H x H' => H' = H ∧ ∀ xs, SqL K H a xs → xs[i]? = some x, fun i H => ∃ xs, SqL K H a xs ∧ xs.length ≤ i⟩
def Itr (lo : Int) (n : Nat) : It := ⟨fun i _ => i < n, fun i H x H' => H' = H ∧ x = .int (lo + i), fun i _ => n ≤ i⟩
theorem turn_list {P : Program} {w : World} {K : PySem.W.Frag} {tg : Expr} (a it : Addr) : Turn P w K tg (Itl K a) [it] it (fun i h => h.IsListIter it a i) where
  mem := by simp
  obj := fun i h st b hb => by
    have e : b = it := by simpa using hb
    subst e
    obtain ⟨o, e, c, d⟩ := st
    exact ⟨o, e, fun v z => by rw [d] at z; cases z⟩
  keep := fun i h h' st k => st.at fun o e => k it (by simp) o e
  item := by
    intro X hP hw hK hc i pins s σ H E I hf st hg
    subst hP hw hK
    obtain ⟨xs, x, hq, hx⟩ := hg
    obtain ⟨its, rv, p, hz⟩ := I.list hq
    obtain ⟨u, hu, ru⟩ := rv.get hx
    obtain ⟨f0, f1, f2, f3, f4, f5⟩ := hf it (by simp)
    refine wpAny_pyNext_list_item st p.isList (x := u) (by simpa using hu) fun h' st' sb => ?_
    have I1 : Inv X pins σ H { s with heap := h' } := I.turned (t' := s.toks) (fun b o hb e => (sb.2 b hb).trans e) f0 f1 f3 f4 f5
    obtain ⟨o, e, c, d⟩ := id st'
    exact ⟨u, rfl, go_of (s := { s with heap := h' }) e c d (by decide) ⟨x, H, I1, ru, ⟨rfl, fun ys hy => by rw [I.list_inj hy hq]; exact hx⟩, st', fun b hb => (hf b hb).1⟩⟩
  done := by
    intro X hP hw hK hc i pins s σ H E I hf st hg
    subst hP hw hK
    obtain ⟨xs, hq, hx⟩ := hg
    obtain ⟨its, rv, p, hz⟩ := I.list hq
    obtain ⟨f0, f1, f2, f3, f4, f5⟩ := hf it (by simp)
    have hl := rv.length
    exact wpAny_pyNext_list_end (I.ok.hd hc) st p.isList (by simp; omega) fun h' eb => ⟨rfl, I.turned (t' := s.toks) (fun b o hb e => eb b o hb e) f0 f1 f3 f4 f5⟩
  self := fun _ _ _ _ _ st h => wpAny_pyIter_listiter st h
theorem turn_range {P : Program} {w : World} {K : PySem.W.Frag} {tg : Expr} (it : Addr) (lo : Int) (n : Nat) : Turn P w K tg (Itr lo n) [it] it (fun i h => IsRangeIter h it (lo + (i : Nat) * 1) ((n : Int) - (i : Nat)) 1) where
  mem := by simp
  obj := fun i h st b hb => by
    have e : b = it := by simpa using hb
    subst e
    exact ⟨_, st, fun v z => by
      have z' : Data.fields _ = Data.cell v := z
      cases z'⟩
  keep := fun i h h' st k => k it (by simp) _ st
  item := by
    intro X hP hw hK hc i pins s σ H E I hf st hg
    subst hP hw hK
    obtain ⟨f0, f1, f2, f3, f4, f5⟩ := hf it (by simp)
    have W := Walks.range (prog := X.prog) (w := X.w) (I.ok.hd hc) it lo 1 n
    refine W.item i s _ _ hg st fun v h' tk hv st' kk => ?_
    obtain ⟨t, rfl⟩ := hv
    have I1 : Inv X pins σ H { s with heap := h', toks := tk } := I.turned (fun b o hb e => kk b o (by simpa using hb) e) f0 f1 f3 f4 f5
    refine ⟨_, rfl, go_of (s := { s with heap := h', toks := tk }) (n := "range_iterator") st' rfl rfl (by decide) ⟨.int (lo + i), H, I1, ⟨t, ?_⟩, ⟨rfl, rfl⟩, st', fun b hb => (hf b hb).1⟩⟩
    rw [Int.mul_one]
  done := by
    intro X hP hw hK hc i pins s σ H E I hf st hg
    subst hP hw hK
    obtain ⟨f0, f1, f2, f3, f4, f5⟩ := hf it (by simp)
    exact wpAny_pyNext_range_end (I.ok.hd hc) st (by have : n ≤ i := hg; omega) fun h' eb => ⟨rfl, I.turned (t' := s.toks) (fun b o hb e => eb b o hb e) f0 f1 f3 f4 f5⟩
  self := fun _ _ _ _ _ st h => wpAny_pyIter_rangeiter st h
end L2
namespace L2
open PySem PySem.Spec PyProof.Rows
section
variable {X : Cx} {tg : Expr}
def iList (K : PySem.W.Frag) (tl : TE) : TI := fun σ H R => tl σ H fun x H1 => ∃ a, x = .ref a ∧ (∃ xs, SqL K H1 a xs) ∧ R (Itl K a) H1
theorem pi_list {l : Expr} {tl : TE} (hl : PE X l tl) : PI X tg l (iList X.K tl) := by
  intro pins s σ H R I h
  refine thn (hl pins s σ H _ I h) fun v s1 ⟨x, H1, I1, r1, q1⟩ => ?_
  obtain ⟨a, e, ⟨xs, hq⟩, q⟩ := q1
  subst e
  cases r1
  obtain ⟨its, rv, p, hz⟩ := I1.list hq
  refine wpAny_pyIter_list p.isList ?_
  refine ⟨s1.heap.objs.size, [s1.heap.objs.size], _, _, H1, rfl, I1.kept (t' := s1.toks) fun b o e => Heap.get?_push_of_some _ e, turn_list a _, ⟨_, Heap.get?_push_size _ rfl, rfl, rfl⟩, fun b hb => ?_, q⟩
  have e : b = s1.heap.objs.size := by simpa using hb
  subst e
  exact I1.fpOk (Nat.le_refl _) (I1.hok.fresh (Nat.le_refl _))
theorem range_it {pins : List (Addr × Obj)} {σ : St} {H : Hp} {s : Shared} {R : It → Hp → Prop} {E : Value → Shared → Prop} {lo hi : Int} {t u v : Tok} {tk : Nat} (I : Inv X pins σ H s) (h1 : -(2 ^ 62) ≤ lo) (h2 : lo < 2 ^ 62) (h3 : -(2 ^ 62) ≤ hi) (h4 : hi < 2 ^ 62)
    (q : R (Itr lo (hi - lo).toNat) H) : wpAny (model X.prog X.w) X.A (pyIter (.ref s.heap.objs.size)) (PIE X pins σ tg R) E { s with heap := s.heap.push { cls := .type "range", data := .fields #[.int lo t, .int hi u, .int 1 v] }, toks := tk } := by
  refine wpAny_pyIter_range (IsRange.new ..) (small_one h1 h2 h3 h4) ?_
  have I1 : Inv X pins σ H { s with heap := s.heap.push { cls := .type "range", data := .fields #[.int lo t, .int hi u, .int 1 v] }, toks := tk } := I.kept fun b o e => Heap.get?_push_of_some _ e
  refine ⟨(s.heap.push { cls := .type "range", data := .fields #[.int lo t, .int hi u, .int 1 v] }).objs.size, [(s.heap.push { cls := .type "range", data := .fields #[.int lo t, .int hi u, .int 1 v] }).objs.size], _, _, H, rfl,
    I1.kept (t' := tk) fun b o e => Heap.get?_push_of_some _ e, turn_range _ lo (hi - lo).toNat, ?_, fun b hb => ?_, q⟩
  · have e1 : lo + ((0 : Nat) : Int) * 1 = lo := by simp
    have e2 : (((hi - lo).toNat : Nat) : Int) - ((0 : Nat) : Int) = Builtin.Range.rangeSize lo hi 1 := by rw [rangeSize_one]; split <;> omega
    show IsRangeIter _ _ (lo + ((0 : Nat) : Int) * 1) ((((hi - lo).toNat : Nat) : Int) - ((0 : Nat) : Int)) 1
    rw [e1, e2]
    exact Heap.get?_push_size _ rfl
  · have e : b = (s.heap.push { cls := .type "range", data := .fields #[.int lo t, .int hi u, .int 1 v] }).objs.size := by simpa using hb
    subst e
    exact I1.fpOk (Nat.le_refl _) (I1.hok.fresh (Nat.le_refl _))
def iRng1 (ta : TA) : TI := fun σ H R => ta σ H fun vs H1 => ∃ j : Int, vs = [.int j] ∧ -(2 ^ 62) ≤ j ∧ j < 2 ^ 62 ∧ R (Itr 0 j.toNat) H1
theorem pi_range1 {a : Expr} {ta : TA} {p pos : Pos} (hg : Gl X "range") (hm : X.mg "range" = none) (ha : PA X [a] ta) (hs : starEach [a] X.env = [(false, eval a X.env)] := by rfl) : PI X tg (.Call (.Name "range" p) [a] [] pos) (iRng1 ta) := by
  intro pins s σ H R I h
  refine Call_ (ld_blt I hg hm boot_range (PyProof.Rows.callWith_type1 (thn (ha pos pins s σ H _ I h) fun us s1 ⟨vs, H1, I1, r1, q1⟩ => ?_) hs rfl))
  obtain ⟨j, e, q1, q2, q⟩ := q1
  subst e
  cases r1 with
  | cons r rr =>
    cases rr
    obtain ⟨t, rfl⟩ := r
    exact call_range_1 (range_it I1 (by omega) (by omega) q1 q2 (by simpa using q))
def tFor (wi : TI) (g : TG) (tb : TS) : TS := fun D σ H => wi σ H fun J H1 => ∃ W : Nat → Nat → St → Hp → Prop, (∃ m, W 0 m σ H1) ∧ ∀ i m σ H, W i m σ H →
  (J.stop i H ∧ D.nx σ H) ∨ (J.go i H ∧ ∃ N : St → Hp → Prop, (∀ σ' H', N σ' H' → ∃ m', m' < m ∧ W (i + 1) m' σ' H') ∧ ∀ x H', J.yld i H x H' → g x σ H' fun σ2 H2 => tb { D with nx := N, ct := N, bk := D.nx } σ2 H2)
def pinsAt (fp : List Addr) (h : Heap) : List (Addr × Obj) := fp.filterMap fun b => (h.get? b).map fun o => (b, o)
theorem mem_pinsAt {fp : List Addr} {h : Heap} {b : Addr} {o : Obj} (hb : b ∈ fp) (e : h.get? b = some o) : (b, o) ∈ pinsAt fp h := List.mem_filterMap.mpr ⟨b, hb, by rw [e]; rfl⟩
theorem of_pinsAt {fp : List Addr} {h : Heap} {p : Addr × Obj} (hp : p ∈ pinsAt fp h) : p.1 ∈ fp ∧ h.get? p.1 = some p.2 := by
  obtain ⟨b, hb, e⟩ := List.mem_filterMap.mp hp
  cases q : h.get? b with
  | none => rw [q] at e; cases e
  | some o =>
    rw [q] at e
    have e' : (b, o) = p := Option.some.inj e
    subst e'
    exact ⟨hb, q⟩
theorem Inv.pinned {pins : List (Addr × Obj)} {σ : St} {H : Hp} {s : Shared} {fp : List Addr} (I : Inv X pins σ H s) (hf : ∀ b ∈ fp, FpOk X pins H b) (ho : ∀ b ∈ fp, ∃ o, s.heap.get? b = some o ∧ ∀ v, o.data ≠ .cell v) : Inv X (pins ++ pinsAt fp s.heap) σ H s :=
  I.pins_of fun p hp => (List.mem_append.mp hp).elim (fun z => I.pin p (List.mem_append_right _ z)) fun z => by
    obtain ⟨hb, e⟩ := of_pinsAt z
    obtain ⟨f0, f1, f2, _⟩ := hf p.1 hb
    obtain ⟨o, e', d⟩ := ho p.1 hb
    rw [e] at e'; cases e'
    exact ⟨e, f0, f1, f2, d⟩
theorem Inv.unpinned {pins pl : List (Addr × Obj)} {σ : St} {H : Hp} {s : Shared} (I : Inv X (pins ++ pl) σ H s) : Inv X pins σ H s := I.pins_of fun p hp => I.pin p (List.mem_append_right _ (List.mem_append_left _ hp))
theorem ps_for {iter : Expr} {body : List Stmt} {wi : TI} {g : TG} {tb : TS} {pos : Pos} (hp : PassesOwn (model X.prog X.w) X.A X.env X.xe) (hc : X.calm = true) (hi : PI X tg iter wi) (hg : PG X tg g) (hb : PSs X body tb)
    (hs : ∀ x, foldedSetIterable iter X.env x = pure x := by intro _; rfl) : PS X (.For tg iter body [] pos) (tFor wi g tb) := by
  intro pins s σ H D I h
  refine wpAny_For (thn (hi pins s σ H _ I h) fun v s1 h1 => thn h1 fun itv s2 h2 => ?_) hs
  obtain ⟨it, fp, tn, J, H2, e, I2, T, st2, f2, W, ⟨m0, w0⟩, turn⟩ := h2
  subst e
  have stat : ∀ {H' : Hp}, (∀ b ∈ fp, H' b = none) → ∀ b ∈ fp, FpOk X pins H' b := fun hn b hb => ⟨hn b hb, (f2 b hb).2⟩
  refine codeAny_forLoop_any (fun n s' => ∃ i σ' H', Inv X pins σ' H' s' ∧ tn i s'.heap ∧ (∀ b ∈ fp, H' b = none) ∧ W i n σ' H') ?_ m0 ⟨0, σ, H2, I2, st2, fun b hb => (f2 b hb).1, w0⟩
  rintro n s3 ⟨i, σ3, H3, I3, st3, fr3, w3⟩
  rcases turn i n σ3 H3 w3 with ⟨stop, qn⟩ | ⟨go, N, hN, step⟩
  · refine wpAny_passesOwn hp (thn (T.done X rfl rfl rfl hc i pins s3 σ3 H3 X.xe I3 (stat fr3) st3 stop) fun r s4 ⟨hr, I4⟩ => ?_)
    subst hr
    exact wpAny_execs_nil ⟨σ3, H3, I4, qn⟩
  · refine wpAny_passesOwn hp (thn (T.item X rfl rfl rfl hc i pins s3 σ3 H3 X.xe I3 (stat fr3) st3 go) fun r s4 ⟨u, hr, h4⟩ => ?_)
    subst hr
    refine wpAny_passesOwn hp (thn h4 fun _ s5 ⟨x, H5, I5, r5, y5, st5, fr5⟩ => ?_)
    have I5' := I5.pinned (stat fr5) (T.obj _ _ st5)
    refine wpAny_passesOwn hp (thn (hg _ s5 σ3 H5 x u _ I5' r5 (step x H5 y5)) fun _ s6 ⟨σ6, H6, I6, q6⟩ => ?_)
    refine wpAny_passesOwn hp (thn (hb _ s6 σ6 H6 _ I6 q6) fun f s7 q7 => ?_)
    have again : ∀ {σ7 : St} {H7 : Hp}, Inv X (pins ++ pinsAt fp s5.heap) σ7 H7 s7 → N σ7 H7 → ∃ m, m < n ∧ ∃ i σ' H', Inv X pins σ' H' s7 ∧ tn i s7.heap ∧ (∀ b ∈ fp, H' b = none) ∧ W i m σ' H' := fun {σ7 H7} I7 n7 => by
      obtain ⟨m', hm, w7⟩ := hN σ7 H7 n7
      refine ⟨m', hm, i + 1, σ7, H7, I7.unpinned, T.keep _ _ _ st5 fun b hb o e => (I7.pin (b, o) (List.mem_append_right _ (List.mem_append_right _ (mem_pinsAt hb e)))).1, fun b hb => ?_, w7⟩
      obtain ⟨o, e, d⟩ := T.obj _ _ st5 b hb
      exact (I7.pin (b, o) (List.mem_append_right _ (List.mem_append_right _ (mem_pinsAt hb e)))).2.1
    cases f with
    | next => obtain ⟨σ7, H7, I7, n7⟩ := q7; exact again I7 n7
    | cont => obtain ⟨σ7, H7, I7, n7⟩ := q7; exact again I7 n7
    | brk => obtain ⟨σ7, H7, I7, q7⟩ := q7; exact ⟨σ7, H7, I7.unpinned, q7⟩
    | ret v => obtain ⟨x7, σ7, H7, I7, r7, q7⟩ := q7; exact ⟨x7, σ7, H7, I7.unpinned, r7, q7⟩
end
theorem for_list {K : PySem.W.Frag} {a : Addr} {xs : List V} {g : TG} {tb : TS} {D : Ends} {σ : St} {H : Hp} (Pv : Nat → St → Hp → Prop) (h0 : Pv 0 σ H) (hl : ∀ i σ H, i ≤ xs.length → Pv i σ H → SqL K H a xs)
    (hs : ∀ i x σ H, xs[i]? = some x → Pv i σ H → g x σ H fun σ2 H2 => tb { D with nx := Pv (i + 1), ct := Pv (i + 1), bk := D.nx } σ2 H2) (hd : ∀ σ H, Pv xs.length σ H → D.nx σ H) :
    ∃ W : Nat → Nat → St → Hp → Prop, (∃ m, W 0 m σ H) ∧ ∀ i m σ H, W i m σ H →
      ((Itl K a).stop i H ∧ D.nx σ H) ∨ ((Itl K a).go i H ∧ ∃ N : St → Hp → Prop, (∀ σ' H', N σ' H' → ∃ m', m' < m ∧ W (i + 1) m' σ' H') ∧ ∀ x H', (Itl K a).yld i H x H' → g x σ H' fun σ2 H2 => tb { D with nx := N, ct := N, bk := D.nx } σ2 H2) := by
  refine ⟨fun i m σ H => m = xs.length - i ∧ i ≤ xs.length ∧ Pv i σ H, ⟨xs.length, by simp, Nat.zero_le _, h0⟩, ?_⟩
  rintro i m σ H ⟨rfl, hi, p⟩
  have q := hl i σ H hi p
  by_cases hlt : i < xs.length
  · refine .inr ⟨⟨xs, xs[i], q, by simp [hlt]⟩, Pv (i + 1), fun σ' H' p' => ⟨xs.length - (i + 1), by omega, rfl, hlt, p'⟩, fun x H' y => ?_⟩
    obtain ⟨e, y⟩ := y
    subst e
    exact hs i x σ _ (y xs q) p
  · have e : i = xs.length := by omega
    subst e
    exact .inl ⟨⟨xs, q, Nat.le_refl _⟩, hd σ H p⟩
theorem for_range {lo : Int} {n : Nat} {g : TG} {tb : TS} {D : Ends} {σ : St} {H : Hp} (Pv : Nat → St → Hp → Prop) (h0 : Pv 0 σ H)
    (hs : ∀ i σ H, i < n → Pv i σ H → g (.int (lo + i)) σ H fun σ2 H2 => tb { D with nx := Pv (i + 1), ct := Pv (i + 1), bk := D.nx } σ2 H2) (hd : ∀ σ H, Pv n σ H → D.nx σ H) :
    ∃ W : Nat → Nat → St → Hp → Prop, (∃ m, W 0 m σ H) ∧ ∀ i m σ H, W i m σ H →
      ((Itr lo n).stop i H ∧ D.nx σ H) ∨ ((Itr lo n).go i H ∧ ∃ N : St → Hp → Prop, (∀ σ' H', N σ' H' → ∃ m', m' < m ∧ W (i + 1) m' σ' H') ∧ ∀ x H', (Itr lo n).yld i H x H' → g x σ H' fun σ2 H2 => tb { D with nx := N, ct := N, bk := D.nx } σ2 H2) := by
  refine ⟨fun i m σ H => m = n - i ∧ i ≤ n ∧ Pv i σ H, ⟨n, by simp, Nat.zero_le _, h0⟩, ?_⟩
  rintro i m σ H ⟨rfl, hi, p⟩
  by_cases hlt : i < n
  · refine .inr ⟨hlt, Pv (i + 1), fun σ' H' p' => ⟨n - (i + 1), by omega, rfl, hlt, p'⟩, fun x H' y => ?_⟩
    obtain ⟨e, y⟩ := y
    subst e y
    exact hs i σ _ hlt p
  · have e : i = n := by omega
    subst e
    exact .inl ⟨Nat.le_refl _, hd σ H p⟩
end L2
namespace L2
open PySem PySem.Spec PyProof.Rows
abbrev R2 := V → V → Hp → VK → Prop
def OpR (X : Cx) (f : Value → Value → Sem Value) (r : R2) : Prop :=
  ∀ (pins : List (Addr × Obj)) (s : Shared) (σ : St) (H : Hp) (x y : V) (v u : Value) (Q : VK), Inv X pins σ H s → RelV x v → RelV y u → r x y H Q →
    wpAny (model X.prog X.w) X.A (f v u) (EP X pins σ Q) X.xe s
def UnR (X : Cx) (f : Value → Sem Value) (r : V → Hp → VK → Prop) : Prop :=
  ∀ (pins : List (Addr × Obj)) (s : Shared) (σ : St) (H : Hp) (x : V) (v : Value) (Q : VK), Inv X pins σ H s → RelV x v → r x H Q →
    wpAny (model X.prog X.w) X.A (f v) (EP X pins σ Q) X.xe s
def CallR (X : Cx) (f : Value) (r : List V → Hp → VK → Prop) : Prop :=
  ∀ (pins : List (Addr × Obj)) (s : Shared) (σ : St) (H : Hp) (xs : List V) (us : List Value) (Q : VK), Inv X pins σ H s → Vals xs us → r xs H Q →
    wpAny (model X.prog X.w) X.A (call f us) (EP X pins σ Q) X.xe s
def tOp (r : R2) (ta tb : TE) : TE := fun σ H Q => ta σ H fun x H1 => tb σ H1 fun y H2 => r x y H2 Q
def tUn (r : V → Hp → VK → Prop) (ta : TE) : TE := fun σ H Q => ta σ H fun x H1 => r x H1 Q
def rI (C : Int → Int → Prop) (g : Int → Int → V) : R2 := fun x y H Q => ∃ i j, x = .int i ∧ y = .int j ∧ C i j ∧ Q (g i j) H
def rI0 (g : Int → Int → V) : R2 := fun x y H Q => ∃ i j, x = .int i ∧ y = .int j ∧ Q (g i j) H
def rU (g : Int → V) : V → Hp → VK → Prop := fun x H Q => ∃ i, x = .int i ∧ Q (g i) H
section
variable {X : Cx} {a b c : Expr} {ta tb tc : TE} {pos : Pos}
theorem binT (ha : PE X a ta) (hb : PE X b tb) {pins : List (Addr × Obj)} {s : Shared} {σ : St} {H : Hp} {R : V → V → Hp → Prop} (I : Inv X pins σ H s)
    (h : ta σ H fun x H1 => tb σ H1 fun y H2 => R x y H2) {Q : Value → Shared → Prop} {f : Value → Value → Sem Value}
    (hf : ∀ v u s2 x y H2, Inv X pins σ H2 s2 → RelV x v → RelV y u → R x y H2 → wpAny (model X.prog X.w) X.A (f v u) Q X.xe s2) :
    wpAny (model X.prog X.w) X.A (eval a X.env) (fun v s₁ => wpAny (model X.prog X.w) X.A (eval b X.env) (fun u s₂ => wpAny (model X.prog X.w) X.A (f v u) Q X.xe s₂) X.xe s₁) X.xe s := by
  refine thn (ha pins s σ H _ I h) fun v s1 ⟨x, H1, I1, r1, q1⟩ => ?_
  refine thn (hb pins s1 σ H1 _ I1 q1) fun u s2 ⟨y, H2, I2, r2, q2⟩ => ?_
  exact hf v u s2 x y H2 I2 r1 r2 q2
theorem pe_op {op : Operator} {r : R2} (ho : OpR X (binaryOp op) r) (ha : PE X a ta) (hb : PE X b tb) : PE X (.BinOp a op b pos) (tOp r ta tb) := by
  intro pins s σ H Q I h
  exact wpAny_BinOp (binT ha hb I h fun v u s2 x y H2 I2 rx ry q => ho pins s2 σ H2 x y v u Q I2 rx ry q)
theorem pe_un {op : UnaryOp} {r : V → Hp → VK → Prop} (ho : UnR X (unaryOp op) r) (ha : PE X a ta) : PE X (.UnaryOp op a pos) (tUn r ta) := by
  intro pins s σ H Q I h
  exact UnaryOp_ (thn (ha pins s σ H _ I h) fun v s1 ⟨x, H1, I1, r1, q1⟩ => ho pins s1 σ H1 x v Q I1 r1 q1)
theorem opI {f : Value → Value → Sem Value} {C : Int → Int → Prop} {g : Int → Int → Int}
    (rule : ∀ (i j : Int) (t u : Tok) (s : Shared) (Q : Value → Shared → Prop) (E : Value → Shared → Prop), C i j → Q (.int (g i j) s.toks) { s with toks := s.toks + 1 } → wpAny (model X.prog X.w) X.A (f (.int i t) (.int j u)) Q E s) :
    OpR X f (rI C fun i j => .int (g i j)) := by
  intro pins s σ H x y v u Q I rx ry h
  obtain ⟨i, j, rfl, rfl, hc, q⟩ := h
  obtain ⟨t, rfl⟩ := rx
  obtain ⟨t', rfl⟩ := ry
  exact rule i j t t' s _ _ hc ⟨.int (g i j), H, I.tok _, ⟨_, rfl⟩, q⟩
theorem opI0 {f : Value → Value → Sem Value} {g : Int → Int → Int}
    (rule : ∀ (i j : Int) (t u : Tok) (s : Shared) (Q : Value → Shared → Prop) (E : Value → Shared → Prop), Q (.int (g i j) s.toks) { s with toks := s.toks + 1 } → wpAny (model X.prog X.w) X.A (f (.int i t) (.int j u)) Q E s) :
    OpR X f (rI0 fun i j => .int (g i j)) := by
  intro pins s σ H x y v u Q I rx ry h
  obtain ⟨i, j, rfl, rfl, q⟩ := h
  obtain ⟨t, rfl⟩ := rx
  obtain ⟨t', rfl⟩ := ry
  exact rule i j t t' s _ _ ⟨.int (g i j), H, I.tok _, ⟨_, rfl⟩, q⟩
theorem opB0 {f : Value → Value → Sem Value} {g : Int → Int → Bool}
    (rule : ∀ (i j : Int) (t u : Tok) (s : Shared) (Q : Value → Shared → Prop) (E : Value → Shared → Prop), Q (.bool (g i j)) s → wpAny (model X.prog X.w) X.A (f (.int i t) (.int j u)) Q E s) :
    OpR X f (rI0 fun i j => .bl (g i j)) := by
  intro pins s σ H x y v u Q I rx ry h
  obtain ⟨i, j, rfl, rfl, q⟩ := h
  obtain ⟨t, rfl⟩ := rx
  obtain ⟨t', rfl⟩ := ry
  exact rule i j t t' s _ _ ⟨.bl (g i j), H, I, rfl, q⟩
def CPow (i j : Int) : Prop := 0 ≤ j ∧ j ≤ 1000000 ∧ i.natAbs < 2 ^ 64
def CMul (i j : Int) : Prop := (-(2 ^ 64) < i ∧ i < 2 ^ 64) ∨ (-(2 ^ 64) < j ∧ j < 2 ^ 64)
theorem CMul.ok {i j : Int} (h : CMul i j) : IntMulOk i j := by
  rcases h with ⟨h1, h2⟩ | ⟨h1, h2⟩
  · exact .of_left (intBits_le_64 h1 h2)
  · exact .of_right (intBits_le_64 h1 h2)
theorem two_pow_nn (k : Nat) : (0 : Int) ≤ 2 ^ k := by
  rw [two_pow_cast]
  exact Int.natCast_nonneg _
theorem op_add : OpR X (binaryOp .Add) (rI0 fun i j => .int (i + j)) := opI0 fun _ _ _ _ _ _ _ q => add_int q
theorem op_sub : OpR X (binaryOp .Sub) (rI0 fun i j => .int (i - j)) := opI0 fun _ _ _ _ _ _ _ q => sub_int q
theorem op_mod : OpR X (binaryOp .Mod) (rI (fun _ j => 0 < j) fun i j => .int (i % j)) := opI fun i j _ _ _ _ _ hc q => by
  have h1 : (0 : Int) < j := hc
  exact mod_int' (by omega) (by rw [Int.fmod_eq_emod_of_nonneg i (by omega)]; exact q)
theorem op_shl : OpR X (binaryOp .LShift) (rI CPow fun i j => .int (i * 2 ^ j.toNat)) := opI fun _ _ _ _ _ _ _ hc q => lshift_int_small hc.1 hc.2.1 hc.2.2 q
theorem op_shr : OpR X (binaryOp .RShift) (rI (fun _ j => 0 ≤ j) fun i j => .int (i / 2 ^ j.toNat)) := opI fun i j _ _ _ _ _ hc q =>
  rshift_int hc (by rw [Int.fdiv_eq_ediv_of_nonneg i (two_pow_nn _)]; exact q)
theorem op_and : OpR X (binaryOp .BitAnd) (rI0 fun i j => .int (Builtin.bitAnd i j)) := opI0 fun _ _ _ _ _ _ _ q => and_int q
theorem op_or : OpR X (binaryOp .BitOr) (rI0 fun i j => .int (Builtin.bitOr i j)) := opI0 fun _ _ _ _ _ _ _ q => or_int q
theorem op_xor : OpR X (binaryOp .BitXor) (rI0 fun i j => .int (Builtin.bitXor i j)) := opI0 fun _ _ _ _ _ _ _ q => xor_int q
theorem iop_add : OpR X (inplaceOp .Add) (rI0 fun i j => .int (i + j)) := opI0 fun _ _ _ _ _ _ _ q => iadd_int q
theorem iop_shr : OpR X (inplaceOp .RShift) (rI (fun _ j => 0 ≤ j) fun i j => .int (i / 2 ^ j.toNat)) := opI fun i j _ _ _ _ _ hc q =>
  irshift_int hc (by rw [Int.fdiv_eq_ediv_of_nonneg i (two_pow_nn _)]; exact q)
theorem iop_or : OpR X (inplaceOp .BitOr) (rI0 fun i j => .int (Builtin.bitOr i j)) := opI0 fun _ _ _ _ _ _ _ q => ior_int q
theorem iop_xor : OpR X (inplaceOp .BitXor) (rI0 fun i j => .int (Builtin.bitXor i j)) := opI0 fun _ _ _ _ _ _ _ q => ixor_int q
theorem unI {f : Value → Sem Value} {g : Int → Int}
    (rule : ∀ (i : Int) (t : Tok) (s : Shared) (Q : Value → Shared → Prop) (E : Value → Shared → Prop), Q (.int (g i) s.toks) { s with toks := s.toks + 1 } → wpAny (model X.prog X.w) X.A (f (.int i t)) Q E s) :
    UnR X f (rU fun i => .int (g i)) := by
  intro pins s σ H x v Q I rx h
  obtain ⟨i, rfl, q⟩ := h
  obtain ⟨t, rfl⟩ := rx
  exact rule i t s _ _ ⟨.int (g i), H, I.tok _, ⟨_, rfl⟩, q⟩
theorem un_neg : UnR X (unaryOp .USub) (rU fun i => .int (-i)) := unI fun _ _ _ _ _ q => neg_int q
end
def scal : V → V → Bool
  | .non, .non => true | .non, .int _ => true | .int _, .non => true | .non, .bl _ => true | .bl _, .non => true | .non, .str _ => true | .str _, .non => true
  | .int _, .int _ => true | .bl _, .bl _ => true | .str _, .str _ => true | .byt _, .byt _ => true
  | .int _, .str _ => true | .str _, .int _ => true | .bl _, .str _ => true | .str _, .bl _ => true
  | _, _ => false
def rEq : R2 := fun x y H Q => scal x y = true ∧ Q (.bl (decide (x = y))) H
def rNe : R2 := fun x y H Q => scal x y = true ∧ Q (.bl (!decide (x = y))) H
theorem dec_int {i j : Int} : decide (V.int i = V.int j) = (i == j) := by
  rw [Bool.eq_iff_iff]
  simp
theorem dec_bl {i j : Bool} : decide (V.bl i = V.bl j) = (i == j) := by
  rw [Bool.eq_iff_iff]
  simp
theorem dec_str {i j : Str} : decide (V.str i = V.str j) = (i == j) := by
  rw [Bool.eq_iff_iff]
  simp
theorem dec_byt {i j : Array UInt8} : decide (V.byt i = V.byt j) = (i.toList == j.toList) := by
  rw [Bool.eq_iff_iff]
  cases i
  cases j
  simp
section
variable {X : Cx} {a b c : Expr} {ta tb tc : TE} {pos : Pos}
theorem fin_bl {pins : List (Addr × Obj)} {σ : St} {H : Hp} {s : Shared} {Q : VK} {k k' : Bool} (I : Inv X pins σ H s) (q : Q (.bl k) H) (e : k = k') : EP X pins σ Q (.bool k') s := by
  subst e
  exact ⟨.bl k, H, I, rfl, q⟩
theorem op_eq : OpR X (compareOp .Eq) rEq := by
  intro pins s σ H x y v u Q I rx ry h
  obtain ⟨hs, q⟩ := h
  cases x with
  | non =>
    cases rx
    cases y with
    | non => cases ry; exact PySem.EqNone.eq_none_none (fin_bl I q (by simp))
    | bl j => cases ry; exact PySem.EqNone.eq_none_bool (fin_bl I q (by simp))
    | int j => obtain ⟨t', rfl⟩ := ry; exact PySem.EqNone.eq_none_int (fin_bl I q (by simp))
    | str j => obtain ⟨t', rfl⟩ := ry; exact PySem.EqNone.eq_none_str (fin_bl I q (by simp))
    | _ => exact absurd (show false = true from hs) Bool.false_ne_true
  | bl i =>
    cases rx
    cases y with
    | non => cases ry; exact PySem.EqNone.eq_bool_none (fin_bl I q (by simp))
    | bl j => cases ry; exact eq_bool (fin_bl I q dec_bl)
    | str j => obtain ⟨t', rfl⟩ := ry; exact PySem.EqMixed.eq_bool_str (fin_bl I q (by simp))
    | _ => exact absurd (show false = true from hs) Bool.false_ne_true
  | int i =>
    obtain ⟨t, rfl⟩ := rx
    cases y with
    | non => cases ry; exact PySem.EqNone.eq_int_none (fin_bl I q (by simp))
    | int j => obtain ⟨t', rfl⟩ := ry; exact eq_int (fin_bl I q dec_int)
    | str j => obtain ⟨t', rfl⟩ := ry; exact PySem.EqMixed.eq_int_str (fin_bl I q (by simp))
    | _ => exact absurd (show false = true from hs) Bool.false_ne_true
  | str i =>
    obtain ⟨t, rfl⟩ := rx
    cases y with
    | non => cases ry; exact PySem.EqNone.eq_str_none (fin_bl I q (by simp))
    | bl j => cases ry; exact PySem.EqMixed.eq_str_bool (fin_bl I q (by simp))
    | int j => obtain ⟨t', rfl⟩ := ry; exact PySem.EqMixed.eq_str_int (fin_bl I q (by simp))
    | str j => obtain ⟨t', rfl⟩ := ry; exact eq_str (fin_bl I q dec_str)
    | _ => exact absurd (show false = true from hs) Bool.false_ne_true
  | byt i =>
    obtain ⟨t, rfl⟩ := rx
    cases y with
    | byt j => obtain ⟨t', rfl⟩ := ry; exact PySem.W.eq_bytes (fin_bl I q dec_byt)
    | _ => exact absurd (show false = true from hs) Bool.false_ne_true
  | _ => cases y <;> exact absurd (show false = true from hs) Bool.false_ne_true
theorem op_ne : OpR X (compareOp .NotEq) rNe := by
  intro pins s σ H x y v u Q I rx ry h
  obtain ⟨hs, q⟩ := h
  cases x with
  | non =>
    cases rx
    cases y with
    | non => cases ry; exact PySem.EqNone.ne_none_none (fin_bl I q (by simp))
    | bl j => cases ry; exact PySem.EqNone.ne_none_bool (fin_bl I q (by simp))
    | int j => obtain ⟨t', rfl⟩ := ry; exact PySem.EqNone.ne_none_int (fin_bl I q (by simp))
    | str j => obtain ⟨t', rfl⟩ := ry; exact PySem.EqNone.ne_none_str (fin_bl I q (by simp))
    | _ => exact absurd (show false = true from hs) Bool.false_ne_true
  | bl i =>
    cases rx
    cases y with
    | non => cases ry; exact PySem.EqNone.ne_bool_none (fin_bl I q (by simp))
    | bl j => cases ry; exact ne_bool (fin_bl I q (congrArg not dec_bl))
    | str j => obtain ⟨t', rfl⟩ := ry; exact PySem.EqMixed.ne_bool_str (fin_bl I q (by simp))
    | _ => exact absurd (show false = true from hs) Bool.false_ne_true
  | int i =>
    obtain ⟨t, rfl⟩ := rx
    cases y with
    | non => cases ry; exact PySem.EqNone.ne_int_none (fin_bl I q (by simp))
    | int j => obtain ⟨t', rfl⟩ := ry; exact ne_int (fin_bl I q (congrArg not dec_int))
    | str j => obtain ⟨t', rfl⟩ := ry; exact PySem.EqMixed.ne_int_str (fin_bl I q (by simp))
    | _ => exact absurd (show false = true from hs) Bool.false_ne_true
  | str i =>
    obtain ⟨t, rfl⟩ := rx
    cases y with
    | non => cases ry; exact PySem.EqNone.ne_str_none (fin_bl I q (by simp))
    | bl j => cases ry; exact PySem.EqMixed.ne_str_bool (fin_bl I q (by simp))
    | int j => obtain ⟨t', rfl⟩ := ry; exact PySem.EqMixed.ne_str_int (fin_bl I q (by simp))
    | str j => obtain ⟨t', rfl⟩ := ry; exact ne_str (fin_bl I q (congrArg not dec_str))
    | _ => exact absurd (show false = true from hs) Bool.false_ne_true
  | byt i =>
    obtain ⟨t, rfl⟩ := rx
    cases y with
    | byt j => obtain ⟨t', rfl⟩ := ry; exact PySem.W.ne_bytes (fin_bl I q (congrArg not dec_byt))
    | _ => exact absurd (show false = true from hs) Bool.false_ne_true
  | _ => cases y <;> exact absurd (show false = true from hs) Bool.false_ne_true
theorem op_lt : OpR X (compareOp .Lt) (rI0 fun i j => .bl (decide (i < j))) := opB0 fun _ _ _ _ _ _ _ q => lt_int q
theorem op_gt : OpR X (compareOp .Gt) (rI0 fun i j => .bl (decide (j < i))) := opB0 fun _ _ _ _ _ _ _ q => gt_int q
theorem op_ge : OpR X (compareOp .GtE) (rI0 fun i j => .bl (decide (j ≤ i))) := opB0 fun _ _ _ _ _ _ _ q => ge_int q
theorem OpR.or {f : Value → Value → Sem Value} {r r' : R2} (h : OpR X f r) (h' : OpR X f r') : OpR X f (fun x y H Q => r x y H Q ∨ r' x y H Q) := by
  intro pins s σ H x y v u Q I rx ry q
  rcases q with q | q
  · exact h pins s σ H x y v u Q I rx ry q
  · exact h' pins s σ H x y v u Q I rx ry q
theorem nomark (b : Expr) {op : CmpOp} (h : op ≠ .In := by decide) (h2 : op ≠ .NotIn := by decide) : behindInMarks op b = false := by
  have e1 : (op == CmpOp.In) = false := by cases op <;> first | rfl | exact absurd rfl h
  have e2 : (op == CmpOp.NotIn) = false := by cases op <;> first | rfl | exact absurd rfl h2
  cases b <;> simp [behindInMarks, e1, e2]
theorem pe_cmpR {op : CmpOp} {r : R2} (ho : OpR X (compareOp op) r) (ha : PE X a ta) (hb : PE X b tb) (hm : behindInMarks op b = false) : PE X (.Compare a [op] [b] pos) (tOp r ta tb) := by
  intro pins s σ H Q I h
  exact wpAny_Compare1 (binT ha hb I h fun v u s2 x y H2 I2 rx ry q => ho pins s2 σ H2 x y v u Q I2 rx ry q) hm
def tTest (t : TE) : TT := fun σ H Q => t σ H fun x H' => ∃ k, x = .bl k ∧ Q k H'
theorem pt_cmpR {op : CmpOp} {r : R2} (ho : OpR X (compareOp op) r) (ha : PE X a ta) (hb : PE X b tb) (hm : behindInMarks op b = false) : PT X (.Compare a [op] [b] pos) (tTest (tOp r ta tb)) := by
  intro pins s σ H Q I h
  refine wpAny_isTrue_Compare1 (thn (ha pins s σ H _ I h) fun v s1 ⟨x, H1, I1, r1, q1⟩ => thn (hb pins s1 σ H1 _ I1 q1) fun u s2 ⟨y, H2, I2, r2, q2⟩ =>
    thn (ho pins s2 σ H2 x y v u _ I2 r1 r2 q2) fun c s3 ⟨z, H3, I3, r3, k, e, q3⟩ => ?_) hm
  subst e
  cases r3
  exact wpAny_truthy_bool ⟨H3, I3, q3⟩
theorem line63 : (sizeLine : Nat) < 2 ^ 63 := by rw [sizeLine_eq]; decide
theorem vals1 {x : V} {us : List Value} (r : Vals [x] us) : ∃ u, us = [u] ∧ RelV x u := by
  cases r with
  | cons r1 r2 => cases r2; exact ⟨_, rfl, r1⟩
theorem vals2 {x y : V} {us : List Value} (r : Vals [x, y] us) : ∃ u w', us = [u, w'] ∧ RelV x u ∧ RelV y w' := by
  cases r with
  | cons r1 r2 =>
    cases r2 with
    | cons r3 r4 => cases r4; exact ⟨_, _, rfl, r1, r3⟩
theorem call_max2 (hc : X.calm = true) : CallR X (.builtin "max") (fun xs H Q => ∃ i j, xs = [.int i, .int j] ∧ Q (.int (if j > i then j else i)) H) := by
  intro pins s σ H xs us Q I r h
  obtain ⟨i, j, rfl, q⟩ := h
  obtain ⟨u, w', rfl, ⟨t, rfl⟩, ⟨t', rfl⟩⟩ := vals2 r
  refine max_two_ints (I.ok.hd hc) fun h' tk k => ⟨_, H, I.kept k, ?_, q⟩
  by_cases hj : j > i
  · rw [if_pos hj, if_pos hj]; exact ⟨_, rfl⟩
  · rw [if_neg hj, if_neg hj]; exact ⟨_, rfl⟩
theorem call_int1 : CallR X (.type "int") (fun xs H Q => (∃ i, xs = [.int i] ∧ Q (.int i) H) ∨ ∃ k, xs = [.bl k] ∧ Q (.int (if k then 1 else 0)) H) := by
  intro pins s σ H xs us Q I r h
  rcases h with ⟨i, rfl, q⟩ | ⟨k, rfl, q⟩
  · obtain ⟨u, rfl, t, rfl⟩ := vals1 r
    exact call_int_int ⟨.int i, H, I, ⟨_, rfl⟩, q⟩
  · obtain ⟨u, rfl, r1⟩ := vals1 r
    cases r1
    exact call_int_bool ⟨.int (if k then 1 else 0), H, I.tok _, ⟨_, rfl⟩, q⟩
end
end L2
namespace L2
open PySem PySem.Spec PyProof.Rows
structure ObjM (h : Heap) (x dx C : Addr) (mA : Str → Option Value) : Prop where
  obj : h.get? x = some (PySem.W.instObj C dx)
  ns : h.Ns1 dx mA
  ne : dx ≠ x
theorem lookIn_ns {h : Heap} {dx : Addr} {mA : Str → Option Value} (n : h.Ns1 dx mA) : ∃ od, h.get? dx = some od ∧ ∀ name, PySem.W.lookIn name od = some (mA name) := by
  obtain ⟨o, es, ep, ho, hd, hk, _, hm⟩ := n
  refine ⟨o, ho, fun name => ?_⟩
  have e := hm name
  unfold nsFind findBy at e
  rw [← Array.find?_toList] at e
  unfold PySem.W.lookIn
  rw [hd]
  dsimp only
  split
  · rename_i y q
    rw [q] at e
    exact congrArg some e
  · rename_i q
    rw [q] at e
    have a : es.toList.any (·.refKey) = false := by
      rw [List.any_eq_false]
      intro y hy
      obtain ⟨z, t, hkey⟩ := hk y (Array.mem_toList_iff.mp hy)
      simp [DictEntry.refKey, hkey]
    have a' : ¬ es.toList.any (·.refKey) = true := by rw [a]; exact Bool.false_ne_true
    rw [if_neg a']
    exact congrArg some e
theorem ObjM.look {h : Heap} {x dx C : Addr} {mA : Str → Option Value} (I : ObjM h x dx C mA) : ∃ od, PySem.W.InstAt h x (PySem.W.instObj C dx) C (some od) ∧ ∀ name, PySem.W.lookIn name od = some (mA name) :=
  let ⟨od, ho, hl⟩ := lookIn_ns I.ns
  ⟨od, ⟨I.obj, rfl, rfl, ho⟩, hl⟩
section
variable {prog : Program} {w : World} {A : Around} {E : Value → Shared → Prop} {s : Shared} {K : PySem.W.Frag} {x dx C f : Addr} {mA : Str → Option Value} {name : Str} {v : Value}
theorem get_map {expr : Bool} {Q : Value → Shared → Prop} (X : K.In s.heap) (I : ObjM s.heap x dx C mA) (hg : PySem.W.plainGet K C name = true) (hh : PySem.W.hasDictIn K C = true)
    (ha : PySem.W.findIn K (.ref C) name = some none) (hv : mA name = some v) (hv' : PySem.W.handedIn v = true) (h : Q v { s with toks := s.toks + 1 }) :
    wpAny (model prog w) A (getAttr (.ref x) name expr) Q E s := by
  obtain ⟨od, J, hl⟩ := I.look
  exact PySem.W.get_value X J (PySem.W.plainGet_of hg).1 (PySem.W.findObj_own hh ha rfl (by rw [hl, hv])) hv' h
theorem set_map {ns : List Str} {Q : Unit → Shared → Prop} (X : K.In s.heap) (I : ObjM s.heap x dx C mA)
    (hs : PySem.W.findIn K (.ref C) "__setattr__" = some (some (.builtin "object.__setattr__"))) (hp : PySem.W.plainOver K C = true) (ht : PySem.W.takerIn K C name = some none) (hh : PySem.W.hasDictIn K C = true)
    (hw : PySem.Within mA ns) (hsz : ns.length ≤ sizeLine)
    (h : ∀ h', ObjM h' x dx C (fun y => if y = name then some v else mA y) → Heap.SameBut dx s.heap h' → Q () { s with heap := h', toks := s.toks + 2 }) :
    wpAny (model prog w) A (setAttr (.ref x) name v) Q E s := by
  obtain ⟨od, J, hl⟩ := I.look
  refine PySem.W.set_plain X J hs (PySem.W.osa_open (s := { s with toks := s.toks + 1 }) (r := none) X J hp ht fun b => ?_)
  obtain ⟨cd, hc, hd'⟩ := PySem.W.any_some hh
  have hx : s.heap.get? x = some ⟨.ref C, some dx, .plain, #[]⟩ := I.obj
  refine wpAny_bind (wpAny_pure (wpAny_bind (wpAny_bind (wpAny_loadPart hx (wpAny_bind (PySem.W.Looks.here (s := { s with toks := s.toks + 1 }) (PySem.W.looks_clsIn X hc) ?_))))))
  rw [hd']
  refine wpAny_pure (a := some dx) (wpAny_bind (wpAny_pure (wpAny_bind ?_)))
  refine wpAny_nsSet1 (s := { s with toks := s.toks + 1 }) I.ns fun h' hn2 hs2 => ?_
  obtain ⟨oD, esD, epD, hoD, hdD, hcD⟩ := hn2.count (PySem.Within.cons name v hw)
  refine wpAny_bind (wpAny_lookBehind hoD (by rw [hdD]; exact pastItsLine_dict (Nat.le_trans hcD (by rw [List.length_cons]; omega))) ?_)
  exact wpAny_pure (h _ ⟨(hs2.2 _ (Ne.symm I.ne)).trans I.obj, hn2, I.ne⟩ hs2)
theorem make_map {R : Result → Shared → Prop} {vs : List Value} {kw : List (Str × Value)} (X : K.In s.heap) (hm : PySem.W.makesIn K C = true)
    (hi : PySem.W.findIn K (.ref C) "__init__" = some (some (.ref f))) (hf : PySem.W.typeIn K (.ref f) = some (.type "function"))
    (h : codeAny (model prog w) (A.under (.builtin "type.__call__" ⟨.ref C :: vs, kw⟩)) (.call (.ref f) ⟨.ref (s.heap.objs.size + 1) :: vs, kw⟩) (PySem.W.InitBack (s.heap.objs.size + 1) R)
      { s with heap := (s.heap.push PySem.W.emptyDict).push (PySem.W.instObj C s.heap.objs.size) }) :
    codeAny (model prog w) A (.call (.ref C) ⟨vs, kw⟩) R s := by
  obtain ⟨hh, g, d, t, os⟩ := s
  exact PySem.W.make_core (PySem.W.makes_of X hm) (PySem.W.looks_findIn X hi) (fun self => PySem.W.bind_fn X self hf) (.inl rfl) h
end
def putF (f : Str) (v : V) : List (Str × V) → List (Str × V)
  | [] => [(f, v)]
  | (g, x) :: r => if g = f then (g, v) :: r else (g, x) :: putF f v r
theorem lookup_putF (f g : Str) (v : V) : ∀ fs : List (Str × V), (putF f v fs).lookup g = if g = f then some v else fs.lookup g
  | [] => by
    show List.lookup g [(f, v)] = _
    by_cases h : g = f
    · have hb : (g == f) = true := beq_iff_eq.mpr h
      simp only [List.lookup, hb, if_pos h]
    · have hb : (g == f) = false := beq_eq_false_iff_ne.mpr h
      simp only [List.lookup, hb, if_neg h]
  | (k, x) :: r => by
    have ih := lookup_putF f g v r
    rw [show putF f v ((k, x) :: r) = (if k = f then (k, v) :: r else (k, x) :: putF f v r) from rfl]
    by_cases hk : k = f
    · rw [if_pos hk]
      by_cases h : g = k
      · have hb : (g == k) = true := beq_iff_eq.mpr h
        simp only [List.lookup, hb, if_pos (h.trans hk)]
      · have hb : (g == k) = false := beq_eq_false_iff_ne.mpr h
        simp only [List.lookup, hb, if_neg (fun e : g = f => h (e.trans hk.symm))]
    · rw [if_neg hk]
      by_cases h : g = k
      · have hb : (g == k) = true := beq_iff_eq.mpr h
        simp only [List.lookup, hb, if_neg (fun e : g = f => hk (h.symm.trans e))]
      · have hb : (g == k) = false := beq_eq_false_iff_ne.mpr h
        simp only [List.lookup, hb]
        exact ih
theorem keys_putF (f : Str) (v : V) : ∀ fs : List (Str × V), f ∈ (putF f v fs).map (·.1) ∧ ∀ g, g ∈ fs.map (·.1) → g ∈ (putF f v fs).map (·.1)
  | [] => ⟨by simp [putF], fun g h => by simp at h⟩
  | (k, x) :: r => by
    obtain ⟨i1, i2⟩ := keys_putF f v r
    rw [show putF f v ((k, x) :: r) = (if k = f then (k, v) :: r else (k, x) :: putF f v r) from rfl]
    by_cases hk : k = f
    · rw [if_pos hk]
      subst hk
      exact ⟨by simp, fun g h => by simpa using h⟩
    · rw [if_neg hk]
      refine ⟨?_, fun g h => ?_⟩
      · rw [List.map_cons]
        exact List.mem_cons_of_mem _ i1
      · rw [List.map_cons] at h ⊢
        rcases List.mem_cons.mp h with e | e
        · exact List.mem_cons.mpr (.inl e)
        · exact List.mem_cons_of_mem _ (i2 g e)
theorem length_putF (f : Str) (v : V) : ∀ fs : List (Str × V), (putF f v fs).length ≤ fs.length + 1
  | [] => by simp [putF]
  | (k, x) :: r => by
    have ih := length_putF f v r
    rw [show putF f v ((k, x) :: r) = (if k = f then (k, v) :: r else (k, x) :: putF f v r) from rfl]
    by_cases hk : k = f
    · rw [if_pos hk, List.length_cons, List.length_cons]; omega
    · rw [if_neg hk, List.length_cons, List.length_cons]; omega
theorem RelO.some_of {v : V} {o : Option Value} (r : RelO (some v) o) : ∃ u, o = some u ∧ RelV v u := by
  cases o with
  | none => exact (show False from r).elim
  | some u => exact ⟨u, rfl, r⟩
theorem handed_of {v : V} {u : Value} (r : RelV v u) : PySem.W.handedIn u = true := by
  cases v with
  | non => cases (show u = Value.none from r); rfl
  | bl b => cases (show u = Value.bool b from r); rfl
  | int i => obtain ⟨t, e⟩ := (show ∃ t, u = Value.int i t from r); cases e; rfl
  | str x => obtain ⟨t, e⟩ := (show ∃ t, u = Value.str x t from r); cases e; rfl
  | byt b => obtain ⟨t, e⟩ := (show ∃ t, u = Value.bytes b t from r); cases e; rfl
  | flt b => obtain ⟨t, e⟩ := (show ∃ t, u = Value.float b t from r); cases e; rfl
  | ref a => cases (show u = Value.ref a from r); rfl
  | ty n => cases (show u = Value.type n from r); rfl
section
variable {P : Program} {w : World} {H H' : Hp} {h h' : Heap} {a C dx : Addr} {fs fs' : List (Str × V)}
theorem ins_get (hok : HOk P w H h) (e : H a = some (.ins C dx fs)) : ∃ mA, ObjM h a dx C mA ∧ (∀ f, RelO (fs.lookup f) (mA f)) ∧ PySem.Within mA (fs.map (·.1)) ∧ fs.length ≤ 1000 ∧ H dx = some (.own a) := by
  obtain ⟨d, z, ne, ob, mA, n, r, q⟩ := (show ObjOk P w H h a (.ins C dx fs) from hok a _ e)
  exact ⟨mA, ⟨ob, n, ne⟩, r, q, z, d⟩
end
structure Cls (K : PySem.W.Frag) (C : Addr) : Prop where
  pg : PySem.W.plainGet K C Str.empty = true
  hd : PySem.W.hasDictIn K C = true
  po : PySem.W.plainOver K C = true
  sa : PySem.W.findIn K (.ref C) "__setattr__" = some (some (.builtin "object.__setattr__"))
theorem Cls.get {K : PySem.W.Frag} {C : Addr} (c : Cls K C) (f : Str) : PySem.W.plainGet K C f = true := c.pg
def NoAttr (K : PySem.W.Frag) (C : Addr) (f : Str) : Prop := PySem.W.findIn K (.ref C) f = some none
theorem NoAttr.taker {K : PySem.W.Frag} {C : Addr} {f : Str} (n : NoAttr K C f) : PySem.W.takerIn K C f = some none := by
  unfold PySem.W.takerIn
  rw [show PySem.W.findIn K (.ref C) f = some none from n]
  rfl
section
variable {X : Cx} {pins : List (Addr × Obj)} {σ : St} {H : Hp} {s : Shared} {a C dx : Addr} {fs : List (Str × V)} {f : Str} {v : V} {A : Around} {E : Value → Shared → Prop}
theorem getattr_ok {b : Bool} {Q : Value → Shared → Prop} (I : Inv X pins σ H s) (e : H a = some (.ins C dx fs)) (c : Cls X.K C) (n : NoAttr X.K C f) (l : fs.lookup f = some v)
    (h : ∀ u s', Inv X pins σ H s' → RelV v u → Q u s') : wpAny (model X.prog X.w) A (getAttr (.ref a) f b) Q E s := by
  obtain ⟨mA, O, r, _, _, _⟩ := ins_get I.hok e
  obtain ⟨u, hu, ru⟩ := RelO.some_of (v := v) (o := mA f) (by rw [← l]; exact r f)
  exact get_map I.kIn O (c.get f) c.hd n hu (handed_of ru) (h u _ (I.tok _) ru)
theorem setattr_ok {y : V} {u : Value} {Q : Unit → Shared → Prop} (I : Inv X pins σ H s) (e : H a = some (.ins C dx fs)) (c : Cls X.K C) (n : NoAttr X.K C f) (hl : fs.length < 1000) (ry : RelV y u)
    (h : ∀ s', Inv X pins σ (upd H a (.ins C dx (putF f y fs))) s' → Q () s') : wpAny (model X.prog X.w) A (setAttr (.ref a) f u) Q E s := by
  obtain ⟨mA, O, r, wi, _, ho⟩ := ins_get I.hok e
  have hz : (fs.map (·.1)).length ≤ sizeLine := by rw [List.length_map, sizeLine_eq]; omega
  refine set_map I.kIn O c.sa c.po n.taker c.hd wi hz fun h' O' sb => h _ ?_
  have hd : ∃ o, h'.get? dx = some o := let ⟨o, _, _, e', _⟩ := O'.ns; ⟨o, e'⟩
  refine I.write (x := a) (e := dx) (by rw [e]; exact True.intro) (.inr ho) (fun b q hb z => (sb.2 b hb).trans z) hd ?_
  refine ⟨by rw [upd_ne O.ne]; exact ho, ?_, O.ne, O'.obj, _, O'.ns, fun g => ?_, fun g hg => ?_⟩
  · have := length_putF f y fs; omega
  · show RelO ((putF f y fs).lookup g) (if g = f then some u else mA g)
    rw [lookup_putF]
    by_cases q : g = f
    · rw [if_pos q, if_pos q]; exact ry
    · rw [if_neg q, if_neg q]; exact r g
  · by_cases q : g = f
    · rw [q]; exact (keys_putF f y fs).1
    · refine (keys_putF f y fs).2 g (wi g fun z => hg ?_)
      show (if g = f then some u else mA g) = none
      rw [if_neg q]; exact z
theorem Inv.made (I : Inv X pins σ H s) : Inv X pins σ (upd (upd H s.heap.objs.size (.own (s.heap.objs.size + 1))) (s.heap.objs.size + 1) (.ins C s.heap.objs.size []))
    { s with heap := (s.heap.push PySem.W.emptyDict).push (PySem.W.instObj C s.heap.objs.size) } := by
  have e1 : (s.heap.push PySem.W.emptyDict).get? s.heap.objs.size = some PySem.W.emptyDict := Heap.get?_push_size s.heap rfl
  have e2 : ((s.heap.push PySem.W.emptyDict).push (PySem.W.instObj C s.heap.objs.size)).get? (s.heap.objs.size + 1) = some (PySem.W.instObj C s.heap.objs.size) := by
    have := Heap.get?_push_size (s.heap.push PySem.W.emptyDict) (o := PySem.W.instObj C s.heap.objs.size) rfl
    rwa [Heap.size_push] at this
  have e3 : (s.heap.push PySem.W.emptyDict).Ns s.heap.objs.size (fun _ => none) := ⟨PySem.W.emptyDict, #[], _, e1, rfl, (fun e he => absurd he (by simp)), fun _ => rfl⟩
  have I1 := I.laid (a := s.heap.objs.size) (o := .own (s.heap.objs.size + 1)) (h' := s.heap.push PySem.W.emptyDict) (t' := s.toks) (fun b u q => Heap.get?_push_of_some _ q) (Nat.le_refl _) ⟨_, e1⟩
  refine I1.laid (a := s.heap.objs.size + 1) (o := .ins C s.heap.objs.size []) (t' := s.toks) (fun b u q => Heap.get?_push_of_some _ q) (Nat.le_of_eq (Heap.size_push _ _)) ?_
  have ne : s.heap.objs.size ≠ s.heap.objs.size + 1 := Nat.ne_of_lt (Nat.lt_succ_self _)
  refine ⟨by rw [upd_ne ne, upd_same], Nat.zero_le _, ne, e2, fun _ => none, (Heap.Ns1.of_empty e3).at fun o q => Heap.get?_push_of_some _ q, fun _ => True.intro, fun y hy => absurd rfl hy⟩
theorem attr_of {prog : Program} {w : World} {env : Env} {e : Expr} {f : Str} {pos : Pos} {s : Shared} {Q : Value → Shared → Prop} (hb : attributeBase e f env (eval e env) = eval e env)
    (h : wpAny (model prog w) A (eval e env) (fun o s₁ => wpAny (model prog w) A (getAttr o f true) Q E s₁) E s) : wpAny (model prog w) A (eval (.Attribute e f pos) env) Q E s :=
  Attribute_any_ h (by rw [arm_eval_Attribute, hb])
end
def tFld (K : PySem.W.Frag) (ta : TE) (f : Str) : TE := fun σ H Q => ta σ H fun x H1 => ∃ a C dx fs v, x = .ref a ∧ H1 a = some (.ins C dx fs) ∧ Cls K C ∧ NoAttr K C f ∧ fs.lookup f = some v ∧ Q v H1
def sFld (K : PySem.W.Frag) (ta tv : TE) (f : Str) : TS := fun D σ H => tv σ H fun y H1 => ta σ H1 fun x H2 => ∃ a C dx fs, x = .ref a ∧ H2 a = some (.ins C dx fs) ∧ Cls K C ∧ NoAttr K C f ∧ fs.length < 1000 ∧
  D.nx σ (upd H2 a (.ins C dx (putF f y fs)))
section
variable {X : Cx} {o e value : Expr} {f : Str} {pos pos' tpos : Pos} {ta tv : TE}
theorem pe_fld (he : PE X e ta) (hb : attributeBase e f X.env (eval e X.env) = eval e X.env) : PE X (.Attribute e f pos) (tFld X.K ta f) := by
  intro pins s σ H Q I h
  refine attr_of hb (thn (he pins s σ H _ I h) fun u s1 ⟨x, H1, I1, rx, a, C, dx, fs, v, ex, ea, c, n, l, q⟩ => ?_)
  subst ex
  obtain rfl : u = Value.ref a := rx
  exact getattr_ok I1 ea c n l fun u' s2 I2 ru => ⟨v, H1, I2, ru, q⟩
theorem ps_fld (ha : PE X o ta) (hv : PE X value tv) (hs : swapsWith value (some (.Attribute o f pos')) pos.line X.env = pure false) : PS X (.Assign [.Attribute o f pos'] value pos) (sFld X.K ta tv f) := by
  intro pins s σ H D I h
  refine plainObj_wpAny_Assign_Attribute (thn (hv pins s σ H _ I h) fun u s1 ⟨y, H1, I1, ry, q⟩ => thn (ha pins s1 σ H1 _ I1 q) fun ov s2 ⟨x, H2, I2, rx, a, C, dx, fs, ex, ea, c, n, l, q2⟩ => ?_) hs
  subst ex
  obtain rfl : ov = Value.ref a := rx
  exact setattr_ok I2 ea c n l ry fun s3 I3 => ⟨σ, _, I3, q2⟩
end
section
variable {X : Cx} {pins : List (Addr × Obj)} {σ : St} {H : Hp} {s : Shared} {A : Around} {E : Value → Shared → Prop} {Q : Value → Shared → Prop} {c : Value} {b : Bool}
end
end L2
namespace L2
open PySem PySem.Spec PyProof.Rows
structure Room (k : Nat) (A : Around) : Prop where
  hd : A.handled = none
  dp : A.depth + 3 * k + 5 < recursionLimit
  un : A.units + 16 * k + 200 < cLine
theorem Room.mono {j k : Nat} {A : Around} (r : Room k A) (h : j ≤ k) : Room j A := ⟨r.hd, by have := r.dp; omega, by have := r.un; omega⟩
theorem Room.deeper {k : Nat} {A : Around} (r : Room (k + 1) A) (env : Env) : Room k (A.deeper env) :=
  ⟨r.hd, by have := r.dp; show A.depth + 1 + 3 * k + 5 < _; omega, by have := r.un; show A.units + 3 + 16 * k + 200 < _; omega⟩
theorem Room.in1 {k : Nat} {A : Around} (r : Room (k + 1) A) : Room k A.in1 :=
  ⟨r.hd, by have := r.dp; show A.depth + 3 * k + 5 < _; omega, by have := r.un; show A.units + 1 + 16 * k + 200 < _; omega⟩
theorem make_depth {A : Around} {C : Addr} {us : List Value} {kw : List (Str × Value)} : (A.under (.builtin "type.__call__" ⟨.ref C :: us, kw⟩)).depth = A.depth + 1 := by
  first | rfl | simp [Around.under, Code.weight, Code.isCreation, Code.isGuard, Code.isCaller, Code.frames, Code.isFrame, guardIds]
theorem make_units {A : Around} {C : Addr} {us : List Value} {kw : List (Str × Value)} : (A.under (.builtin "type.__call__" ⟨.ref C :: us, kw⟩)).units = A.units + 1 := by
  first | rfl | simp [Around.under, Code.cUnits, Code.frames, Code.isFrame]
theorem Room.make {k : Nat} {A : Around} (r : Room (k + 1) A) (C : Addr) (us : List Value) (kw : List (Str × Value)) : Room k (A.under (.builtin "type.__call__" ⟨.ref C :: us, kw⟩)) :=
  ⟨r.hd, by have := r.dp; rw [make_depth]; omega, by have := r.un; rw [make_units]; omega⟩
theorem Room.depth {k : Nat} {A : Around} (r : Room k A) : A.depth < recursionLimit := by have := r.dp; omega
theorem Room.units {k : Nat} {A : Around} (r : Room k A) : A.units + 64 < cLine := by have := r.un; omega
theorem Room.units0 {k : Nat} {A : Around} (r : Room k A) : A.units < cLine := by have := r.un; omega
def tNil : TA := fun _ H Q => Q [] H
def tCons (ta : TE) (tr : TA) : TA := fun σ H Q => ta σ H fun x H1 => tr σ H1 fun xs H2 => Q (x :: xs) H2
section
variable {X : Cx} {e : Expr} {es : List Expr} {te : TE} {t : TA} {pos : Pos}
theorem pa_nil : PA X [] tNil := fun _ _ _ _ H Q I h => Calls.spliced_nil ⟨[], H, I, .nil, h⟩
theorem pa_cons (ha : PE X e te) (hr : PA X es t) (hs : starEach (e :: es) X.env = (false, eval e X.env) :: starEach es X.env := by rfl) : PA X (e :: es) (tCons te t) := by
  intro pos pins s σ H Q I h
  rw [hs]
  show wpAny _ _ (spliced ((false, eval e X.env) :: backTo pos (starEach es X.env))) _ _ s
  refine Calls.spliced_cons (thn (ha pins s σ H _ I h) fun u s1 ⟨x, H1, I1, r1, q1⟩ => ?_)
  exact thn (hr pos pins s1 σ H1 _ I1 q1) fun us s2 ⟨xs, H2, I2, r2, q2⟩ => ⟨x :: xs, H2, I2, .cons r1 r2, q2⟩
def tTup (t : TA) : TE := fun σ H Q => t σ H fun xs H1 => xs.length ≤ sizeLine ∧ ∀ p, H1 p = none → Q (.ref p) (upd H1 p (.tup xs))
def tLst (t : TA) : TE := fun σ H Q => t σ H fun xs H1 => xs.length ≤ sizeLine ∧ ∀ p, H1 p = none → Q (.ref p) (upd H1 p (.lst xs))
theorem pe_tup {x1} (h : PA X es t) : PE X (.Tuple es x1 pos) (tTup t) := by
  intro pins s σ H Q I hq
  refine wpAny_Tuple_spliced (thn (h pos pins s σ H _ I hq) fun us s1 ⟨xs, H1, I1, r, z, q⟩ => ⟨by rw [← r.length]; exact z, ?_⟩)
  have hf : H1 s1.heap.objs.size = none := I1.hok.fresh (Nat.le_refl _)
  refine ⟨.ref s1.heap.objs.size, upd H1 s1.heap.objs.size (.tup xs), I1.laid (t' := s1.toks) (fun b u e => Heap.get?_push_of_some _ e) (Nat.le_refl _) ?_, rfl, q _ hf⟩
  exact ⟨z, us, r, ⟨_, Heap.get?_push_size _ rfl, rfl, _, rfl⟩⟩
theorem pe_lst (h : PA X es t) : PE X (.List es pos) (tLst t) := by
  intro pins s σ H Q I hq
  refine wpAny_List_spliced (thn (h pos pins s σ H _ I hq) fun us s1 ⟨xs, H1, I1, r, z, q⟩ => ⟨by rw [← r.length]; exact z, ?_⟩)
  have hf : H1 s1.heap.objs.size = none := I1.hok.fresh (Nat.le_refl _)
  refine ⟨.ref s1.heap.objs.size, upd H1 s1.heap.objs.size (.lst xs), I1.laid (t' := s1.toks) (fun b u e => Heap.get?_push_of_some _ e) (Nat.le_refl _) ?_, rfl, q _ hf⟩
  exact ⟨z, us, 0, r, Heap.get?_push_size _ rfl⟩
end
abbrev Sp := List V → Hp → VK → XK → Prop
abbrev CXT := List Env → Hp → Shared → XK → Value → Shared → Prop
structure Env0 (P : Program) (w : World) (K : PySem.W.Frag) (mg : Str → Option Value) (base : Heap) (A : Around) (outer : List Env) (s : Shared) (H : Hp) : Prop where
  frames : A.frames = some outer
  mod : Mod K mg base
  bs : ∀ b o, base.get? b = some o → s.heap.get? b = some o ∧ H b = none
  bsz : base.objs.size ≤ s.heap.objs.size
  funs : s.heap.FunFrames base outer
  frf : ∀ b ∈ frs outer, H b = none
  hok : HOk P w H s.heap
  bare : AllBare s.gens
def CE (outer : List Env) (P : Program) (w : World) (H : Hp) (s : Shared) (Q : VK) (u : Value) (s' : Shared) : Prop :=
  ∃ v H', s'.os = s.os ∧ AllBare s'.gens ∧ Un (frs outer) [] H H' s.heap s'.heap ∧ HOk P w H' s'.heap ∧ RelV v u ∧ Q v H'
def CR (CX : CXT) (outer : List Env) (P : Program) (w : World) (H : Hp) (s : Shared) (Q : VK) (E : XK) (r : Result) (s' : Shared) : Prop :=
  match r with
  | .ok (.ret u) => CE outer P w H s Q u s'
  | .ok _ => False
  | .error e => CX outer H s E e s'
structure FnOk (P : Program) (w : World) (K : PySem.W.Frag) (mg : Str → Option Value) (base : Heap) (CX : CXT) (k : Nat) (f : Addr) (fd : FuncData) (ps : List Str) (sp : Sp) : Prop where
  len : ∀ vs H Q E, sp vs H Q E → vs.length = ps.length
  run : ∀ (A : Around) (outer : List Env) (s : Shared) (H : Hp) (args : Args) (us : List Value) (vs : List V) (Q : VK) (E : XK), Room k A → Env0 P w K mg base A outer s H → BindsTo s fd args (ps.zip us) → Vals vs us → sp vs H Q E →
    codeAny (model P w) A (.call (.ref f) args) (CR CX outer P w H s Q E) s
theorem FnOk.mono {P : Program} {w : World} {K : PySem.W.Frag} {mg : Str → Option Value} {base : Heap} {CX : CXT} {j k : Nat} {f : Addr} {fd : FuncData} {ps : List Str} {sp : Sp} (F : FnOk P w K mg base CX j f fd ps sp) (h : j ≤ k) :
    FnOk P w K mg base CX k f fd ps sp := ⟨F.len, fun A outer s H args us vs Q E hr => F.run A outer s H args us vs Q E (hr.mono h)⟩
theorem FnOk.imp {P : Program} {w : World} {K : PySem.W.Frag} {mg : Str → Option Value} {base : Heap} {CX : CXT} {k : Nat} {f : Addr} {fd : FuncData} {ps : List Str} {sp sp' : Sp} (F : FnOk P w K mg base CX k f fd ps sp)
    (h : ∀ vs H Q E, sp' vs H Q E → sp vs H Q E) : FnOk P w K mg base CX k f fd ps sp' :=
  ⟨fun vs H Q E q => F.len vs H Q E (h _ _ _ _ q), fun A outer s H args us vs Q E hr he hb hv hs => F.run A outer s H args us vs Q E hr he hb hv (h _ _ _ _ hs)⟩
theorem Env0.make {P : Program} {w : World} {K : PySem.W.Frag} {mg : Str → Option Value} {base : Heap} {A : Around} {outer : List Env} {s : Shared} {H : Hp} (e : Env0 P w K mg base A outer s H) (C : Addr) (us : List Value) (kw : List (Str × Value)) :
    Env0 P w K mg base (A.under (.builtin "type.__call__" ⟨.ref C :: us, kw⟩)) outer s H := ⟨by first | exact e.frames | (simpa [Around.under, Code.envs, Code.isFrame, pushEnvs] using e.frames), e.mod, e.bs, e.bsz, e.funs, e.frf, e.hok, e.bare⟩
theorem Env0.in1 {P : Program} {w : World} {K : PySem.W.Frag} {mg : Str → Option Value} {base : Heap} {A : Around} {outer : List Env} {s : Shared} {H : Hp} (e : Env0 P w K mg base A outer s H) :
    Env0 P w K mg base A.in1 outer s H := ⟨e.frames, e.mod, e.bs, e.bsz, e.funs, e.frf, e.hok, e.bare⟩
section
variable {X : Cx} {pins : List (Addr × Obj)} {σ : St} {H : Hp} {s s' : Shared}
theorem Inv.env0 (I : Inv X pins σ H s) : Env0 X.prog X.w X.K X.mg X.base X.A X.stack s H :=
  ⟨I.ok.frames, I.ok.mod, I.bs, Nat.le_trans I.ok.bsz I.sz, I.stack, I.stkFree, I.hok, I.bare⟩
theorem Inv.after {Q : VK} {u : Value} (I : Inv X pins σ H s) (h : CE X.stack X.prog X.w H s Q u s') : EP X pins σ Q u s' := by
  obtain ⟨v, H', os, bare, un, hok, r, q⟩ := h
  obtain ⟨hh, g, d, t, os'⟩ := s'
  obtain rfl : os' = s.os := os
  exact ⟨v, H', I.call (h' := hh) (g' := g) (d' := d) (t' := t) (ch := []) un hok bare (fun b z => absurd z (by simp)), r, q⟩
end
def tCall (sp : Sp) (dvs : List V) (E : XK) (t : TA) : TE := fun σ H Q => t σ H fun vs H1 => sp (vs ++ dvs) H1 Q E
def tMake (C : Addr) (sp : Sp) (dvs : List V) (E : XK) (t : TA) : TE := fun σ H Q => t σ H fun vs H1 => ∀ x dx, H1 x = none → H1 dx = none → dx ≠ x →
  sp (.ref x :: (vs ++ dvs)) (upd (upd H1 dx (.own x)) x (.ins C dx [])) (fun v H2 => v = .non ∧ Q (.ref x) H2) E
def Binds (K : PySem.W.Frag) (fd : FuncData) (ps : List Str) (ds : List Value) : Prop :=
  ∀ (s : Shared) (us : List Value), K.In s.heap → (us ++ ds).length = ps.length → BindsTo s fd ⟨us, []⟩ (ps.zip (us ++ ds))
theorem Binds.all {K : PySem.W.Frag} {fd : FuncData} {ps : List Str} (h : ∀ us : List Value, us.length = ps.length → bindArgs fd ⟨us, []⟩ = pure (ps.zip us)) : Binds K fd ps [] := fun s us _ hl => by
  rw [List.append_nil] at hl ⊢
  exact .of_eq (h us hl)
def Passes (CX : CXT) (X : Cx) (E : XK) : Prop := ∀ (pins : List (Addr × Obj)) (σ : St) (H : Hp) (s : Shared) (e : Value) (s' : Shared), Inv X pins σ H s → CX X.stack H s E e s' → X.xe e s'
section
variable {X : Cx} {CX : CXT} {k : Nat} {f C : Addr} {fd : FuncData} {ps : List Str} {sp : Sp} {dvs : List V} {ds : List Value} {E : XK} {x m : Str} {p pos apos : Pos} {e o : Expr} {es : List Expr} {ta : TE} {t : TA}
theorem run_fn {pins : List (Addr × Obj)} {σ : St} {H : Hp} {s : Shared} {Q : VK} {us : List Value} {vs : List V} (F : FnOk X.prog X.w X.K X.mg X.base CX k f fd ps sp) (hr : Room k X.A) (hb : Binds X.K fd ps ds) (hd : Vals dvs ds) (hx : Passes CX X E)
    (I : Inv X pins σ H s) (r : Vals vs us) (h : sp (vs ++ dvs) H Q E) : wpAny (model X.prog X.w) X.A (call (.ref f) us) (EP X pins σ Q) X.xe s := by
  have r2 : Vals (vs ++ dvs) (us ++ ds) := r.append hd
  have hl : (us ++ ds).length = ps.length := by rw [← r2.length]; exact F.len _ _ _ _ h
  refine wpAny_call (codeAny_mono (F.run X.A X.stack s H ⟨us, []⟩ (us ++ ds) (vs ++ dvs) Q E hr I.env0 (hb s us I.kIn hl) r2 h) fun r s' hq => ?_)
  cases r with
  | error e => exact hx pins σ H s e s' I hq
  | ok fl =>
    cases fl with
    | ret u => exact I.after hq
    | next => exact False.elim hq
    | brk => exact False.elim hq
    | cont => exact False.elim hq
theorem pe_call (F : FnOk X.prog X.w X.K X.mg X.base CX k f fd ps sp) (hr : Room k X.A) (hg : Gl X x) (hm : X.mg x = some (.ref f)) (hk : PySem.W.keepIn X.K (.ref f) = true) (hb : Binds X.K fd ps ds) (hd : Vals dvs ds) (hx : Passes CX X E)
    (ha : PA X (e :: es) t) (hdb : (x == ("__debug__" : Str)) = false := by decide) (he : starEach (e :: es) X.env = (false, eval e X.env) :: starEach es X.env := by rfl) (hpl : (backTo pos (starEach es X.env)).any (·.1) = false := by rfl) :
    PE X (.Call (.Name x p) (e :: es) [] pos) (tCall sp dvs E t) := by
  intro pins s σ H Q I h
  refine wpAny_Call_Name_kw (ld_glob I hg hm ?_ hdb)
  refine PySem.W.callWith_K (h₀ := X.base) I.ok.mod.kin hk (thn (ha pos pins s σ H _ I h) fun us s1 ⟨vs, H1, I1, r, q⟩ => ⟨I1.kIn, ?_⟩) he hpl
  exact run_fn F hr hb hd hx I1 r q
structure Mk (K : PySem.W.Frag) (C f : Addr) : Prop where
  makes : PySem.W.makesIn K C = true
  init : PySem.W.findIn K (.ref C) "__init__" = some (some (.ref f))
  fn : PySem.W.isFn K (.ref f) = true
  kp : PySem.W.keepIn K (.ref C) = true
theorem run_make {pins : List (Addr × Obj)} {σ : St} {H : Hp} {s : Shared} {Q : VK} {us : List Value} {vs : List V} (M : Mk X.K C f) (F : FnOk X.prog X.w X.K X.mg X.base CX k f fd ps sp) (hr : Room (k + 1) X.A) (hb : Binds X.K fd ps ds) (hd : Vals dvs ds)
    (hx : Passes CX X E) (I : Inv X pins σ H s) (r : Vals vs us)
    (h : ∀ x dx, H x = none → H dx = none → dx ≠ x → sp (.ref x :: (vs ++ dvs)) (upd (upd H dx (.own x)) x (.ins C dx [])) (fun v H2 => v = .non ∧ Q (.ref x) H2) E) :
    wpAny (model X.prog X.w) X.A (call (.ref C) us) (EP X pins σ Q) X.xe s := by
  have hq := h (s.heap.objs.size + 1) s.heap.objs.size (I.hok.fresh (Nat.le_succ _)) (I.hok.fresh (Nat.le_refl _)) (Nat.ne_of_lt (Nat.lt_succ_self _))
  have I2 := Inv.made (C := C) I
  have r2 : Vals (V.ref (s.heap.objs.size + 1) :: (vs ++ dvs)) (Value.ref (s.heap.objs.size + 1) :: (us ++ ds)) := .cons rfl (r.append hd)
  have hl : (Value.ref (s.heap.objs.size + 1) :: us ++ ds).length = ps.length := by
    have e := r2.length
    rw [F.len _ _ _ _ hq] at e
    exact e.symm
  refine wpAny_call (make_map (f := f) I.kIn M.makes M.init (beq_iff_eq.mp M.fn) (codeAny_mono (F.run _ X.stack _ _ ⟨Value.ref (s.heap.objs.size + 1) :: us, []⟩ (Value.ref (s.heap.objs.size + 1) :: (us ++ ds)) _ _ E (hr.make C us [])
    (I2.env0.make C us []) (hb _ (Value.ref (s.heap.objs.size + 1) :: us) I2.kIn hl) r2 hq) fun r s' hq' => ?_))
  cases r with
  | error e => exact hx pins σ _ _ e s' I2 hq'
  | ok fl =>
    cases fl with
    | ret u =>
      obtain ⟨v, H', I3, rv, ev, q3⟩ := I2.after hq'
      subst ev
      exact ⟨rv, ⟨V.ref (s.heap.objs.size + 1), H', I3, rfl, q3⟩⟩
    | next => exact False.elim hq'
    | brk => exact False.elim hq'
    | cont => exact False.elim hq'
theorem pe_make (M : Mk X.K C f) (F : FnOk X.prog X.w X.K X.mg X.base CX k f fd ps sp) (hr : Room (k + 1) X.A) (hg : Gl X x) (hm : X.mg x = some (.ref C)) (hb : Binds X.K fd ps ds) (hd : Vals dvs ds) (hx : Passes CX X E)
    (ha : PA X (e :: es) t) (hdb : (x == ("__debug__" : Str)) = false := by decide) (he : starEach (e :: es) X.env = (false, eval e X.env) :: starEach es X.env := by rfl) (hpl : (backTo pos (starEach es X.env)).any (·.1) = false := by rfl) :
    PE X (.Call (.Name x p) (e :: es) [] pos) (tMake C sp dvs E t) := by
  intro pins s σ H Q I h
  refine wpAny_Call_Name_kw (ld_glob I hg hm ?_ hdb)
  refine PySem.W.callWith_K (h₀ := X.base) I.ok.mod.kin M.kp (thn (ha pos pins s σ H _ I h) fun us s1 ⟨vs, H1, I1, r, q⟩ => ⟨I1.kIn, ?_⟩) he hpl
  exact run_make M F hr hb hd hx I1 r q
end
section
variable {X : Cx} {CX : CXT} {k : Nat} {f C : Addr} {fd : FuncData} {ps ks : List Str} {sp : Sp} {E : XK} {x m : Str} {p pos apos kpos : Pos} {e o : Expr} {es : List Expr} {kws : List Keyword} {te ta : TE} {t tk : TA} {nm : Option Str}
variable {g : List Value → List Value → List Value} {gV : List V → List V → List V}
end
structure FnScope (N P : List Str) (sc : Scope) : Prop where
  kind : sc.kind = .function
  co : sc.isCoroutine = false
  gen : sc.isGenerator = false
  nd : N.Nodup
  pre : N.take P.length = P
  par : ∀ x ∈ P, sc.names.lookup x = some .local ∨ sc.names.lookup x = some .cell
  nofree : ∀ y ∈ sc.names, y.2 ≠ .free
theorem bindL_out {kindOf : Str → Option NameKind} {x : Str} : ∀ {binds : List (Str × Value)} {m : Str → Option Value}, (∀ v, (x, v) ∉ binds) → bindL kindOf binds m x = m x
  | [], _, _ => rfl
  | (n, v) :: r, m, h => by
    unfold bindL
    rw [bindL_out fun w hw => h w (List.mem_cons_of_mem _ hw)]
    split
    · have : x ≠ n := by rintro rfl; exact h v List.mem_cons_self
      simp [this]
    · rfl
theorem bindC_out {kindOf : Str → Option NameKind} {x : Str} : ∀ {binds : List (Str × Value)} {m : Str → Option Value}, (∀ v, (x, v) ∉ binds) → bindC kindOf binds m x = m x
  | [], _, _ => rfl
  | (n, v) :: r, m, h => by
    unfold bindC
    rw [bindC_out fun w hw => h w (List.mem_cons_of_mem _ hw)]
    split
    · rfl
    · have : x ≠ n := by rintro rfl; exact h v List.mem_cons_self
      simp [this]
theorem bindL_get {kindOf : Str → Option NameKind} {x : Str} {v : Value} : ∀ {P : List Str} {vs : List Value} {i : Nat} {m : Str → Option Value}, P.Nodup → P[i]? = some x → vs[i]? = some v → kindOf x = some .local →
    bindL kindOf (P.zip vs) m x = some v
  | [], _, _, _, _, h, _, _ => by simp at h
  | _ :: _, [], _, _, _, _, h, _ => by simp at h
  | p :: P, w :: vs, 0, m, nd, h1, h2, hk => by
    simp at h1 h2; subst h1; subst h2
    show bindL kindOf ((p, w) :: P.zip vs) m p = _
    unfold bindL
    rw [bindL_out fun v hv => (List.nodup_cons.mp nd).1 (List.of_mem_zip hv).1, if_pos hk]
    simp
  | p :: P, w :: vs, i + 1, m, nd, h1, h2, hk => by
    show bindL kindOf ((p, w) :: P.zip vs) m x = _
    unfold bindL
    exact bindL_get (i := i) (List.nodup_cons.mp nd).2 (by simpa using h1) (by simpa using h2) hk
theorem bindC_get {kindOf : Str → Option NameKind} {x : Str} {v : Value} : ∀ {P : List Str} {vs : List Value} {i : Nat} {m : Str → Option Value}, P.Nodup → P[i]? = some x → vs[i]? = some v → kindOf x ≠ some .local →
    bindC kindOf (P.zip vs) m x = some v
  | [], _, _, _, _, h, _, _ => by simp at h
  | _ :: _, [], _, _, _, _, h, _ => by simp at h
  | p :: P, w :: vs, 0, m, nd, h1, h2, hk => by
    simp at h1 h2; subst h1; subst h2
    show bindC kindOf ((p, w) :: P.zip vs) m p = _
    unfold bindC
    rw [bindC_out fun v hv => (List.nodup_cons.mp nd).1 (List.of_mem_zip hv).1, if_neg hk]
    simp
  | p :: P, w :: vs, i + 1, m, nd, h1, h2, hk => by
    show bindC kindOf ((p, w) :: P.zip vs) m x = _
    unfold bindC
    exact bindC_get (i := i) (List.nodup_cons.mp nd).2 (by simpa using h1) (by simpa using h2) hk
def start (N : List Str) (vs : List V) : St := vs.map some ++ List.replicate (N.length - vs.length) none
def cxOf (CX : CXT) (P : Program) (w : World) (K : PySem.W.Frag) (mg : Str → Option Value) (base : Heap) (N : List Str) (qual : Str) (scope : Scope) (f : Addr) (cd : Value) (A : Around) (outer : List Env) (s : Shared) (H : Hp) (E : XK) : Cx where
  prog := P
  w := w
  K := K
  mg := mg
  base := base
  A := A.deeper (envOfC qual scope s.heap.objs.size f cd)
  N := N
  s_0 := s
  H_0 := H
  env := envOfC qual scope s.heap.objs.size f cd
  outer := outer
  stack := envOfC qual scope s.heap.objs.size f cd :: outer
  ex := []
  calm := true
  fn := fun _ => true
  pn := []
  xe := fun e s' => wpAny (model P w) (A.deeper (envOfC qual scope s.heap.objs.size f cd)) (leaving (envOfC qual scope s.heap.objs.size f cd) e) (fun _ s'' => CX outer H s E e s'') (fun e' s'' => CX outer H s E e' s'') s'
theorem cell_has {sc : Scope} {n : Nat} {x : Str} (h : sc.names.lookup x = some .cell) : ∃ c, (cellsFrom n sc.names []).lookup x = some c := by
  have q := PySem.W.cellsFrom_some sc.names n [] (.inl h)
  exact Option.isSome_iff_exists.mp q
theorem inv_start {CX : CXT} {P : Program} {w : World} {K : PySem.W.Frag} {mg : Str → Option Value} {base : Heap} {N ps : List Str} {qual : Str} {scope : Scope} {f : Addr} {cd : Value} {A : Around} {outer : List Env} {s s1 : Shared} {H : Hp} {E : XK} {us : List Value} {vs : List V}
    (S : FnScope N ps scope) (hd : A.handled = none) (e0 : Env0 P w K mg base A outer s H) (hl : vs.length = ps.length) (r : Vals vs us)
    (x : InCallC s s.heap.objs.size (bindL (envOfC qual scope s.heap.objs.size f cd).kindOf (ps.zip us) fun _ => none) (cellsFrom (s.heap.objs.size + 1) scope.names []) (bindC (envOfC qual scope s.heap.objs.size f cd).kindOf (ps.zip us) fun _ => none) s1) :
    Inv (cxOf CX P w K mg base N qual scope f cd A outer s H E) [] (start N vs) H s1 := by
  have hpl : ps.length ≤ N.length := by have := congrArg List.length S.pre; rw [List.length_take] at this; omega
  obtain ⟨h1, tk, rfl, hk⟩ := x.done
  have noA : ∀ b : Addr, b ∉ (cxOf CX P w K mg base N qual scope f cd A outer s H E).ex := fun b z => absurd (show b ∈ ([] : List Addr) from z) (by simp)
  refine ⟨⟨e0.mod, S.kind, rfl, rfl, Nat.le_refl _, fun y z c h1 h2 => ?_, fun y hy => ?_, fun y c _ h => ?_, fun _ => hd, Around.frames_deeper e0.frames, .inr ⟨rfl, rfl⟩, fun b z => absurd z (noA b), e0.bs, e0.bsz, fun b _ _ => noA b, fun b z => absurd z (noA b), e0.funs, e0.frf⟩,
    rfl, e0.bare, Un.kept hk, ⟨_, x.toInCall.ns, fun i y v h1 h2 h3 => ?_⟩, fun y c h => ⟨_, x.cell y c h⟩, e0.hok.fresh (Nat.le_refl _), fun y c h => ?_, fun p hp => absurd (show p ∈ ([] : List (Addr × Obj)) from hp) (by simp), e0.hok.kept hk, ?_⟩
  · exact name_of_addr x.apart (PySem.mem_of_lookup h1) (PySem.mem_of_lookup h2)
  · have hy : scope.names.lookup y = some .cell ∨ scope.names.lookup y = some .free := hy
    rcases hy with hy | hy
    · exact cell_has hy
    · exact absurd rfl (S.nofree _ (PySem.mem_of_lookup hy))
  · exact Nat.le_of_lt (x.above y c (PySem.mem_of_lookup h))
  · have hi : i < vs.length := by
      unfold start at h2
      by_cases hi : i < vs.length
      · exact hi
      · rw [List.getElem?_append_right (by simpa using hi)] at h2
        rw [List.getElem?_replicate] at h2
        split at h2 <;> cases h2
    have ha : vs[i]? = some v := by
      unfold start at h2
      rw [List.getElem?_append_left (by simpa using hi), List.getElem?_map] at h2
      cases e : vs[i]? with
      | none => rw [e] at h2; cases h2
      | some a => rw [e] at h2; cases h2; rfl
    obtain ⟨u, hu, rv⟩ := r.get ha
    have hp : ps[i]? = some y := by
      rw [← S.pre, List.getElem?_take_of_lt (by omega)]; exact h1
    have ndP : ps.Nodup := by rw [← S.pre]; exact S.nd.sublist (List.take_sublist _ _)
    refine ⟨u, rv, ?_⟩
    rcases S.par y (List.mem_of_getElem? hp) with k | k
    · exact .inl ⟨k, bindL_get ndP hp hu k⟩
    · obtain ⟨c, e⟩ := cell_has (n := s.heap.objs.size + 1) k
      refine .inr ⟨.inl k, c, e, ?_⟩
      have q := x.cell y c e
      rw [bindC_get ndP hp hu (by show scope.names.lookup y ≠ _; rw [k]; decide)] at q
      exact q
  · exact e0.hok.fresh (Nat.le_of_lt (x.above y c (PySem.mem_of_lookup h)))
  · unfold start
    show _ = N.length
    rw [List.length_append, List.length_map, List.length_replicate]
    omega
theorem fn_of {CX : CXT} {P : Program} {w : World} {K : PySem.W.Frag} {mg : Str → Option Value} {base : Heap} {k : Nat} {f : Addr} {name qual : Str} {params : Arguments} {body : List Stmt} {scope : Scope} {dV kV doc pm cdv ct oc : Value} {an od : Option Addr}
    {osl : Array (Option Value)} {N ps : List Str} {sp : Sp} (lk : K.lookup f = some ⟨oc, od, .func (PySem.W.fnOf name qual params body scope dV kV doc pm an cdv ct), osl⟩) (hcd : PySem.W.codeIn K cdv qual = true) (S : FnScope N ps scope)
    (len : ∀ vs H Q E, sp vs H Q E → vs.length = ps.length)
    (hbody : ∀ (A : Around) (outer : List Env) (s : Shared) (H : Hp) (vs : List V) (Q : VK) (E : XK), Room k (A.deeper (envOfC qual scope s.heap.objs.size f cdv)) → sp vs H Q E →
      ∃ t, PSs (cxOf CX P w K mg base N qual scope f cdv A outer s H E) body t ∧ t { nx := fun _ H' => Q .non H', rt := Q } (start N vs) H) :
    FnOk P w K mg base CX (k + 1) f (PySem.W.fnOf name qual params body scope dV kV doc pm an cdv ct) ps sp := by
  refine ⟨len, fun A outer s H args us vs Q E hr e0 hb r hsp => ?_⟩
  have hl := len _ _ _ _ hsp
  have KX : K.In s.heap := e0.mod.kin.keeps fun b o e => (e0.bs b o e).1
  have lim : s.heap.NoLimit := e0.mod.nolimit.keeps fun b o e => (e0.bs b o e).1
  have hkind : ∀ y ∈ ps.zip us, scope.names.lookup y.1 = some .local ∨ (scope.names.lookup y.1 = some .cell ∧ ((cellsFrom (s.heap.objs.size + 1) scope.names []).lookup y.1).isSome = true) := fun ⟨n, v⟩ hy => by
    rcases S.par n (List.of_mem_zip hy).1 with q | q
    · exact .inl q
    · exact .inr ⟨q, PySem.W.cellsFrom_some _ _ _ (.inl q)⟩
  refine codeAny_call_function hr.depth (KX _ _ lk) rfl S.co S.gen rfl (PySem.W.codeRec_of KX hcd) (hb _ _ _ _ ?_)
  refine wpAny_newFunctionEnv_cells S.kind hkind fun env he s1 x => ?_
  subst he
  refine ⟨lim.keeps x.toInCall.keep, codeAny_func ?_⟩
  obtain ⟨t, ht, hq⟩ := hbody A outer s H vs Q E (hr.deeper _) hsp
  have I : Inv (cxOf CX P w K mg base N qual scope f cdv A outer s H E) [] (start N vs) H s1 := inv_start S hr.hd e0 hl r x
  refine wpAny_mono (ht [] s1 (start N vs) H _ I hq) (fun fl s' hs => ?_) fun e s' hs => hs
  have fin : ∀ {σ' : St} {H' : Hp} {v : V} {u : Value}, Inv (cxOf CX P w K mg base N qual scope f cdv A outer s H E) [] σ' H' s' → RelV v u → Q v H' → CE outer P w H s Q u s' :=
    fun {σ' H' v u} J rv q => ⟨v, H', J.os, J.bare, J.base, J.hok, rv, q⟩
  cases fl with
  | ret u =>
    obtain ⟨v, σ', H', J, rv, q⟩ := hs
    exact fin J rv q
  | next =>
    obtain ⟨σ', H', J, q⟩ := hs
    exact fin (v := V.non) (u := Value.none) J rfl q
  | brk =>
    obtain ⟨_, _, _, q⟩ := hs
    exact False.elim q
  | cont =>
    obtain ⟨_, _, _, q⟩ := hs
    exact False.elim q
end L2
namespace L2
open PySem PySem.Spec PyProof.Rows
section
variable {X : Cx} {x : Str} {p pos : Pos} {e : Expr} {es : List Expr} {t : TA} {id T : String} {r : List V → Hp → VK → Prop}
def tCB (r : List V → Hp → VK → Prop) (t : TA) : TE := fun σ H Q => t σ H fun vs H1 => r vs H1 Q
theorem pe_callB (hc : CallR X (.builtin id) r) (hg : Gl X x) (hm : X.mg x = none) (hv : bootBuiltins x = some (.builtin id)) (ha : PA X (e :: es) t) (hn : x ≠ "__name__" := by decide) (hdb : (x == ("__debug__" : Str)) = false := by decide)
    (he : starEach (e :: es) X.env = (false, eval e X.env) :: starEach es X.env := by rfl) (hpl : (backTo pos (starEach es X.env)).any (·.1) = false := by rfl) : PE X (.Call (.Name x p) (e :: es) [] pos) (tCB r t) := by
  intro pins s σ H Q I h
  refine wpAny_Call_Name_kw (ld_blt I hg hm hv ?_ hn hdb)
  exact PyProof.Rows.callWith_builtin1 (thn (ha pos pins s σ H _ I h) fun us s1 ⟨vs, H1, I1, r1, q1⟩ => hc pins s1 σ H1 vs us Q I1 r1 q1) he hpl
theorem pe_callTy (hc : CallR X (.type T) r) (hg : Gl X x) (hm : X.mg x = none) (hv : bootBuiltins x = some (.type T)) (ha : PA X (e :: es) t) (hn : x ≠ "__name__" := by decide) (hdb : (x == ("__debug__" : Str)) = false := by decide)
    (he : starEach (e :: es) X.env = (false, eval e X.env) :: starEach es X.env := by rfl) (hpl : (backTo pos (starEach es X.env)).any (·.1) = false := by rfl) : PE X (.Call (.Name x p) (e :: es) [] pos) (tCB r t) := by
  intro pins s σ H Q I h
  refine wpAny_Call_Name_kw (ld_blt I hg hm hv ?_ hn hdb)
  exact PyProof.Rows.callWith_type1 (thn (ha pos pins s σ H _ I h) fun us s1 ⟨vs, H1, I1, r1, q1⟩ => hc pins s1 σ H1 vs us Q I1 r1 q1) he hpl
end
end L2
namespace HT
open PySem PyProof.Rows
def lexLt : List Int → List Int → Bool
  | [], [] => false
  | [], _ :: _ => true
  | _ :: _, [] => false
  | x :: xs, y :: ys => if x = y then lexLt xs ys else decide (x < y)
theorem lexLt_cons (x y : Int) (xs ys : List Int) : lexLt (x :: xs) (y :: ys) = if x = y then lexLt xs ys else decide (x < y) := rfl
theorem lexLt_nil_nil : lexLt [] [] = false := rfl
theorem lexLt_nil_cons (y : Int) (ys : List Int) : lexLt [] (y :: ys) = true := rfl
theorem lexLt_cons_nil (x : Int) (xs : List Int) : lexLt (x :: xs) [] = false := rfl
theorem eqAt_int (A : Around) (s : Shared) (a : Int) (t : Tok) (c : Int) (u : Tok) : ∃ e, SeqAt.EqAt A s (.int a t) (.int c u) e ∧ (e = true ↔ a = c) :=
  ⟨(a == c), SeqAt.EqAt.int_int a t c u, by simp⟩
theorem rcLt_int (A : Around) (s : Shared) (a : Int) (t : Tok) (c : Int) (u : Tok) (prog : Program) (w : World) (E : Value → Shared → Prop) (Q : Value → Shared → Prop) (h : Q (.bool (decide (a < c))) s) :
    wpAny (model prog w) A (richCompare .Lt (.int a t) (.int c u)) Q E s :=
  (PyProof.Rows.lt_int h : wpAny (model prog w) A (compareOp .Lt (.int a t) (.int c u)) Q E s)
section
open PySem.SeqAt
open PySem.AutoSeq1 (wpAny_loadPart')
open PySem.MeetsSeq PySem.MeetsSeq2 PySem.MeetsSeq3
theorem tuple_lt_ints (l b : Addr) (items items2 : Array Value) (n n2 : Nat) (dd dd2 : Option Addr) (sl sl2 : Array (Option Value)) (ns ms : List Int) (hi : IntsAre items.toList ns) (hj : IntsAre items2.toList ms) :
    Meets (Builtin.«tuple.__lt__» ⟨[.ref l, .ref b], []⟩)
      (fun _ R s => s.heap.get? l = some { cls := .type "tuple", dict := dd, data := .seq items n, slots := sl } ∧ s.heap.get? b = some { cls := .type "tuple", dict := dd2, data := .seq items2 n2, slots := sl2 } ∧
        R (.ok (.ret (.bool (lexLt ns ms)))) s) :=
  .of_wp fun prog w A R s h => by
    obtain ⟨hp, g, d, tk, os⟩ := s; obtain ⟨hl, hb, h⟩ := h
    have f2 := AutoSeq1.sub_tuple_tuple
    have z1 : items.size = ns.length := by rw [← hi.length]; simp
    have z2 : items2.size = ms.length := by rw [← hj.length]; simp
    wp_walk using wpAny_loadPart' hl, wpAny_loadPart' hb, wpAny_forIn_list _ (fun rest b s' => b.1 = none ∧ s' = ⟨hp, g, d, tk, os⟩ ∧ ∃ (vs ws : List Value) (ns' ms' : List Int), rest = vs.zip ws ∧
      IntsAre vs ns' ∧ IntsAre ws ms' ∧ ns'.length + items2.size = ms'.length + items.size ∧ R (.ok (.ret (.bool (lexLt ns' ms')))) ⟨hp, g, d, tk, os⟩) _
    case turn =>
      rintro ⟨y, x⟩ rest b s' ⟨hb', rfl, vs, ws, ns', ms', hz, hvi, hwi, hlen, hR⟩
      cases hvi with
      | nil => rw [List.zip_nil_left] at hz; cases hz
      | cons a t hvi' =>
        cases hwi with
        | nil => rw [List.zip_nil_right] at hz; cases hz
        | cons c u hwi' =>
          rw [List.zip_cons_cons] at hz
          injection hz with hyx hrest
          injection hyx with hy hx
          subst hy hx
          rw [lexLt_cons] at hR
          simp only [List.length_cons] at hlen
          obtain ⟨e, he, hiff⟩ := eqAt_int A.in1 ⟨hp, g, d, tk, os⟩ a t c u
          refine wpAny_bind (he prog w _ _ ?_)
          cases e with
          | true =>
            rw [if_pos (hiff.mp rfl)] at hR
            wp_walk
            exact ⟨rfl, rfl, _, _, _, _, hrest, hvi', hwi', by omega, hR⟩
          | false =>
            rw [if_neg (fun q => absurd (hiff.mpr q) Bool.false_ne_true)] at hR
            have hri := rcLt_int A.in1 ⟨hp, g, d, tk, os⟩ a t c u prog w
            wp_walk using hri
            exact ⟨_, rfl, by simpa using hR⟩
    case fin =>
      rintro ⟨b1, b2⟩ s' ⟨hb', rfl, vs, ws, ns', ms', hz, hvi, hwi, hlen, hR⟩
      simp only at hb'
      subst hb'
      have hv : lexLt ns' ms' = decide (items.size < items2.size) := by
        cases hvi with
        | nil =>
          cases hwi with
          | nil =>
            simp only [List.length_nil] at hlen
            rw [lexLt_nil_nil]
            exact (decide_eq_false (by omega)).symm
          | cons c u hw =>
            simp only [List.length_nil, List.length_cons] at hlen
            rw [lexLt_nil_cons]
            exact (decide_eq_true (by omega)).symm
        | cons a t hv =>
          cases hwi with
          | nil =>
            simp only [List.length_nil, List.length_cons] at hlen
            rw [lexLt_cons_nil]
            exact (decide_eq_false (by omega)).symm
          | cons c u hw =>
            rw [List.zip_cons_cons] at hz
            cases hz
      rw [hv] at hR
      wp_walk
      exact ⟨_, rfl, by simpa [Builtin.Tuple.tupleCompareSizes] using hR⟩
    case h =>
      exact ⟨rfl, rfl, items.toList, items2.toList, ns, ms, rfl, hi, hj, by omega, h⟩
end
section
variable {prog : Program} {w : World} {A : Around} {E : Value → Shared → Prop} {s : Shared}
theorem lt_tupInts {l b : Addr} {items items2 : Array Value} {ns ms : List Int} {Q : Value → Shared → Prop} (hl : IsTup s.heap l items) (hb : IsTup s.heap b items2) (hi : IntsAre items.toList ns) (hj : IntsAre items2.toList ms)
    (hu : A.units < cLine) (h : Q (.bool (lexLt ns ms)) s) : wpAny (model prog w) A (compareOp .Lt (.ref l) (.ref b)) Q E s := by
  obtain ⟨⟨cls, dd, data, sl⟩, ho, hc, n, hd⟩ := id hl
  obtain ⟨⟨cls2, dd2, data2, sl2⟩, ho2, hc2, n2, hd2⟩ := id hb
  simp only at hc hd hc2 hd2
  subst hc hd hc2 hd2
  exact richCompare_meets_room (op := .Lt) ⟨_, ho, rfl⟩ ⟨_, ho2, rfl⟩ PySem.F.slot_tuple_lt PySem.F.entry_tuple_lt (PySem.F.args_tuple_lt_2 _ _) (tuple_lt_ints l b items items2 n n2 dd dd2 sl sl2 ns ms hi hj)
    ⟨ho, ho2, show Value.bool (lexLt ns ms) ≠ Value.notImplemented ∧ Q (.bool (lexLt ns ms)) s from ⟨(fun x => nomatch x), h⟩⟩ hu
def sIx (n d : Nat) : Option Int → Nat
  | none => d
  | some v => if v < 0 then (v + (n : Int)).toNat else min v.toNat n
theorem sIx_none (n d : Nat) : sIx n d none = d := rfl
theorem sIx_nat (n d k : Nat) : sIx n d (some (k : Int)) = min k n := by
  show (if (k : Int) < 0 then ((k : Int) + (n : Int)).toNat else min (k : Int).toNat n) = min k n
  rw [if_neg (by omega), Int.toNat_natCast]
end
end HT
namespace L2
open PySem PySem.Spec PyProof.Rows
abbrev TO := St → Hp → (Option Int → Hp → Prop) → Prop
def PO (X : Cx) (e : Option Expr) (t : TO) : Prop :=
  ∀ (pins : List (Addr × Obj)) (s : Shared) (σ : St) (H : Hp) (Q : Option Int → Hp → Prop), Inv X pins σ H s → t σ H Q →
    wpAny (model X.prog X.w) X.A (evalPart e X.env) (fun u s' => ∃ o H', Inv X pins σ H' s' ∧ IsPart u o ∧ Q o H') X.xe s
def tNoPart : TO := fun _ H Q => Q none H
def tPart (t : TE) : TO := fun σ H Q => t σ H fun x H1 => ∃ i, x = .int i ∧ Q (some i) H1
section
variable {X : Cx} {e : Expr} {te : TE} {lo hi : Option Expr} {tl th : TO} {pos p2 : Pos}
theorem po_none : PO X none tNoPart := by
  intro pins s σ H Q I h
  rw [evalPart_none]
  exact wpAny_pure ⟨none, H, I, .none, h⟩
theorem po_some (h : PE X e te) : PO X (some e) (tPart te) := by
  intro pins s σ H Q I hw
  rw [evalPart_some]
  refine thn (h pins s σ H _ I hw) fun u s1 ⟨x, H1, I1, r1, q1⟩ => ?_
  obtain ⟨i, rfl, q⟩ := q1
  obtain ⟨t, rfl⟩ := r1
  exact ⟨some i, H1, I1, .int i t, q⟩
def SlR (X : Cx) (r : V → Option Int → Option Int → Hp → VK → Prop) : Prop :=
  ∀ (pins : List (Addr × Obj)) (s : Shared) (σ : St) (H : Hp) (x : V) (v vl vu : Value) (lo hi : Option Int) (sl : Addr) (Q : VK), Inv X pins σ H s → RelV x v → s.heap.IsSliceOf sl vl vu .none → IsPart vl lo → IsPart vu hi → r x lo hi H Q →
    ∃ T id, typeLookup (.type T) "__getitem__" = pure (some (.builtin id)) ∧ s.TypeIs v T ∧ wpAny (model X.prog X.w) X.A (getItem v (.ref sl)) (EP X pins σ Q) X.xe s
theorem SlR.or {r r' : V → Option Int → Option Int → Hp → VK → Prop} (h : SlR X r) (h' : SlR X r') : SlR X (fun x lo hi H Q => r x lo hi H Q ∨ r' x lo hi H Q) := by
  intro pins s σ H x v vl vu lo hi sl Q I rx hs pl pu q
  rcases q with q | q
  · exact h pins s σ H x v vl vu lo hi sl Q I rx hs pl pu q
  · exact h' pins s σ H x v vl vu lo hi sl Q I rx hs pl pu q
def tSl (r : V → Option Int → Option Int → Hp → VK → Prop) (te : TE) (tl th : TO) : TE := fun σ H Q => te σ H fun x H1 => tl σ H1 fun l H2 => th σ H2 fun u H3 => r x l u H3 Q
theorem pe_slice {r : V → Option Int → Option Int → Hp → VK → Prop} (hr : SlR X r) (he : PE X e te) (hl : PO X lo tl) (hu : PO X hi th) : PE X (.Subscript e (.Slice lo hi none p2) pos) (tSl r te tl th) := by
  intro pins s σ H Q I h
  refine Subscript_ (thn (he pins s σ H _ I h) fun v s1 ⟨x, H1, I1, r1, q1⟩ => ?_)
  refine wpAny_Slice (thn (hl pins s1 σ H1 _ I1 q1) fun vl s2 ⟨l, H2, I2, pl, q2⟩ => thn (hu pins s2 σ H2 _ I2 q2) fun vu s3 ⟨u, H3, I3, pu, q3⟩ => ?_)
  rw [evalPart_none]
  refine wpAny_pure ?_
  have I4 : Inv X pins σ H3 { s3 with heap := s3.heap.push { cls := .type "slice", data := .fields #[vl, vu, .none] } } := I3.kept (t' := s3.toks) fun b ob q => Heap.get?_push_of_some _ q
  obtain ⟨T, id, hT, ht, hg⟩ := hr pins { s3 with heap := s3.heap.push { cls := .type "slice", data := .fields #[vl, vu, .none] } } σ H3 x v vl vu l u s3.heap.objs.size Q I4 r1 (Heap.IsSliceOf.new ..) pl pu q3
  show wpAny (model X.prog X.w) X.A (subscriptTail e (.Slice lo hi none p2) v (.ref s3.heap.objs.size)) (EP X pins σ Q) X.xe { s3 with heap := s3.heap.push { cls := .type "slice", data := .fields #[vl, vu, .none] } }
  exact tail_any (ops := [.ref s3.heap.objs.size, v]) ht hT hg (by with_unfolding_all rfl)
def cutV (xs : List V) (lo hi : Option Int) : List V := (xs.drop (HT.sIx xs.length 0 lo)).take (HT.sIx xs.length xs.length hi - HT.sIx xs.length 0 lo)
theorem cutV_length (xs : List V) (lo hi : Option Int) : (cutV xs lo hi).length ≤ xs.length := by
  unfold cutV
  rw [List.length_take, List.length_drop]
  omega
end
end L2
namespace L2
open PySem PySem.Spec PyProof.Rows
def ixN (n : Nat) (i : Int) : Option Nat := if 0 ≤ i then (if i < n then some i.toNat else none) else if -(n : Int) ≤ i then some (i + n).toNat else none
def atI {α : Type} (xs : List α) (i : Int) : Option α := (ixN xs.length i).bind fun j => xs[j]?
theorem ixN_seq {n : Nat} {i : Int} {j : Nat} (h : ixN n i = some j) : seqIndex? i n = some j ∧ j < n ∧ -(n : Int) ≤ i ∧ i < n := by
  unfold ixN at h
  by_cases h0 : 0 ≤ i
  · rw [if_pos h0] at h
    by_cases h1 : i < n
    · rw [if_pos h1] at h
      have e : i.toNat = j := Option.some.inj h
      exact ⟨by rw [seqIndex_of h0 h1, e], by omega, by omega, h1⟩
    · rw [if_neg h1] at h; cases h
  · rw [if_neg h0] at h
    by_cases h1 : -(n : Int) ≤ i
    · rw [if_pos h1] at h
      have e : (i + n).toNat = j := Option.some.inj h
      exact ⟨by rw [seqIndex_neg (by omega) h1, e], by omega, h1, by omega⟩
    · rw [if_neg h1] at h; cases h
theorem atI_get {α : Type} {xs : List α} {i : Int} {v : α} (h : atI xs i = some v) : ∃ j, seqIndex? i xs.length = some j ∧ xs[j]? = some v ∧ j < xs.length ∧ -(xs.length : Int) ≤ i ∧ i < xs.length := by
  unfold atI at h
  cases e : ixN xs.length i with
  | none => rw [e] at h; cases h
  | some j =>
    rw [e] at h
    obtain ⟨h1, h2, h3, h4⟩ := ixN_seq e
    exact ⟨j, h1, h, h2, h3, h4⟩
theorem atI_nat {α : Type} {xs : List α} {j : Nat} {v : α} (h : xs[j]? = some v) : atI xs (j : Int) = some v := by
  have hj : j < xs.length := (List.getElem?_eq_some_iff.mp h).1
  have e : ixN xs.length (j : Int) = some j := by
    unfold ixN
    rw [if_pos (by omega), if_pos (by omega)]; simp
  unfold atI; rw [e]; exact h
def PlainIx (b : Expr) : Prop := ∀ o i, subscripted b false o i = operate [o, i] (getItem o i)
def IxR (X : Cx) (r : R2) : Prop :=
  ∀ (value slice : Expr) (pins : List (Addr × Obj)) (s : Shared) (σ : St) (H : Hp) (x y : V) (v u : Value) (Q : VK), Inv X pins σ H s → RelV x v → RelV y u → r x y H Q →
    subscripted slice false v u = operate [v, u] (getItem v u) → wpAny (model X.prog X.w) X.A (subscriptTail value slice v u) (EP X pins σ Q) X.xe s
def MtR (X : Cx) (id : String) (r : V → List V → Hp → VK → Prop) : Prop :=
  ∀ (pins : List (Addr × Obj)) (s : Shared) (σ : St) (H : Hp) (x : V) (xs : List V) (v : Value) (us : List Value) (Q : VK), Inv X pins σ H s → RelV x v → Vals xs us → r x xs H Q →
    wpAny (model X.prog X.w) X.A (call (.builtin id) (v :: us)) (EP X pins σ Q) X.xe s
section
variable {X : Cx} {a b : Expr} {ta tb : TE} {pos : Pos}
theorem IxR.or {r r' : R2} (h : IxR X r) (h' : IxR X r') : IxR X (fun x y H Q => r x y H Q ∨ r' x y H Q) := by
  intro value slice pins s σ H x y v u Q I rx ry q hs
  rcases q with q | q
  · exact h value slice pins s σ H x y v u Q I rx ry q hs
  · exact h' value slice pins s σ H x y v u Q I rx ry q hs
theorem MtR.or {id : String} {r r' : V → List V → Hp → VK → Prop} (h : MtR X id r) (h' : MtR X id r') : MtR X id (fun x xs H Q => r x xs H Q ∨ r' x xs H Q) := by
  intro pins s σ H x xs v us Q I rx rs q
  rcases q with q | q
  · exact h pins s σ H x xs v us Q I rx rs q
  · exact h' pins s σ H x xs v us Q I rx rs q
theorem pe_ix {r : R2} (hr : IxR X r) (ha : PE X a ta) (hb : PE X b tb) (hs : PlainIx b) : PE X (.Subscript a b pos) (tOp r ta tb) := by
  intro pins s σ H Q I h
  exact Subscript_ (binT ha hb I h fun v u s2 x y H2 I2 rx ry q => hr a b pins s2 σ H2 x y v u Q I2 rx ry q (hs _ _))
def rIxL (K : PySem.W.Frag) : R2 := fun x y H Q => ∃ p xs i v, x = .ref p ∧ y = .int i ∧ SqL K H p xs ∧ atI xs i = some v ∧ Q v H
theorem ix_list : IxR X (rIxL X.K) := by
  intro value slice pins s σ H x y v u Q I rx ry h hs
  obtain ⟨p, xs, i, z, rfl, rfl, hq, he, q⟩ := h
  cases rx
  obtain ⟨t, rfl⟩ := ry
  obtain ⟨its, r, pl, hz⟩ := I.list hq
  obtain ⟨j, h1, h2, h3, h4, h5⟩ := atI_get he
  obtain ⟨w, ew, rw'⟩ := r.get h2
  have hl := r.length
  have hn := line63
  have fin : EP X pins σ Q w s := ⟨z, H, I, rw', q⟩
  by_cases h0 : 0 ≤ i
  · have hj : i.toNat = j := by
      rw [seqIndex_of h0 h5] at h1
      exact Option.some.inj h1
    exact item_listR pl.isList h0 (by omega) (by rw [hj]; simpa using ew) fin hs
  · have hj : (i + (its.toArray.size : Int)).toNat = j := by
      rw [seqIndex_neg (by omega) h4] at h1
      rw [List.size_toArray, ← hl]
      exact Option.some.inj h1
    exact subscriptTail_builtinR (x := w) pl.isList.typeIs slot_list_getitem.lookup
      (wpAny_getItem_list_neg (Q := fun r s' => r = w ∧ EP X pins σ Q r s') pl.isList (by omega) (by rw [List.size_toArray] <;> omega) (by omega) (by rw [hj]; simpa using ew) ⟨rfl, fin⟩) hs
theorem mapSeq_set (its : List Value) (n j : Nat) (u : Value) : Obj.mapSeq (·.setIfInBounds j u) { cls := .type "list", data := .seq its.toArray n } = { cls := .type "list", data := .seq (its.set j u).toArray n } := by
  simp [Obj.mapSeq]
theorem Inv.lst {pins : List (Addr × Obj)} {σ : St} {H : Hp} {s : Shared} {p : Addr} {xs : List V} (I : Inv X pins σ H s) (h : H p = some (.lst xs)) :
    ∃ (its : List Value) (n : Nat), Vals xs its ∧ s.heap.get? p = some { cls := .type "list", data := .seq its.toArray n } ∧ xs.length ≤ sizeLine := by
  obtain ⟨z, its, n, r, e⟩ := I.hok p _ h
  exact ⟨its, n, r, e, z⟩
theorem Inv.lstUpd {pins : List (Addr × Obj)} {σ : St} {H : Hp} {s : Shared} {p : Addr} {xs ys : List V} {its its' : List Value} {n n' : Nat} {f : Obj → Obj} (I : Inv X pins σ H s) (h : H p = some (.lst xs))
    (ho : s.heap.get? p = some { cls := .type "list", data := .seq its.toArray n }) (hf : f { cls := .type "list", data := .seq its.toArray n } = { cls := .type "list", data := .seq its'.toArray n' }) (r : Vals ys its') (hz : ys.length ≤ sizeLine) (t : Nat) :
    Inv X pins σ (upd H p (.lst ys)) { s with heap := s.heap.update p f, toks := t } := by
  have e : (s.heap.update p f).get? p = some { cls := .type "list", data := .seq its'.toArray n' } := by
    rw [Heap.get?_update_self f ho (by rw [hf] <;> rfl), hf]
  refine I.write (x := p) (e := p) (by rw [h]; trivial) (.inl rfl) (fun b u hb q => (Heap.get?_update_other _ _ (Ne.symm hb)).trans q) ⟨_, e⟩ ?_
  exact ⟨hz, its', n', r, e⟩
def rSetL : V → V → V → Hp → (Hp → Prop) → Prop := fun o i v H Q => ∃ p xs k j, o = .ref p ∧ i = .int k ∧ H p = some (.lst xs) ∧ ixN xs.length k = some j ∧ Q (upd H p (.lst (xs.set j v)))
theorem set_list : PSet X rSetL := by
  intro pins s σ H o i v ov iv u Q I ro ri rv h
  obtain ⟨p, xs, k, j, rfl, rfl, hp, hj, q⟩ := h
  cases ro
  obtain ⟨t, rfl⟩ := ri
  obtain ⟨its, n, r, ho, hz⟩ := I.lst hp
  obtain ⟨h1, h2, h3, h4⟩ := ixN_seq hj
  have hl := r.length
  have hn := line63
  have I' : Inv X pins σ (upd H p (.lst (xs.set j v))) { s with heap := s.heap.update p (Obj.mapSeq (·.setIfInBounds j u)) } :=
    I.lstUpd hp ho (mapSeq_set its n j u) (r.set rv j) (by rw [List.length_set]; exact hz) s.toks
  by_cases h0 : 0 ≤ k
  · have hk : k.toNat = j := by
      rw [seqIndex_of h0 h4] at h1
      exact Option.some.inj h1
    exact PySem.W.ki_setAt ho h0 (by omega) (by rw [List.size_toArray, ← hl]; exact h4) (by rw [hk]; exact ⟨_, I', q⟩)
  · have hk : (k + (its.toArray.size : Int)).toNat = j := by
      rw [seqIndex_neg (by omega) h3] at h1
      rw [List.size_toArray, ← hl]
      exact Option.some.inj h1
    exact PySem.W.ki_setBack ho (by omega) (by rw [List.size_toArray, ← hl]; exact h3) (by omega) (by rw [hk]; exact ⟨_, I', q⟩)
theorem slice_bounds (lo hi : Option Int) (n : Nat) : (sliceBounds lo hi none n).1 = ((HT.sIx n 0 lo : Nat) : Int) ∧ (sliceBounds lo hi none n).2.1 = ((HT.sIx n n hi : Nat) : Int) ∧ (sliceBounds lo hi none n).2.2 = 1 := by
  refine ⟨?_, ?_, rfl⟩
  · cases lo with
    | none => simp [sliceBounds, HT.sIx]
    | some i =>
      simp only [sliceBounds, HT.sIx, Option.getD_none, show (1 : Int) > 0 by decide, if_true]
      by_cases h : i < 0
      · simp only [h, if_true] <;> omega
      · simp only [h, if_false] <;> omega
  · cases hi with
    | none => simp [sliceBounds, HT.sIx]
    | some i =>
      simp only [sliceBounds, HT.sIx, Option.getD_none, show (1 : Int) > 0 by decide, if_true]
      by_cases h : i < 0
      · simp only [h, if_true] <;> omega
      · simp only [h, if_false] <;> omega
theorem slicePick_cut (its : List Value) (lo hi : Option Int) : slicePick its.toArray lo hi none = ((its.drop (HT.sIx its.length 0 lo)).take (HT.sIx its.length its.length hi - HT.sIx its.length 0 lo)).toArray := by
  obtain ⟨h1, h2, h3⟩ := slice_bounds lo hi its.toArray.size
  unfold slicePick
  rw [h1, h2, h3]
  simp only [sliceRange_one, pick_run, List.size_toArray] <;> rfl
def rSlL (K : PySem.W.Frag) : V → Option Int → Option Int → Hp → VK → Prop := fun x lo hi H Q => ∃ a xs, x = .ref a ∧ SqL K H a xs ∧ ∀ p, H p = none → Q (.ref p) (upd H p (.lst (cutV xs lo hi)))
theorem sl_list : SlR X (rSlL X.K) := by
  intro pins s σ H x v vl vu lo hi sl Q I rx hs pl pu h
  obtain ⟨a, xs, rfl, hx, q⟩ := h
  cases rx
  obtain ⟨its, r, ht, hz⟩ := I.list hx
  have hlen := r.length
  refine ⟨"list", _, slot_list_getitem.lookup, ht.isList.typeIs, ?_⟩
  refine wpAny_getItem_list_slice ht.isList hs pl pu .none (by simp) ?_ (by rw [List.size_toArray] <;> omega)
  rw [slicePick_cut, ← hlen]
  refine ⟨.ref s.heap.objs.size, _, I.laid (t' := s.toks) (o := .lst (cutV xs lo hi)) (fun b ob q => Heap.get?_push_of_some _ q) (Nat.le_refl _) ?_, rfl, q _ (I.hok.fresh (Nat.le_refl _))⟩
  exact ⟨Nat.le_trans (cutV_length xs lo hi) hz, _, 0, (r.drop (HT.sIx xs.length 0 lo)).take (HT.sIx xs.length xs.length hi - HT.sIx xs.length 0 lo), Heap.get?_push_size _ rfl⟩
def flatV : V → Bool
  | .non => true
  | .bl _ => true
  | .int _ => true
  | .str _ => true
  | _ => false
def eqV : V → V → Bool
  | .non, .non => true
  | .bl a, .bl b => a == b
  | .bl a, .int b => (if a then 1 else 0) == b
  | .int a, .bl b => a == (if b then 1 else 0)
  | .int a, .int b => a == b
  | .str a, .str b => a == b
  | _, _ => false
theorem eqAt_V {A : Around} {s : Shared} {y x : V} {u v : Value} (ry : RelV y u) (rx : RelV x v) (fy : flatV y = true) (fx : flatV x = true) : SeqAt.EqAt A s u v (eqV y x) := by
  cases y with
  | non =>
    cases ry
    cases x with
    | non => cases rx; exact SeqAt.EqAt.same _
    | bl b => cases rx; exact SeqAt.EqAt.none_bool b
    | int b => obtain ⟨t, rfl⟩ := rx; exact SeqAt.EqAt.none_int b t
    | str b => obtain ⟨t, rfl⟩ := rx; exact SeqAt.EqAt.none_str b t
    | _ => exact absurd (show false = true from fx) Bool.false_ne_true
  | bl a =>
    cases ry
    cases x with
    | non => cases rx; exact SeqAt.EqAt.bool_none a
    | bl b => cases rx; exact SeqAt.EqAt.bool_bool a b
    | int b => obtain ⟨t, rfl⟩ := rx; exact SeqAt.EqAt.bool_int a b t
    | str b => obtain ⟨t, rfl⟩ := rx; exact SeqAt.EqAt.bool_str a b t
    | _ => exact absurd (show false = true from fx) Bool.false_ne_true
  | int a =>
    obtain ⟨t', rfl⟩ := ry
    cases x with
    | non => cases rx; exact SeqAt.EqAt.int_none a t'
    | bl b => cases rx; exact SeqAt.EqAt.int_bool a t' b
    | int b => obtain ⟨t, rfl⟩ := rx; exact SeqAt.EqAt.int_int a t' b t
    | str b => obtain ⟨t, rfl⟩ := rx; exact SeqAt.EqAt.int_str a t' b t
    | _ => exact absurd (show false = true from fx) Bool.false_ne_true
  | str a =>
    obtain ⟨t', rfl⟩ := ry
    cases x with
    | non => cases rx; exact SeqAt.EqAt.str_none a t'
    | bl b => cases rx; exact SeqAt.EqAt.str_bool a t' b
    | int b => obtain ⟨t, rfl⟩ := rx; exact SeqAt.EqAt.str_int a t' b t
    | str b => obtain ⟨t, rfl⟩ := rx; exact SeqAt.EqAt.str_str a t' b t
    | _ => exact absurd (show false = true from fx) Bool.false_ne_true
  | _ => exact absurd (show false = true from fy) Bool.false_ne_true
def eqU (x : V) (u : Value) : Bool := match u with
  | .none => eqV .non x
  | .bool b => eqV (.bl b) x
  | .int i _ => eqV (.int i) x
  | .str z _ => eqV (.str z) x
  | _ => false
theorem eqU_of {x y : V} {u : Value} (r : RelV y u) (f : flatV y = true) : eqU x u = eqV y x := by
  cases y with
  | non => cases r; rfl
  | bl b => cases r; rfl
  | int i => obtain ⟨t, rfl⟩ := r; rfl
  | str z => obtain ⟨t, rfl⟩ := r; rfl
  | _ => exact absurd (show false = true from f) Bool.false_ne_true
theorem any_eqU {x : V} : ∀ {xs : List V} {us : List Value}, Vals xs us → xs.all flatV = true → us.any (eqU x) = xs.any fun y => eqV y x
  | _, _, .nil, _ => rfl
  | y :: xs, u :: us, .cons r t, f => by
    rw [List.all_cons, Bool.and_eq_true] at f
    rw [List.any_cons, List.any_cons, eqU_of r f.1, any_eqU t f.2]
theorem mem_eqAt {A : Around} {s : Shared} {x : V} {v : Value} (rx : RelV x v) (fx : flatV x = true) : ∀ {xs : List V} {us : List Value}, Vals xs us → xs.all flatV = true → ∀ u ∈ us, SeqAt.EqAt A s u v (eqU x u)
  | _, _, .nil, _ => fun u hu => by cases hu
  | y :: xs, u :: us, .cons r t, f => fun u' hu => by
    rw [List.all_cons, Bool.and_eq_true] at f
    rcases List.mem_cons.mp hu with rfl | hu
    · rw [eqU_of r f.1]; exact eqAt_V r rx f.1 fx
    · exact mem_eqAt rx fx t f.2 u' hu
def inV (x : V) (xs : List V) : Bool := xs.any fun y => eqV y x
def rIn (K : PySem.W.Frag) (neg : Bool) : R2 := fun x y H Q => ∃ p xs, y = .ref p ∧ (SqL K H p xs ∨ SqT K H p xs) ∧ flatV x = true ∧ xs.all flatV = true ∧ Q (.bl (if neg then !inV x xs else inV x xs)) H
theorem op_notIn_seq : OpR X (compareOp .NotIn) (rIn X.K true) := by
  intro pins s σ H x y v u Q I rx ry h
  obtain ⟨p, xs, rfl, hq, fx, fs, q⟩ := h
  cases ry
  rcases hq with hq | hq
  · obtain ⟨its, r, pl, hz⟩ := I.list hq
    refine SeqAt.notIn_listAt (eqU x) pl.isList (fun w hw => mem_eqAt rx fx r fs w (by simpa using hw)) ⟨.bl _, H, I, rfl, ?_⟩
    rw [show its.toArray.any (eqU x) = its.any (eqU x) by simp, any_eqU r fs]
    exact q
  · obtain ⟨its, r, pl, hz⟩ := I.tuple hq
    refine SeqAt.notIn_tupleAt (eqU x) pl (fun w hw => mem_eqAt rx fx r fs w (by simpa using hw)) ⟨.bl _, H, I, rfl, ?_⟩
    rw [show its.toArray.any (eqU x) = its.any (eqU x) by simp, any_eqU r fs]
    exact q
theorem call_len_seq : CallR X (.builtin "len") (fun xs H Q => ∃ p ys, xs = [.ref p] ∧ (SqL X.K H p ys ∨ SqT X.K H p ys) ∧ Q (.int ys.length) H) := by
  intro pins s σ H xs us Q I r h
  obtain ⟨p, ys, rfl, hq, q⟩ := h
  obtain ⟨u, rfl, rx⟩ := vals1 r
  cases rx
  have hn := line63
  rcases hq with hq | hq
  · obtain ⟨its, r', pl, hz⟩ := I.list hq
    have hlen := r'.length
    exact Calls.call_len_list pl.isList (by simp only [List.size_toArray] <;> omega) ⟨.int ys.length, H, I.tok _, ⟨s.toks + 1, by rw [List.size_toArray, hlen]⟩, q⟩
  · obtain ⟨its, r', pl, hz⟩ := I.tuple hq
    have hlen := r'.length
    exact len_tuple pl (by simp only [List.size_toArray] <;> omega) ⟨.int ys.length, H, I.tok _, ⟨s.toks + 1, by rw [List.size_toArray, hlen]⟩, q⟩
theorem CallR.or {f : Value} {r r' : List V → Hp → VK → Prop} (h : CallR X f r) (h' : CallR X f r') : CallR X f (fun xs H Q => r xs H Q ∨ r' xs H Q) := by
  intro pins s σ H xs us Q I rs q
  rcases q with q | q
  · exact h pins s σ H xs us Q I rs q
  · exact h' pins s σ H xs us Q I rs q
def tyV (K : PySem.W.Frag) (T : String) (x : V) (H : Hp) : Prop := match x with
  | .str _ => T = "str"
  | .int _ => T = "int"
  | .ref p => (T = "list" ∧ ∃ xs, SqL K H p xs) ∨ (T = "tuple" ∧ ∃ o, K.lookup p = some o ∧ o.cls = .type "tuple" ∧ o.dict = none) ∨
      (T = "dict" ∧ ((∃ kvs, H p = some (.dK kvs)) ∨ ∃ kvs, H p = some (.dT kvs))) ∨ (T = "set" ∧ ∃ S n, H p = some (.set S n))
  | _ => False
theorem tyV_is {pins : List (Addr × Obj)} {σ : St} {H : Hp} {s : Shared} {T : String} {x : V} {v : Value} (I : Inv X pins σ H s) (r : RelV x v) (ty : tyV X.K T x H) :
    s.TypeIs v T ∧ ∀ a, v = .ref a → ∃ ob, s.heap.get? a = some ob ∧ ob.dict = none := by
  cases x with
  | str z =>
    obtain ⟨t, rfl⟩ := r
    cases (show T = "str" from ty)
    exact ⟨typeIs_str s z t, fun _ e => nomatch e⟩
  | int i =>
    obtain ⟨t, rfl⟩ := r
    cases (show T = "int" from ty)
    exact ⟨typeIs_int s i t, fun _ e => nomatch e⟩
  | ref p =>
    cases r
    rcases ty with ⟨rfl, xs, hq⟩ | ⟨rfl, o, hk, hc, hd⟩ | ⟨rfl, hk⟩ | ⟨rfl, S, n, hk⟩
    · obtain ⟨its, _, pl, _⟩ := I.list hq
      refine ⟨pl.isList.typeIs, fun a e => ?_⟩
      cases e
      obtain ⟨o, n, e, c, hd, _⟩ := pl
      exact ⟨o, e, hd⟩
    · refine ⟨⟨o, I.kIn p o hk, hc⟩, fun a e => ?_⟩
      cases e
      exact ⟨o, I.kIn _ o hk, hd⟩
    · have z : ∃ o, s.heap.get? p = some o ∧ o.ExactDict := by
        rcases hk with ⟨kvs, hk⟩ | ⟨kvs, hk⟩
        · obtain ⟨_, _, _, _, o, _, _, e, ex, _⟩ := I.hok p _ hk
          exact ⟨o, e, ex⟩
        · obtain ⟨_, _, _, _, o, _, _, e, ex, _⟩ := I.hok p _ hk
          exact ⟨o, e, ex⟩
      obtain ⟨o, e, ex⟩ := z
      refine ⟨⟨o, e, ex.1⟩, fun a e2 => ?_⟩
      cases e2
      exact ⟨o, e, ex.2.1⟩
    · obtain ⟨o, _, _, _, e, ex, _⟩ := I.hok p _ hk
      refine ⟨⟨o, e, ex.1⟩, fun a e2 => ?_⟩
      cases e2
      exact ⟨o, e, ex.2.1⟩
  | _ => exact False.elim ty
def tBM0 (K : PySem.W.Frag) (T : String) (r : V → List V → Hp → VK → Prop) (to : TE) : TE := fun σ H Q => to σ H fun x H1 => tyV K T x H1 ∧ r x [] H1 Q
def tBM (K : PySem.W.Frag) (T : String) (r : V → List V → Hp → VK → Prop) (to : TE) (t : TA) : TE := fun σ H Q => to σ H fun x H1 => tyV K T x H1 ∧ t σ H1 fun xs H2 => r x xs H2 Q
variable {o e : Expr} {es : List Expr} {to : TE} {t : TA} {name : Str} {apos cpos : Pos} {T id : String} {r : V → List V → Hp → VK → Prop}
theorem pe_bm0 (pa : PlainAttrs T) (slot : Slot T name id) (hty : typeOf (.builtin id) = pure (.type "method_descriptor")) (hm : MtR X id r) (ho : PE X o to)
    (hbase : attributeBase o name X.env (eval o X.env) = eval o X.env := by rfl) (hline : (apos.endLine == cpos.line) = true := by rfl) : PE X (.Call (.Attribute o name apos) [] [] cpos) (tBM0 X.K T r to) := by
  intro pins s σ H Q I h
  refine wpAny_Call_method0_late hbase hline (thn (ho pins s σ H _ I h) fun v s1 ⟨x, H1, I1, r1, ty, q1⟩ => ?_)
  obtain ⟨h1, h2⟩ := tyV_is I1 r1 ty
  exact ⟨T, id, pa, slot, hty, h1, h2, Calls.callWith_builtin rfl (PySem.evalArgs_none (hm pins s1 σ H1 x [] v [] Q I1 r1 .nil q1))⟩
theorem pe_bm (pa : PlainAttrs T) (slot : Slot T name id) (hty : typeOf (.builtin id) = pure (.type "method_descriptor")) (hm : MtR X id r) (ho : PE X o to) (ha : PA X (e :: es) t)
    (hbase : attributeBase o name X.env (eval o X.env) = eval o X.env := by rfl)
    (hfew : ((backTo cpos (starEach (e :: es) X.env)).all (fun x => !x.1) && (backToKw cpos (keywordEach [] X.env)).all (fun x => x.1.isSome)
      && decide ((e :: es).length + ([] : List Keyword).length + (if ([] : List Keyword).isEmpty then 0 else 1) < 30)) = true := by rfl)
    (hline : (apos.endLine == cpos.line) = true := by rfl) (hs : starEach (e :: es) X.env = (false, eval e X.env) :: starEach es X.env := by rfl) (hplain : (backTo cpos (starEach es X.env)).any (·.1) = false := by rfl) :
    PE X (.Call (.Attribute o name apos) (e :: es) [] cpos) (tBM X.K T r to t) := by
  intro pins s σ H Q I h
  refine wpAny_Call_method_late hbase hfew hline rfl (thn (ho pins s σ H _ I h) fun v s1 ⟨x, H1, I1, r1, ty, q1⟩ => ?_)
  obtain ⟨h1, h2⟩ := tyV_is I1 r1 ty
  refine ⟨T, id, pa, slot, hty, h1, h2, ?_⟩
  have hA := ha cpos pins s1 σ H1 _ I1 q1
  rw [hs] at hA ⊢
  refine Calls.callWith_builtin (by show (false || (backTo cpos (starEach es X.env)).any (·.1)) = false; rw [hplain] <;> rfl) (Calls.evalArgs_plain ?_)
  exact thn hA fun us s2 ⟨vs, H2, I2, r2, q2⟩ => hm pins s2 σ H2 x vs v us Q I2 r1 r2 q2
end
end L2
namespace L2
open PySem PySem.Spec PyProof.Rows
def MtM (X : Cx) (id : String) (r : V → List V → Hp → VK → Prop) : Prop :=
  ∀ (pins : List (Addr × Obj)) (s : Shared) (σ : St) (H : Hp) (x : V) (xs : List V) (v : Value) (us : List Value) (Q : VK), Inv X pins σ H s → RelV x v → Vals xs us → r x xs H Q →
    wpAny (model X.prog X.w) X.A (call (.builtin id) (v :: us)) (EP X pins σ Q) X.xe s
theorem Vals.one : ∀ {x : V} {us : List Value}, Vals [x] us → ∃ u, us = [u] ∧ RelV x u
  | _, _, .cons r .nil => ⟨_, rfl, r⟩
theorem Vals.two : ∀ {x y : V} {us : List Value}, Vals [x, y] us → ∃ u v, us = [u, v] ∧ RelV x u ∧ RelV y v
  | _, _, _, .cons r (.cons q .nil) => ⟨_, _, rfl, r, q⟩
theorem Vals.zero : ∀ {us : List Value}, Vals [] us → us = []
  | _, .nil => rfl
theorem Vals.reverse {xs : List V} {us : List Value} (h : Vals xs us) : Vals xs.reverse us.reverse := by
  induction h with
  | nil => exact .nil
  | cons r t ih => rw [List.reverse_cons, List.reverse_cons]; exact Vals.append ih (.cons r .nil)
section
variable {X : Cx} {pins : List (Addr × Obj)} {σ : St} {H : Hp} {s : Shared} {l b : Addr} {xs ys zs : List V}
theorem Inv.lset {its its' : List Value} {n : Nat} {f : Array Value → Array Value} {t' : Nat} (I : Inv X pins σ H s) (hH : H l = some (.lst xs))
    (e : s.heap.get? l = some { cls := .type "list", data := .seq its.toArray n }) (hf : f its.toArray = its'.toArray) (hv : Vals ys its') (hz : ys.length ≤ sizeLine) :
    Inv X pins σ (upd H l (.lst ys)) { s with heap := s.heap.update l (Obj.mapSeq f), toks := t' } := by
  have q := PySem.IsL.update e f
  rw [hf] at q
  refine I.write (x := l) (e := l) (by rw [hH]; exact trivial) (.inl rfl) (fun b' u hb hu => (Heap.get?_update_other s.heap (Obj.mapSeq f) (Ne.symm hb)).trans hu) ⟨_, q⟩ ?_
  exact ⟨hz, its', _, hv, q⟩
theorem Inv.lnew {its : List Value} {t' : Nat} (I : Inv X pins σ H s) (hv : Vals ys its) (hz : ys.length ≤ sizeLine) :
    Inv X pins σ (upd H s.heap.objs.size (.lst ys)) { s with heap := s.heap.push { cls := .type "list", data := .seq its.toArray }, toks := t' } :=
  I.laid (fun _ _ q => Heap.get?_push_of_some _ q) (Nat.le_refl _) ⟨hz, its, 0, hv, Heap.get?_push_size _ rfl⟩
theorem Inv.fresh (I : Inv X pins σ H s) : H s.heap.objs.size = none := I.hok.fresh (Nat.le_refl _)
theorem Inv.lstM (I : Inv X pins σ H s) (hH : H l = some (.lst xs)) : xs.length ≤ sizeLine ∧ ∃ (its : List Value) (n : Nat), Vals xs its ∧ xs.length = its.length ∧ s.heap.get? l = some { cls := .type "list", data := .seq its.toArray n } := by
  obtain ⟨z, its, n, r, e⟩ := I.hok l _ hH
  exact ⟨z, its, n, r, r.length, e⟩
theorem notLongL {n : Nat} (h : n ≤ sizeLine) : Builtin.List.listTooLong n = false := by
  unfold Builtin.List.listTooLong
  exact decide_eq_false (by omega)
end
section
variable {X : Cx}
def rAppend : V → List V → Hp → VK → Prop := fun x vs H Q => ∃ l xs y, x = .ref l ∧ vs = [y] ∧ H l = some (.lst xs) ∧ xs.length < sizeLine ∧ Q .non (upd H l (.lst (xs ++ [y])))
theorem mt_append : MtM X "list.append" rAppend := by
  intro pins s σ H x vs v us Q I rx rv h
  obtain ⟨l, xs, y, rfl, rfl, hH, hz, q⟩ := h
  cases rx
  obtain ⟨u, rfl, ru⟩ := rv.one
  obtain ⟨z, its, n, r, hl, e⟩ := I.lstM hH
  refine call_meets F.slot_list_append ⟨_, e, rfl⟩ F.entry_list_append (F.args_list_append_2 _ _) (PySem.list_append l its.toArray n u (by rw [List.size_toArray]; omega)) ⟨e, ?_⟩
  refine ⟨.non, _, I.lset (its' := its ++ [u]) hH e (by simp) (r.append (.cons ru .nil)) ?_, rfl, q⟩
  rw [List.length_append, List.length_singleton]
  omega
def rExtend : V → List V → Hp → VK → Prop := fun x vs H Q => ∃ l b xs zs, x = .ref l ∧ vs = [.ref b] ∧ H l = some (.lst xs) ∧ H b = some (.lst zs) ∧ xs.length + zs.length ≤ sizeLine ∧ Q .non (upd H l (.lst (xs ++ zs)))
theorem mt_extend : MtM X "list.extend" rExtend := by
  intro pins s σ H x vs v us Q I rx rv h
  obtain ⟨l, b, xs, zs, rfl, rfl, hH, hB, hz, q⟩ := h
  cases rx
  obtain ⟨u, rfl, ru⟩ := rv.one
  cases ru
  obtain ⟨z, its, n, r, hl, e⟩ := I.lstM hH
  obtain ⟨z2, its2, n2, r2, hl2, e2⟩ := I.lstM hB
  have hsz : its.toArray.size + its2.toArray.size ≤ sizeLine := by rw [List.size_toArray, List.size_toArray]; omega
  have hlong : ¬ (!its.toArray.isEmpty && Builtin.List.listTooLong (its.toArray.size + its2.toArray.size)) = true := by
    rw [notLongL hsz, Bool.and_false]
    exact Bool.false_ne_true
  refine call_meets F.slot_list_extend ⟨_, e, rfl⟩ F.entry_list_extend (F.args_list_extend_2 _ _)
    (AutoSeq1.list_extend_list_list_0 l its.toArray n b its2.toArray n2 hlong (by rw [List.size_toArray]; omega) (by omega)) ⟨e, e2, ?_⟩
  refine ⟨.non, _, I.lset (its' := its ++ its2) hH e (by simp) (r.append r2) ?_, rfl, q⟩
  rw [List.length_append]
  omega
def rCat : R2 := fun x y H Q => ∃ l b xs zs, x = .ref l ∧ y = .ref b ∧ H l = some (.lst xs) ∧ H b = some (.lst zs) ∧ xs.length + zs.length ≤ sizeLine ∧ ∀ p, H p = none → Q (.ref p) (upd H p (.lst (xs ++ zs)))
theorem op_cat : OpR X (binaryOp .Add) rCat := by
  intro pins s σ H x y v u Q I rx ry h
  obtain ⟨l, b, xs, zs, rfl, rfl, hH, hB, hz, q⟩ := h
  cases rx
  cases ry
  obtain ⟨z, its, n, r, hl, e⟩ := I.lstM hH
  obtain ⟨z2, its2, n2, r2, hl2, e2⟩ := I.lstM hB
  refine PySem.P.add_list e e2 ?_ (by rw [List.size_toArray, List.size_toArray]; omega)
  have ea : its.toArray ++ its2.toArray = (its ++ its2).toArray := by simp
  rw [ea]
  exact ⟨.ref _, _, I.lnew (t' := s.toks) (r.append r2) (by rw [List.length_append]; omega), rfl, q _ I.fresh⟩
end
section
variable {prog : Program} {w : World} {A : Around} {E : Value → Shared → Prop} {s : Shared}
end
section
variable {X : Cx}
end
end L2
namespace L2
open PySem PySem.Spec PyProof.Rows
theorem Vals.ints : ∀ {ns : List Int} {us : List Value}, Vals (ns.map V.int) us → IntsAre us ns
  | [], us, h => by
    rw [List.map_nil] at h
    cases h
    exact IntsAre.nil
  | n :: ns, us, h => by
    rw [List.map_cons] at h
    cases h with
    | cons r t =>
      obtain ⟨k, rfl⟩ := r
      exact IntsAre.cons n k (Vals.ints t)
theorem vals_of_ints : ∀ {us : List Value} {ns : List Int}, IntsAre us ns → Vals (ns.map V.int) us
  | _, _, .nil => by rw [List.map_nil]; exact Paired.nil
  | _, _, .cons n t h => by rw [List.map_cons]; exact Paired.cons (show RelV (V.int n) (Value.int n t) from ⟨t, rfl⟩) (vals_of_ints h)
theorem Vals.strs : ∀ {xs : List Str} {us : List Value}, Vals (xs.map V.str) us → StrsAre us xs
  | [], us, h => by
    rw [List.map_nil] at h
    cases h
    exact StrsAre.nil
  | x :: xs, us, h => by
    rw [List.map_cons] at h
    cases h with
    | cons r t =>
      obtain ⟨k, rfl⟩ := r
      exact StrsAre.cons x k (Vals.strs t)
theorem Vals.bls : ∀ {bs : List Bool} {us : List Value}, Vals (bs.map V.bl) us → us = bs.map Value.bool
  | [], us, h => by
    rw [List.map_nil] at h
    cases h
    rfl
  | b :: bs, us, h => by
    rw [List.map_cons] at h
    cases h with
    | cons r t =>
      cases r
      rw [Vals.bls t, List.map_cons]
theorem Vals.ref1 {a : Addr} {us : List Value} (r : Vals [V.ref a] us) : us = [Value.ref a] := by
  cases r with
  | cons r t =>
    cases t
    cases r
    rfl
theorem Vals.int2 {i j : Int} {us : List Value} (r : Vals [V.int i, V.int j] us) : ∃ t u, us = [Value.int i t, Value.int j u] := by
  cases r with
  | cons r t =>
    cases t with
    | cons r2 t2 =>
      cases t2
      obtain ⟨t, rfl⟩ := r
      obtain ⟨u, rfl⟩ := r2
      exact ⟨t, u, rfl⟩
section
variable {prog : Program} {w : World} {A : Around} {E : Value → Shared → Prop} {s : Shared} {l : Addr} {its : List Value} {ns : List Int} {Q : Value → Shared → Prop}
theorem sum_raw (hh : A.handled = none) (hl : s.heap.IsList l its.toArray) (hi : IntsAre its ns)
    (h : ∀ h' tk t', (∀ b o, s.heap.get? b = some o → h'.get? b = some o) → Q (.int ns.sum t') { s with heap := h', toks := tk }) : wpAny (model prog w) A (call (.builtin "sum") [.ref l]) Q E s := by
  obtain ⟨xs, e⟩ := hi.allInts.items
  have hn : numsOf (intItems xs).toList = ns := by rw [← e]; exact hi.numsOf
  rw [nums_intItems] at hn
  rw [e] at hl
  refine PySem.sum_intListG hh hl fun h' tk t' hk => ?_
  have := h h' tk t' hk
  rw [preSum_eq, List.take_of_length_le (by simp), hn]; exact this
theorem max_raw (hh : A.handled = none) (hl : s.heap.IsList l its.toArray) (hi : IntsAre its ns) (hne : 0 < ns.length)
    (h : ∀ h' tk M t', (∀ b o, s.heap.get? b = some o → h'.get? b = some o) → M ∈ ns → (∀ a, a ∈ ns → a ≤ M) → Q (.int M t') { s with heap := h', toks := tk }) : wpAny (model prog w) A (call (.builtin "max") [.ref l]) Q E s := by
  obtain ⟨xs, e⟩ := hi.allInts.items
  have hn : numsOf (intItems xs).toList = ns := by rw [← e]; exact hi.numsOf
  rw [nums_intItems] at hn
  subst hn
  rw [e] at hl
  have hsz : 0 < xs.size := by simpa using hne
  refine PySem.max_intList hh hl hsz fun v h' tk hv hk => ?_
  obtain ⟨t, rfl⟩ := intItems_at hv
  obtain ⟨h1, h2⟩ := argBest_gt (numAt xs) (xs.size - 1)
  refine h h' tk _ t hk ?_ fun a ha => ?_
  · rw [numAt_eq]; exact PySem.getD_mem (by rw [List.length_map, Array.length_toList]; omega)
  · obtain ⟨j, hj, rfl⟩ := mem_getD ha
    rw [List.length_map, Array.length_toList] at hj
    rw [← numAt_eq]; exact h2 j (by omega)
theorem min_raw (hh : A.handled = none) (hl : s.heap.IsList l its.toArray) (hi : IntsAre its ns) (hne : 0 < ns.length)
    (h : ∀ h' tk M t', (∀ b o, s.heap.get? b = some o → h'.get? b = some o) → M ∈ ns → (∀ a, a ∈ ns → M ≤ a) → Q (.int M t') { s with heap := h', toks := tk }) : wpAny (model prog w) A (call (.builtin "min") [.ref l]) Q E s := by
  obtain ⟨xs, e⟩ := hi.allInts.items
  have hn : numsOf (intItems xs).toList = ns := by rw [← e]; exact hi.numsOf
  rw [nums_intItems] at hn
  subst hn
  rw [e] at hl
  have hsz : 0 < xs.size := by simpa using hne
  refine PySem.min_intList hh hl hsz fun v h' tk hv hk => ?_
  obtain ⟨t, rfl⟩ := intItems_at hv
  obtain ⟨h1, h2⟩ := argBest_lt (numAt xs) (xs.size - 1)
  refine h h' tk _ t hk ?_ fun a ha => ?_
  · rw [numAt_eq]; exact PySem.getD_mem (by rw [List.length_map, Array.length_toList]; omega)
  · obtain ⟨j, hj, rfl⟩ := mem_getD ha
    rw [List.length_map, Array.length_toList] at hj
    rw [← numAt_eq]; exact h2 j (by omega)
end
section
variable {X : Cx}
def rSum (K : PySem.W.Frag) : List V → Hp → VK → Prop := fun vs H Q => ∃ (a : Addr) (ns : List Int), vs = [V.ref a] ∧ SqL K H a (ns.map V.int) ∧ Q (.int ns.sum) H
def rMax (K : PySem.W.Frag) : List V → Hp → VK → Prop := fun vs H Q => ∃ (a : Addr) (ns : List Int), vs = [V.ref a] ∧ SqL K H a (ns.map V.int) ∧ 0 < ns.length ∧ ∀ m, m ∈ ns → (∀ y, y ∈ ns → y ≤ m) → Q (.int m) H
def rMin (K : PySem.W.Frag) : List V → Hp → VK → Prop := fun vs H Q => ∃ (a : Addr) (ns : List Int), vs = [V.ref a] ∧ SqL K H a (ns.map V.int) ∧ 0 < ns.length ∧ ∀ m, m ∈ ns → (∀ y, y ∈ ns → m ≤ y) → Q (.int m) H
theorem cr_sum (hc : X.calm = true) : CallR X (.builtin "sum") (rSum X.K) := by
  intro pins s σ H vs us Q I r h
  obtain ⟨a, ns, rfl, hs, q⟩ := h
  obtain ⟨its, rv, hl, _⟩ := I.list hs
  rw [Vals.ref1 r]
  exact sum_raw (I.ok.hd hc) hl.isList rv.ints fun h' tk t' hk => ⟨.int _, H, I.kept hk, ⟨_, rfl⟩, q⟩
theorem cr_max (hc : X.calm = true) : CallR X (.builtin "max") (rMax X.K) := by
  intro pins s σ H vs us Q I r h
  obtain ⟨a, ns, rfl, hs, hne, q⟩ := h
  obtain ⟨its, rv, hl, _⟩ := I.list hs
  rw [Vals.ref1 r]
  exact max_raw (I.ok.hd hc) hl.isList rv.ints hne fun h' tk m t' hk h1 h2 => ⟨.int _, H, I.kept hk, ⟨_, rfl⟩, q m h1 h2⟩
theorem cr_min (hc : X.calm = true) : CallR X (.builtin "min") (rMin X.K) := by
  intro pins s σ H vs us Q I r h
  obtain ⟨a, ns, rfl, hs, hne, q⟩ := h
  obtain ⟨its, rv, hl, _⟩ := I.list hs
  rw [Vals.ref1 r]
  exact min_raw (I.ok.hd hc) hl.isList rv.ints hne fun h' tk m t' hk h1 h2 => ⟨.int _, H, I.kept hk, ⟨_, rfl⟩, q m h1 h2⟩
theorem small64 {n : Nat} (h : n < 64) : n ≤ sizeLine := by rw [sizeLine_eq]; omega
end
section
variable {X : Cx}
end
section
variable {X : Cx}
end
theorem iter_any {prog : Program} {w : World} {A : Around} {E : Value → Shared → Prop} {s : Shared} {l : Addr} {items : Array Value} {Q : Value → Shared → Prop} (hl : s.heap.IsList l items)
    (h : ∀ s₂ : Shared, s₂ = { s with heap := s.heap.push { cls := .type "list_iterator", data := .fields #[.ref l, .int 0 0] } } →
      (s₂.heap.IsListIter s.heap.objs.size l 0 ∧ s₂.heap.IsList l items) → l ≠ s.heap.objs.size → Q (.ref s.heap.objs.size) s₂) : wpAny (model prog w) A (pyIter (.ref l)) Q E s := by
  have hlt : l < s.heap.objs.size := by obtain ⟨_, e, _⟩ := hl; exact Heap.lt_size e
  exact wpAny_pyIter_list hl (h _ rfl ⟨⟨_, Heap.get?_push_size _ rfl, rfl, rfl⟩, hl.push _⟩ (Nat.ne_of_lt hlt))
theorem truth_bools {prog : Program} {w : World} {A : Around} {bs : List Bool} {its : List Value} (e : its = bs.map Value.bool) :
    TruthOf prog w A (fun i v => its.toArray[i]? = some v) (fun i => bs.getD i false) := fun i v s Q E hv hq => by
  have hv' : its[i]? = some v := by simpa using hv
  rw [e, List.getElem?_map] at hv'
  obtain ⟨b, hb, rfl⟩ := Option.map_eq_some_iff.mp hv'
  have hg : bs.getD i false = b := by rw [List.getD_eq_getElem?_getD, hb] <;> rfl
  have hq' : Q (bs.getD i false) s := hq
  rw [hg] at hq'
  exact wpAny_truthy_bool hq'
theorem any_range : ∀ bs : List Bool, (List.range bs.length).any (fun i => bs.getD i false) = bs.any id
  | [] => rfl
  | b :: bs => by
    rw [List.length_cons, List.range_succ_eq_map, List.any_cons, List.any_map, List.any_cons, ← any_range bs]
    all_goals rfl
theorem all_range : ∀ bs : List Bool, (List.range bs.length).all (fun i => bs.getD i false) = bs.all id
  | [] => rfl
  | b :: bs => by
    rw [List.length_cons, List.range_succ_eq_map, List.all_cons, List.all_map, List.all_cons, ← all_range bs]
    all_goals rfl
section
variable {X : Cx}
def rAll (K : PySem.W.Frag) : List V → Hp → VK → Prop := fun vs H Q => ∃ (a : Addr) (bs : List Bool), vs = [V.ref a] ∧ SqL K H a (bs.map V.bl) ∧ Q (.bl (bs.all id)) H
theorem cr_all (hc : X.calm = true) : CallR X (.builtin "all") (rAll X.K) := by
  intro pins s σ H vs us Q I r h
  obtain ⟨a, bs, rfl, hs, q⟩ := h
  obtain ⟨its, rv, hl, _⟩ := I.list hs
  rw [Vals.ref1 r]
  have hb := rv.bls
  refine call_all_walk (iter_any hl.isList fun s₂ e2 st hne => ?_)
  subst e2
  refine ⟨_, _, _, _, _, _, _, rfl, Walks.list (A := X.A.in1) (I.ok.hd hc) _ a hne its.toArray, st, truth_bools hb, fun h' tk hk => ?_⟩
  refine ⟨.bl _, H, I.kept fun b o eo => hk b o (fun hmem => ?_) (Heap.get?_push_of_some _ eo), ?_, q⟩
  · rcases List.mem_cons.mp hmem with e1 | hmem
    · exact absurd (e1 ▸ Heap.lt_size eo) (Nat.lt_irrefl _)
    · cases hmem
  · show Value.bool _ = Value.bool _
    rw [← all_range, hb, List.size_toArray, List.length_map]
end
mutual
inductive Dp (K : PySem.W.Frag) (H : Hp) : V → PyData → Prop
  | non : Dp K H .non .none
  | bl (b : Bool) : Dp K H (.bl b) (.bool b)
  | int (i : Int) : Dp K H (.int i) (.int i)
  | str (x : Str) : Dp K H (.str x) (.str x)
  | lst {a : Addr} {xs : List V} {ds : List PyData} : SqL K H a xs → DpAll K H xs ds → Dp K H (.ref a) (.list ds)
  | tup {a : Addr} {xs : List V} {ds : List PyData} : SqT K H a xs → DpAll K H xs ds → Dp K H (.ref a) (.tuple ds)
inductive DpAll (K : PySem.W.Frag) (H : Hp) : List V → List PyData → Prop
  | nil : DpAll K H [] []
  | cons {v : V} {vs : List V} {d : PyData} {ds : List PyData} : Dp K H v d → DpAll K H vs ds → DpAll K H (v :: vs) (d :: ds)
end
section
variable {X : Cx} {pins : List (Addr × Obj)} {σ : St} {H : Hp} {s : Shared}
mutual
theorem Dp.reads (I : Inv X pins σ H s) : ∀ (d : PyData) (v : V) (u : Value), Dp X.K H v d → RelV v u → ∃ as, Reads s.heap u d as
  | .none, _, _, h, r => by
    cases h
    cases r
    exact ⟨_, Reads.none⟩
  | .bool b, _, _, h, r => by
    cases h
    cases r
    exact ⟨_, Reads.bool b⟩
  | .int i, _, _, h, r => by
    cases h
    obtain ⟨t, rfl⟩ := r
    exact ⟨_, Reads.int i t⟩
  | .str x, _, _, h, r => by
    cases h
    obtain ⟨t, rfl⟩ := r
    exact ⟨_, Reads.str x t⟩
  | .list ds, _, _, h, r => by
    cases h with
    | lst hs ha =>
      cases r
      obtain ⟨its, rv, ⟨o, n, ho, hc, _, hd⟩, _⟩ := I.list hs
      obtain ⟨as, hr⟩ := Dp.readsAll I ds _ its ha rv
      exact ⟨_, Reads.list ho hc hd hr⟩
  | .tuple ds, _, _, h, r => by
    cases h with
    | tup hs ha =>
      cases r
      obtain ⟨its, rv, ⟨o, ho, hc, n, hd⟩, _⟩ := I.tuple hs
      obtain ⟨as, hr⟩ := Dp.readsAll I ds _ its ha rv
      exact ⟨_, Reads.tuple ho hc hd hr⟩
  | .dict _, _, _, h, _ => by cases h
theorem Dp.readsAll (I : Inv X pins σ H s) : ∀ (ds : List PyData) (vs : List V) (us : List Value), DpAll X.K H vs ds → Vals vs us → ∃ as, ReadsAll s.heap us ds as
  | [], _, _, h, r => by
    cases h
    cases r
    exact ⟨_, ReadsAll.nil⟩
  | d :: ds, _, _, h, r => by
    cases h with
    | cons h1 h2 =>
      cases r with
      | cons r1 r2 =>
        obtain ⟨as, q1⟩ := Dp.reads I d _ _ h1 r1
        obtain ⟨bs, q2⟩ := Dp.readsAll I ds _ _ h2 r2
        exact ⟨_, ReadsAll.cons q1 q2⟩
end
end
section
variable {X : Cx}
def rEqD (K : PySem.W.Frag) : R2 := fun x y H Q => ∃ d e, Dp K H x d ∧ Dp K H y e ∧ SeqAt.shaped d = true ∧ SeqAt.shaped e = true ∧ Q (.bl (PyData.eqv d e)) H
theorem op_eqD (hu : X.A.units + 64 < cLine) : OpR X (compareOp .Eq) (rEqD X.K) := by
  intro pins s σ H x y v u Q I rx ry h
  obtain ⟨d, e, hd, he, sd, se, q⟩ := h
  obtain ⟨as, r1⟩ := Dp.reads I d x v hd rx
  obtain ⟨bs, r2⟩ := Dp.reads I e y u he ry
  exact SeqAt.compareEq_shaped r1 r2 sd se hu ⟨.bl _, H, I, rfl, q⟩
end
end L2
namespace L2
open PySem PySem.Spec PyProof.Rows
abbrev CellAt (h : Heap) (c : Addr) (v : Option Value) : Prop := h.IsCell c v
def relS (scope sc : Scope) : Scope :=
  { scope with names := scope.names.map fun (n, k) => if (k == .free && sc.kind == .function && sc.names.lookup n == some .cell) then (n, .cell) else (n, k) }
def cloFrom (cells : List (Str × Addr)) : List (Str × NameKind) → List (Str × Addr) → List (Str × Addr)
  | [], acc => acc
  | (n, k) :: r, acc => if k == .free then cloFrom cells r ((n, (cells.lookup n).getD 0) :: acc) else cloFrom cells r acc
theorem closure_loop (env : Env) (f : Str × NameKind → List (Str × Addr) → Sem (ForInStep (List (Str × Addr))))
    (hf : ∀ n k c, f (n, k) c = if k == .free then (do let a ← cellOf env n; pure (.yield ((n, a) :: c))) else pure (.yield c)) :
    ∀ (names : List (Str × NameKind)) (acc : List (Str × Addr)), (∀ y ∈ names, y.2 = .free → ∃ c, env.cells.lookup y.1 = some c) → forIn names acc f = pure (cloFrom env.cells names acc)
  | [], acc, _ => by rw [List.forIn_nil]; rfl
  | (n, k) :: r, acc, h => by
    rw [List.forIn_cons, hf]
    have ih := fun acc => closure_loop env f hf r acc fun y hy => h y (List.mem_cons_of_mem _ hy)
    unfold cloFrom
    by_cases hk : (k == NameKind.free) = true
    · rw [if_pos hk, if_pos hk]
      obtain ⟨c, hc⟩ := h (n, k) List.mem_cons_self (by simpa using hk)
      have e : cellOf env n = pure c := by unfold cellOf; rw [hc]
      rw [e]
      have e2 : (env.cells.lookup n).getD 0 = c := by rw [hc]; rfl
      rw [e2]
      exact ih _
    · rw [if_neg hk, if_neg hk]
      exact ih _
theorem closure_ok {scope : Scope} {env : Env} (h : ∀ y ∈ scope.names, y.2 = .free → ∃ c, env.cells.lookup y.1 = some c) : closureFor scope env = pure (cloFrom env.cells scope.names []) := by
  simp only [closureFor]
  rw [closure_loop env _ (fun n k c => rfl) scope.names [] h]
  rfl
theorem mem_lookup {α : Type} : ∀ {l : List (Str × α)} {n : Str} {c : α}, (n, c) ∈ l → ∃ c', l.lookup n = some c'
  | (k, v) :: r, n, c, h => by
    rw [List.lookup_cons]
    cases hb : n == k with
    | true => exact ⟨_, rfl⟩
    | false =>
      rcases List.mem_cons.mp h with e | h
      · cases e; simp at hb
      · exact mem_lookup h
theorem cloFrom_mem {cells : List (Str × Addr)} : ∀ {names : List (Str × NameKind)} {acc : List (Str × Addr)} {n : Str} {c : Addr}, (n, c) ∈ cloFrom cells names acc → (n, c) ∈ acc ∨ ((n, .free) ∈ names ∧ c = (cells.lookup n).getD 0)
  | [], _, _, _, h => .inl h
  | (m, k) :: r, acc, n, c, h => by
    unfold cloFrom at h
    split at h
    · rename_i hk
      have hk : k = .free := by simpa using hk
      rcases cloFrom_mem h with h | ⟨h1, h2⟩
      · rcases List.mem_cons.mp h with e | h
        · cases e; exact .inr ⟨hk ▸ List.mem_cons_self, rfl⟩
        · exact .inl h
      · exact .inr ⟨List.mem_cons_of_mem _ h1, h2⟩
    · rcases cloFrom_mem h with h | ⟨h1, h2⟩
      · exact .inl h
      · exact .inr ⟨List.mem_cons_of_mem _ h1, h2⟩
theorem cloFrom_acc {cells : List (Str × Addr)} : ∀ {names : List (Str × NameKind)} {acc : List (Str × Addr)} {p : Str × Addr}, p ∈ acc → p ∈ cloFrom cells names acc
  | [], _, _, h => h
  | (m, k) :: r, acc, p, h => by
    unfold cloFrom
    split
    · exact cloFrom_acc (List.mem_cons_of_mem _ h)
    · exact cloFrom_acc h
theorem cloFrom_has {cells : List (Str × Addr)} : ∀ {names : List (Str × NameKind)} {acc : List (Str × Addr)} {n : Str}, (n, .free) ∈ names → (n, (cells.lookup n).getD 0) ∈ cloFrom cells names acc
  | (m, k) :: r, acc, n, h => by
    unfold cloFrom
    rcases List.mem_cons.mp h with e | h
    · cases e
      exact cloFrom_acc List.mem_cons_self
    · split
      · exact cloFrom_has h
      · exact cloFrom_has h
theorem cells_mem : ∀ {names : List (Str × NameKind)} {h : Heap} {acc : List (Str × Addr)} {x : Str} {c : Addr}, (x, c) ∈ cellsFrom h.objs.size names acc →
    (x, c) ∈ acc ∨ ((x, .cell) ∈ names ∧ h.objs.size ≤ c ∧ CellAt (pushCells h names) c none)
  | [], _, _, _, _, h => .inl h
  | (n, k) :: r, h, acc, x, c, hm => by
    unfold cellsFrom at hm
    unfold pushCells
    split at hm
    · rename_i hk
      rw [if_pos hk]
      have hk : k = .cell := by simpa using hk
      rw [← Heap.size_push h { cls := .type "cell", data := .cell none }] at hm
      rcases cells_mem hm with hm | ⟨h1, h2, h3⟩
      · rcases List.mem_cons.mp hm with e | hm
        · cases e
          exact .inr ⟨hk ▸ List.mem_cons_self, Nat.le_refl _, _, pushCells_keeps r _ _ _ (Heap.get?_push_size _ rfl), rfl⟩
        · exact .inl hm
      · rw [Heap.size_push] at h2
        exact .inr ⟨List.mem_cons_of_mem _ h1, Nat.le_of_succ_le h2, h3⟩
    · rename_i hk
      rw [if_neg hk]
      rcases cells_mem hm with hm | ⟨h1, h2, h3⟩
      · exact .inl hm
      · exact .inr ⟨List.mem_cons_of_mem _ h1, h2, h3⟩
theorem cells_acc : ∀ {names : List (Str × NameKind)} {n : Nat} {acc : List (Str × Addr)} {p : Str × Addr}, p ∈ acc → p ∈ cellsFrom n names acc
  | [], _, _, _, h => h
  | (m, k) :: r, n, acc, p, h => by
    unfold cellsFrom
    split
    · exact cells_acc (List.mem_cons_of_mem _ h)
    · exact cells_acc h
theorem cells_has : ∀ {names : List (Str × NameKind)} {n : Nat} {acc : List (Str × Addr)} {x : Str}, (x, .cell) ∈ names → ∃ c, (x, c) ∈ cellsFrom n names acc
  | (m, k) :: r, n, acc, x, h => by
    unfold cellsFrom
    rcases List.mem_cons.mp h with e | h
    · cases e
      exact ⟨n, cells_acc List.mem_cons_self⟩
    · split
      · exact cells_has h
      · exact cells_has h
theorem cells_inj : ∀ {names : List (Str × NameKind)} {h : Heap} {acc : List (Str × Addr)} {x y : Str} {c : Addr}, (∀ p ∈ acc, p.2 < h.objs.size) → (∀ x y c, (x, c) ∈ acc → (y, c) ∈ acc → x = y) →
    (x, c) ∈ cellsFrom h.objs.size names acc → (y, c) ∈ cellsFrom h.objs.size names acc → x = y
  | [], _, _, _, _, _, _, hi, h1, h2 => hi _ _ _ h1 h2
  | (n, k) :: r, h, acc, x, y, c, hl, hi, h1, h2 => by
    unfold cellsFrom at h1 h2
    split at h1
    · rename_i hk
      rw [if_pos hk] at h2
      rw [← Heap.size_push h { cls := .type "cell", data := .cell none }] at h1 h2
      refine cells_inj (h := h.push _) (fun p hp => ?_) (fun x y c a b => ?_) h1 h2
      · rw [Heap.size_push]
        rcases List.mem_cons.mp hp with rfl | hp
        · exact Nat.lt_succ_self _
        · exact Nat.lt_succ_of_lt (hl p hp)
      · rcases List.mem_cons.mp a with e | a <;> rcases List.mem_cons.mp b with e' | b
        · cases e; cases e'; rfl
        · cases e; exact absurd (hl _ b) (Nat.lt_irrefl _)
        · cases e'; exact absurd (hl _ a) (Nat.lt_irrefl _)
        · exact hi _ _ _ a b
    · rename_i hk
      rw [if_neg hk] at h2
      exact cells_inj hl hi h1 h2
theorem newEnv_comp {M : Model} {A : Around} {E : Value → Shared → Prop} {s : Shared} {scope : Scope} {globals : Addr} {closure : List (Str × Addr)} {qual : Str} {func : Option Addr} {code : Value} {around : Env} {builtins : Addr} {Q : Env → Shared → Prop}
    (h : Q (newEnv scope s.heap.objs.size globals (cellsFrom (s.heap.objs.size + 1) scope.names closure) qual func code (some around) builtins)
      { s with heap := pushCells (s.heap.push { cls := .type "dict", data := .dict #[] }) scope.names }) :
    wpAny M A (newFunctionEnv scope globals closure [] qual func code (some around) builtins) Q E s := by
  simp only [newFunctionEnv, Option.isSome_some, if_true]
  refine wpAny_bind (wpAny_alloc ?_)
  refine wpAny_bind (wpAny_layCells _ (fun n k c => rfl) scope.names closure _ _ ?_)
  rw [show ({ s with heap := s.heap.push { cls := .type "dict", data := .dict #[] } } : Shared).heap.objs.size = s.heap.objs.size + 1 from Heap.size_push ..]
  rw [List.forIn_nil]
  exact wpAny_bind (wpAny_pure (wpAny_pure h))
theorem lookup_relS {sc : Scope} : ∀ {names : List (Str × NameKind)} {x : Str} {k : NameKind},
    (names.map fun (n, k) => if (k == NameKind.free && sc.kind == .function && sc.names.lookup n == some .cell) then (n, NameKind.cell) else (n, k)).lookup x = some k →
    ∃ k', names.lookup x = some k' ∧ (k = k' ∨ (k' = .free ∧ k = .cell))
  | [], _, _, h => by simp at h
  | (n, k₀) :: r, x, k, h => by
    have ih := @lookup_relS sc r x k
    have h' : List.lookup x ((if (k₀ == NameKind.free && sc.kind == .function && sc.names.lookup n == some .cell) = true then (n, NameKind.cell) else (n, k₀)) :: (r.map _)) = some k := h
    cases hx : x == n with
    | true =>
      simp only [List.lookup_cons, hx]
      by_cases hc : (k₀ == NameKind.free && sc.kind == .function && sc.names.lookup n == some .cell) = true
      · rw [if_pos hc] at h'
        simp only [List.lookup_cons, hx] at h'
        cases h'
        simp only [Bool.and_eq_true, beq_iff_eq] at hc
        exact ⟨k₀, rfl, .inr ⟨hc.1.1, rfl⟩⟩
      · rw [if_neg hc] at h'
        simp only [List.lookup_cons, hx] at h'
        cases h'
        exact ⟨_, rfl, .inl rfl⟩
    | false =>
      simp only [List.lookup_cons, hx]
      by_cases hc : (k₀ == NameKind.free && sc.kind == .function && sc.names.lookup n == some .cell) = true
      · rw [if_pos hc] at h'
        simp only [List.lookup_cons, hx] at h'
        exact ih h'
      · rw [if_neg hc] at h'
        simp only [List.lookup_cons, hx] at h'
        exact ih h'
structure BlkOk (N : List Str) (sc scope : Scope) (own : List (Str × Nat)) : Prop where
  kind : scope.kind = .function
  uniq : ∀ y ∈ scope.names, scope.names.lookup y.1 = some y.2
  ix : ∀ p ∈ own, N[p.2]? = some p.1
  free : ∀ y ∈ scope.names, y.2 = .free → sc.names.lookup y.1 = some .cell ∨ sc.names.lookup y.1 = some .free
  own : ∀ y ∈ scope.names, y.2 = .local ∨ y.2 = .cell → y.1 ∈ own.map (·.1) ∨ y.1 ∉ N
def wipe (σ : St) : List Nat → St
  | [] => σ
  | v :: vs => (wipe σ vs).set v none
theorem wipe_length (σ : St) : ∀ vs : List Nat, (wipe σ vs).length = σ.length
  | [] => rfl
  | v :: vs => by unfold wipe; rw [List.length_set, wipe_length σ vs]
theorem wipe_some {σ : St} {i : Nat} {x : V} : ∀ {vs : List Nat}, (wipe σ vs)[i]? = some (some x) → σ[i]? = some (some x) ∧ i ∉ vs
  | [], h => ⟨h, by simp⟩
  | v :: vs, h => by
    unfold wipe at h
    by_cases hi : v = i
    · subst hi
      by_cases hv : v < (wipe σ vs).length
      · rw [List.getElem?_set_self hv] at h; cases h
      · rw [List.getElem?_eq_none (by simpa using hv)] at h; cases h
    · rw [List.getElem?_set_ne hi] at h
      obtain ⟨h1, h2⟩ := wipe_some h
      exact ⟨h1, by simp only [List.mem_cons, not_or]; exact ⟨fun e => hi e.symm, h2⟩⟩
abbrev Cx.blk (X : Cx) (s : Shared) (H : Hp) (scope : Scope) (cenv : Env) (fp : List Addr) : Cx := { X with s_0 := s, H_0 := H, env := cenv, outer := X.stack, ex := fp, fn := fun x => scope.names.lookup x == some .cell, pn := [], xe := fun _ _ => False }
section
variable {X : Cx} {pins : List (Addr × Obj)} {σ : St} {H : Hp} {s : Shared}
theorem block_start {scope : Scope} {own : List (Str × Nat)} {fp : List Addr} (I : Inv X pins σ H s) (ok : BlkOk X.N X.env.scope scope own) (hN : X.N.Nodup) (hfp : ∀ b ∈ fp, FpOk X pins H b ∧ b < s.heap.objs.size) :
    Inv (X.blk s H scope (compEnvC scope (cellsFrom (s.heap.objs.size + 1) scope.names (cloFrom X.env.cells scope.names [])) s.heap.objs.size X.env) fp) [] (wipe σ (own.map (·.2))) H { s with heap := pushCells (s.heap.push { cls := .type "dict", data := .dict #[] }) scope.names } := by
  have hfree : ∀ y ∈ scope.names, y.2 = .free → ∃ c, X.env.cells.lookup y.1 = some c := fun y hy e => by
    rcases ok.free y hy e with k | k
    · exact I.ok.has _ (.inl k)
    · exact I.ok.has _ (.inr k)
  generalize hcenv : compEnvC scope (cellsFrom (s.heap.objs.size + 1) scope.names (cloFrom X.env.cells scope.names [])) s.heap.objs.size X.env = cenv
  have kp : ∀ b o, s.heap.get? b = some o → (pushCells (s.heap.push { cls := .type "dict", data := .dict #[] }) scope.names).get? b = some o := fun b o e => pushCells_keeps _ _ _ _ (Heap.get?_push_of_some _ e)
  have hL : cenv.locals = s.heap.objs.size := by rw [← hcenv]; rfl
  have hcl : cenv.cells = cellsFrom (s.heap.objs.size + 1) scope.names (cloFrom X.env.cells scope.names []) := by rw [← hcenv]; rfl
  have hsc : cenv.scope = relS scope X.env.scope := by rw [← hcenv]; rfl
  rw [← Heap.size_push s.heap { cls := .type "dict", data := .dict #[] }] at hcl
  have cm : ∀ {y c}, (y, c) ∈ cloFrom X.env.cells scope.names [] → X.env.cells.lookup y = some c ∧ c < s.heap.objs.size := fun {y c} hm => by
    rcases cloFrom_mem hm with hm | ⟨h1, rfl⟩
    · cases hm
    · obtain ⟨c, hc⟩ := hfree _ h1 rfl
      rw [hc]
      obtain ⟨w, z⟩ := I.cell _ _ hc
      exact ⟨rfl, z.lt⟩
  have mem : ∀ {y c}, cenv.cells.lookup y = some c → (X.env.cells.lookup y = some c ∧ c < s.heap.objs.size) ∨ (s.heap.objs.size + 1 ≤ c ∧ CellAt (pushCells (s.heap.push { cls := .type "dict", data := .dict #[] }) scope.names) c none) := fun {y c} e => by
    rw [hcl] at e
    rcases cells_mem (PySem.mem_of_lookup e) with hm | ⟨_, h2, h3⟩
    · exact .inl (cm hm)
    · rw [Heap.size_push] at h2; exact .inr ⟨h2, h3⟩
  have look : ∀ {y}, scope.names.lookup y = some .free → ∃ c, cenv.cells.lookup y = some c ∧ X.env.cells.lookup y = some c := fun {y} hl => by
    have hy : (y, NameKind.free) ∈ scope.names := PySem.mem_of_lookup hl
    obtain ⟨c', e'⟩ := mem_lookup (cells_acc (names := scope.names) (n := (s.heap.push { cls := .type "dict", data := .dict #[] }).objs.size) (cloFrom_has (cells := X.env.cells) (acc := []) hy))
    rw [← hcl] at e'
    refine ⟨c', e', ?_⟩
    rw [hcl] at e'
    rcases cells_mem (PySem.mem_of_lookup e') with hm | ⟨h1, _, _⟩
    · exact (cm hm).1
    · have := ok.uniq _ h1
      rw [hl] at this; cases this
  have okB : (X.blk s H scope cenv fp).Ok := by
    refine ⟨I.ok.mod, by show cenv.scope.kind = _; rw [hsc]; exact ok.kind, by show cenv.globals = _; rw [← hcenv]; exact I.ok.glob, by show cenv.builtins = _; rw [← hcenv]; exact I.ok.blt, by show s.heap.objs.size ≤ cenv.locals; rw [hL]; exact Nat.le_refl _,
      fun y z c e1 e2 => ?_, fun y hy => ?_, fun y c z e => ?_, I.ok.hd, I.ok.frames, .inl rfl, fun b hb => ⟨?_, fun y c e z => ?_⟩, I.bs, Nat.le_trans I.ok.bsz I.sz, fun b o e hb => ?_, fun b hb z => ?_, I.stack, I.stkFree⟩
    · have e1 : cenv.cells.lookup y = some c := e1
      have e2 : cenv.cells.lookup z = some c := e2
      rw [hcl] at e1 e2
      refine cells_inj (fun p hp => ?_) (fun y z c a b => I.ok.inj y z c (cm a).1 (cm b).1) (PySem.mem_of_lookup e1) (PySem.mem_of_lookup e2)
      rw [Heap.size_push]
      exact Nat.lt_succ_of_lt (cm (y := p.1) (c := p.2) hp).2
    · show ∃ c, cenv.cells.lookup y = some c
      have key : ∀ k, cenv.kindOf y = some k → (k = .cell ∨ k = .free) → ∃ c, cenv.cells.lookup y = some c := fun k hk hk' => by
        unfold Env.kindOf at hk
        rw [hsc] at hk
        obtain ⟨k', e, r⟩ := lookup_relS hk
        have : k' = .cell ∨ k' = .free := by
          rcases r with rfl | ⟨rfl, _⟩
          · exact hk'
          · exact .inr rfl
        rcases this with rfl | rfl
        · obtain ⟨c, hm⟩ := cells_has (n := (s.heap.push { cls := .type "dict", data := .dict #[] }).objs.size) (acc := cloFrom X.env.cells scope.names []) (PySem.mem_of_lookup e)
          obtain ⟨c', e'⟩ := mem_lookup hm
          exact ⟨c', by rw [hcl]; exact e'⟩
        · obtain ⟨c, h1, _⟩ := look e
          exact ⟨c, h1⟩
      rcases hy with hy | hy
      · exact key _ hy (.inl rfl)
      · exact key _ hy (.inr rfl)
    · have z : (scope.names.lookup y == some NameKind.cell) = true := z
      have z : scope.names.lookup y = some .cell := by simpa using z
      have e : cenv.cells.lookup y = some c := e
      rw [hcl] at e
      rcases cells_mem (PySem.mem_of_lookup e) with hm | ⟨_, h2, _⟩
      · rcases cloFrom_mem hm with hm | ⟨h1, _⟩
        · cases hm
        · have q := ok.uniq _ h1
          rw [z] at q; cases q
      · rw [Heap.size_push] at h2
        exact Nat.le_of_succ_le h2
    · show b ≠ cenv.locals
      rw [hL]; exact Nat.ne_of_lt (hfp b hb).2
    · have e : cenv.cells.lookup y = some c := e
      rcases mem e with ⟨h1, _⟩ | ⟨h1, _⟩
      · exact (hfp b hb).1.2.2.2.2.1 y c h1 z
      · have h2 : s.heap.objs.size + 1 ≤ b := by rw [← z]; exact h1
        exact absurd (Nat.lt_of_lt_of_le (hfp b hb).2 (Nat.le_of_succ_le h2)) (Nat.lt_irrefl _)
    · rcases (hfp b hb).1.2.2.2.1 with z | z
      · exact I.ok.noex b o e z
      · exact absurd (Nat.lt_of_lt_of_le (Heap.lt_size e) (Nat.le_trans I.ok.bsz z)) (Nat.lt_irrefl _)
    · rcases List.mem_cons.mp (I.stkSub b z) with z | z
      · exact (hfp b hb).1.2.1 z
      · exact (hfp b hb).1.2.2.1 z
  refine ⟨okB, rfl, I.bare, Un.kept kp, ⟨fun _ => none, ?_, fun i y av e1 e2 e3 => ?_⟩, fun y c e => ?_, ?_, fun y c e => ?_, fun p hp => ?_, I.hok.kept kp, by rw [wipe_length]; exact I.len⟩
  · show Heap.Ns _ cenv.locals _
    rw [hL]
    exact Heap.Ns.keeps (Heap.Ns.new ..) fun b o e => pushCells_keeps _ _ _ _ e
  · obtain ⟨e2, hne⟩ := wipe_some e2
    have hfr : scope.names.lookup y = some .free ∧ (cenv.kindOf y = some .cell ∨ cenv.kindOf y = some .free) := by
      have key : ∀ k, cenv.scope.names.lookup y = some k → k = .local ∨ k = .cell ∨ k = .free → scope.names.lookup y = some .free ∧ (cenv.kindOf y = some .cell ∨ cenv.kindOf y = some .free) := fun k hk hk' => by
        have hk0 := hk
        rw [hsc] at hk
        obtain ⟨k', e, r⟩ := lookup_relS hk
        have no : ¬ (k' = .local ∨ k' = .cell) := fun hh => by
          rcases ok.own _ (PySem.mem_of_lookup e) hh with e' | e'
          · obtain ⟨p, hp, hpy⟩ := List.mem_map.mp e'
            have e3 := ok.ix p hp
            have : p.1 = y := hpy
            rw [this] at e3
            exact hne (List.mem_map.mpr ⟨p, hp, nodup_ix hN e3 e1⟩)
          · exact e' (List.mem_of_getElem? e1)
        rcases r with rfl | ⟨rfl, rfl⟩
        · rcases hk' with rfl | rfl | rfl
          · exact absurd (.inl rfl) no
          · exact absurd (.inr rfl) no
          · exact ⟨e, .inr hk0⟩
        · exact ⟨e, .inl hk0⟩
      have e3 : Vis cenv.scope y := e3
      rcases e3 with e3 | e3 | e3
      · exact key _ e3 (.inl rfl)
      · exact key _ e3 (.inr (.inl rfl))
      · exact key _ e3 (.inr (.inr rfl))
    obtain ⟨m, hn, hl⟩ := I.loc
    have hvis : Vis X.env.scope y := (ok.free _ (PySem.mem_of_lookup hfr.1) rfl).elim (fun k => .inr (.inl k)) (fun k => .inr (.inr k))
    obtain ⟨w, r, q⟩ := hl i y av e1 e2 hvis
    refine ⟨w, r, .inr ⟨hfr.2, ?_⟩⟩
    obtain ⟨c, h1, h2⟩ := look hfr.1
    rcases q with ⟨k, _⟩ | ⟨_, c', e', z⟩
    · have k : X.env.scope.names.lookup y = some .local := k
      rcases ok.free _ (PySem.mem_of_lookup hfr.1) rfl with k' | k' <;> rw [show X.env.scope.names.lookup y = _ from k'] at k <;> cases k
    · rw [h2] at e'; cases e'
      exact ⟨c, h1, z.keeps kp⟩
  · have e : cenv.cells.lookup y = some c := e
    rcases mem e with ⟨h1, _⟩ | ⟨_, z⟩
    · obtain ⟨w, z⟩ := I.cell y c h1
      exact ⟨w, z.keeps kp⟩
    · exact ⟨_, z⟩
  · show H cenv.locals = none
    rw [hL]; exact I.hok.fresh (Nat.le_refl _)
  · have e : cenv.cells.lookup y = some c := e
    rcases mem e with ⟨h1, _⟩ | ⟨h1, _⟩
    · exact I.freeC y c h1
    · exact I.hok.fresh (Nat.le_of_succ_le h1)
  · exact absurd (show p ∈ ([] : List (Addr × Obj)) ++ [] from hp) (by simp)
theorem app_ok {E : Value → Shared → Prop} {D : Addr} {xs : List V} {y : V} {v : Value} {Q : Value → Shared → Prop} (I : Inv X pins σ H s) (hD : H D = some (.lst xs)) (hz : xs.length < sizeLine) (r : RelV y v)
    (h : ∀ s', Inv X pins σ (upd H D (.lst (xs ++ [y]))) s' → Q .none s') : wpAny (model X.prog X.w) X.A (call (.builtin "list.append") [.ref D, v]) Q E s := by
  obtain ⟨hz', its, n, ri, e⟩ := I.hok D _ hD
  have hl := ri.length
  refine append_at (hsz := by rw [List.size_toArray]; omega) e fun h' sb ho' => ?_
  refine h { s with heap := h' } (I.write (t' := s.toks) (by rw [hD]; trivial) (.inl rfl) (fun b u hb q => (sb.2 b hb).trans q) ⟨_, ho'⟩ ⟨by rw [List.length_append]; exact hz, its ++ [v], n + 1, ri.append (.cons r .nil), ?_⟩)
  rw [ho']
  simp
def PTs (X : Cx) (ifs : List Expr) (t : TT) : Prop :=
  ∀ (pins : List (Addr × Obj)) (s : Shared) (σ : St) (H : Hp) (Q : Bool → Hp → Prop), Inv X pins σ H s → t σ H Q →
    wpAny (model X.prog X.w) X.A (forIn ifs true fun c r => if r = true then do let ok ← isTrue c X.env (eval c X.env); pure (ForInStep.yield ok) else pure (ForInStep.yield r)) (TP X pins σ Q) X.xe s
def tYes : TT := fun _ H Q => Q true H
theorem pts_nil : PTs X [] tYes := fun _ _ _ H _ I h => wpAny_tests_nil ⟨H, I, h⟩
theorem pts_one {c : Expr} {t : TT} (h : PT X c t) : PTs X [c] t := fun pins s σ H Q I hw => wpAny_tests_one (h pins s σ H Q I hw)
end
theorem thnF {α : Type} {t : Sem α} {Q Q' : α → Shared → Prop} {M : Model} {A : Around} {E : Value → Shared → Prop} {s : Shared} (h : wpAny M A t Q (fun _ _ => False) s) (hQ : ∀ a s, Q a s → Q' a s) : wpAny M A t Q' E s := wpAny_mono h hQ fun _ _ z => False.elim z
theorem compLoop_any {prog : Program} {w : World} {A : Around} {R : Result → Shared → Prop} {s : Shared} {elt target iter : Expr} {ifs : List Expr} {scope : Scope} {pos : Pos} {it acc : Value} {env : Env} (I : Nat → Shared → Prop)
    (turn : ∀ n s, I n s → wpAny (model prog w) A (pyNext it) (fun r s₁ => match r with
      | none => R (.ok .next) s₁
      | some v => wpAny (model prog w) A (letOwnedTupleGo target it v) (fun _ s₁' => wpAny (model prog w) A (assign target env v) (fun _ s₂ =>
          wpAny (model prog w) A (forIn ifs true fun c r => if r = true then do let ok ← isTrue c env (eval c env); pure (ForInStep.yield ok) else pure (ForInStep.yield r)) (fun ok s₃ =>
            if ok = true then wpAny (model prog w) A (eval elt env) (fun x s₄ =>
              wpAny (model prog w) A (call (.builtin "list.append") [acc, x]) (fun _ s₅ => ∃ m, m < n ∧ I m s₅) (notedBy (model prog w) A env fun e s' => R (.error e) s') s₄) (notedBy (model prog w) A env fun e s' => R (.error e) s') s₃
            else ∃ m, m < n ∧ I m s₃) (notedBy (model prog w) A env fun e s' => R (.error e) s') s₂) (notedBy (model prog w) A env fun e s' => R (.error e) s') s₁') (notedBy (model prog w) A env fun e s' => R (.error e) s') s₁) (notedBy (model prog w) A env fun e s' => R (.error e) s') s)
    (n : Nat) (h : I n s) :
    codeAny (model prog w) A (.compLoop (.ListComp elt [⟨target, iter, ifs, 0⟩] scope pos) 0 it acc env) R s := by
  refine codeAny_loop rfl I (fun n s hI => ?_) n h
  show wpAny _ A ((compTurn (.ListComp elt [⟨target, iter, ifs, 0⟩] scope pos) 0 it acc env).onRaise (fun x => do noteFrame x env; theTreesLotGoes x)) _ _ s
  refine wpAny_noted ?_
  rw [compTurn_list]
  refine wpAny_bind (wpAny_standAt (wpAny_bind (wpAny_mono (turn n s hI) (fun r s₁ h₁ => ?_) fun _ _ h' => h')))
  cases r with
  | none => exact wpAny_pure h₁
  | some v =>
    refine wpAny_bind (wpAny_mono h₁ (fun _ s₁' h₁' => ?_) fun _ _ h' => h')
    refine wpAny_bind (wpAny_mono h₁' (fun _ s₂ h₂ => wpAny_bind (wpAny_mono h₂ (fun ok s₃ h₃ => ?_) fun _ _ h' => h')) fun _ _ h' => h')
    cases ok with
    | false => exact wpAny_pure ⟨rfl, h₃⟩
    | true =>
      exact wpAny_bind (wpAny_bind (wpAny_mono h₃ (fun x s₄ h₄ => wpAny_bind (wpAny_mono h₄ (fun _ s₅ h₅ => wpAny_pure (wpAny_pure ⟨rfl, h₅⟩)) fun _ _ h' => h')) fun _ _ h' => h'))
section
variable {X : Cx}
def tLc (wi : TI) (g : TG) (tt : TT) (te : TE) (vs : List Nat) : TE := fun σ H Q => wi σ H fun J H1 => ∀ D, H1 D = none → ∃ W : Nat → Nat → Hp → Prop, (∃ m, W 0 m (upd H1 D (.lst []))) ∧ ∀ i m H, W i m H →
  (J.stop i H ∧ Q (.ref D) H) ∨ (J.go i H ∧ ∃ Nx : Hp → Prop, (∀ H', Nx H' → ∃ m', m' < m ∧ W (i + 1) m' H') ∧ ∀ x H', J.yld i H x H' → g x (wipe σ vs) H' fun σ2 H2 => wipe σ2 vs = wipe σ vs ∧ tt σ2 H2 fun b H3 =>
    if b = true then te σ2 H3 fun y H4 => ∃ acc, H4 D = some (.lst acc) ∧ acc.length < sizeLine ∧ Nx (upd H4 D (.lst (acc ++ [y]))) else Nx H3)
theorem lc_core {pins : List (Addr × Obj)} {s : Shared} {σ : St} {H : Hp} {Q : VK} {elt tg iter : Expr} {ifs : List Expr} {scope : Scope} {own : List (Str × Nat)} {pos pos' : Pos} {wi : TI} {g : TG} {tt : TT} {te : TE} {use : Option (Value → Sem Unit)} {Qf : Value → Shared → Prop}
    (hc : X.calm = true) (hN : X.N.Nodup) (I : Inv X pins σ H s) (hi : PI X tg iter wi) (ok : BlkOk X.N X.env.scope scope own)
    (hg : ∀ (s : Shared) (H : Hp) (C : Addr) (cl : List (Str × Addr)) (fp : List Addr), PG (X.blk s H scope (compEnvC scope cl C X.env) fp) tg g) (ht : ∀ (s : Shared) (H : Hp) (C : Addr) (cl : List (Str × Addr)) (fp : List Addr), PTs (X.blk s H scope (compEnvC scope cl C X.env) fp) ifs tt)
    (he : ∀ (s : Shared) (H : Hp) (C : Addr) (cl : List (Str × Addr)) (fp : List Addr), PE (X.blk s H scope (compEnvC scope cl C X.env) fp) elt te) (hs : ∀ x, foldedSetIterable iter X.env x = pure x)
    (h : tLc wi g tt te (own.map (·.2)) σ H Q)
    (hRR : ∀ D C s' m H', Inv X pins σ H' s' → Q (.ref D) H' → s'.heap.Ns C m → FpOk X pins H' C → compPost (model X.prog X.w) X.A X.xe use Qf (.ref D) C (.ok .next) s') :
    wpAny (model X.prog X.w) X.A (comprehension (.ListComp elt [⟨tg, iter, ifs, 0⟩] scope pos) scope X.env pos' (newList []) false (eval iter X.env) use) Qf X.xe s := by
  have hfree : ∀ y ∈ scope.names, y.2 = .free → ∃ c, X.env.cells.lookup y.1 = some c := fun y hy e => by
    rcases ok.free y hy e with k | k
    · exact I.ok.has _ (.inl k)
    · exact I.ok.has _ (.inr k)
  refine wpAny_comprehension_free (use := use) rfl hs (closure_ok hfree) ok.kind (fun y hy e => by rw [ok.uniq y hy, e])
    (thn (hi pins s σ H _ I h) fun xv s1 hx => thn hx fun itv s2 h2 => ?_)
  obtain ⟨it, fp, tn, J, H2, e, I2, T, st2, f2, q⟩ := h2
  subst e
  refine wpAny_newObj_type (newEnv_comp ?_) (by show 0 ≤ sizeLine; decide)
  generalize hD : s2.heap.objs.size = D
  have hDn : H2 D = none := I2.hok.fresh (Nat.le_of_eq hD)
  obtain ⟨W, ⟨m0, w0⟩, turn⟩ := q D hDn
  generalize hs3 : ({ s2 with heap := s2.heap.push { cls := .type "list", data := .seq ([] : List Value).toArray } } : Shared) = s3
  have I3 : Inv X pins σ (upd H2 D (.lst [])) s3 := by
    rw [← hs3]
    refine I2.laid (t' := s2.toks) (fun b o e => Heap.get?_push_of_some _ e) (Nat.le_of_eq hD) ⟨Nat.zero_le _, [], 0, .nil, ?_⟩
    rw [← hD]
    exact Heap.get?_push_size _ rfl
  have h3 : s3.heap = s2.heap.push { cls := .type "list", data := .seq ([] : List Value).toArray } := by rw [← hs3]
  have sz : ∀ b ∈ fp, b < s2.heap.objs.size := fun b hb => by
    obtain ⟨o, e, _⟩ := T.obj _ _ st2 b hb
    exact Heap.lt_size e
  have f3 : ∀ b ∈ fp, FpOk X pins (upd H2 D (.lst [])) b ∧ b < s3.heap.objs.size := fun b hb => by
    have hlt := sz b hb
    refine ⟨⟨?_, (f2 b hb).2⟩, by rw [h3, Heap.size_push]; exact Nat.lt_succ_of_lt hlt⟩
    rw [upd_ne (by rw [← hD]; exact Nat.ne_of_lt hlt)]
    exact (f2 b hb).1
  have st3 : tn 0 s3.heap := T.keep _ _ _ st2 fun b _ o e => by rw [h3]; exact Heap.get?_push_of_some _ e
  have I4 := block_start I3 ok hN f3
  have pg := hg s3 (upd H2 D (.lst [])) s3.heap.objs.size (cellsFrom (s3.heap.objs.size + 1) scope.names (cloFrom X.env.cells scope.names [])) fp
  have pt := ht s3 (upd H2 D (.lst [])) s3.heap.objs.size (cellsFrom (s3.heap.objs.size + 1) scope.names (cloFrom X.env.cells scope.names [])) fp
  have pe := he s3 (upd H2 D (.lst [])) s3.heap.objs.size (cellsFrom (s3.heap.objs.size + 1) scope.names (cloFrom X.env.cells scope.names [])) fp
  show codeAny _ _ (.compStart (.ListComp elt [⟨tg, iter, ifs, 0⟩] scope pos) 0 (.ref it) (.ref D) (compEnvC scope (cellsFrom (s3.heap.objs.size + 1) scope.names (cloFrom X.env.cells scope.names [])) s3.heap.objs.size X.env)) (compPost (model X.prog X.w) X.A X.xe use Qf (.ref D) s3.heap.objs.size) { s3 with heap := pushCells (s3.heap.push { cls := .type "dict", data := .dict #[] }) scope.names }
  have nfp : ∀ b ∈ fp, (upd H2 D (.lst [])) b = none := fun b hb => (f3 b hb).1.1
  generalize hce : compEnvC scope (cellsFrom (s3.heap.objs.size + 1) scope.names (cloFrom X.env.cells scope.names [])) s3.heap.objs.size X.env = ce at I4 pg pt pe ⊢
  have cL : ce.locals = s3.heap.objs.size := by subst hce; rfl
  generalize hH3 : upd H2 D (.lst []) = H3 at I3 I4 pg pt pe w0 nfp f3
  generalize hs4 : ({ s3 with heap := pushCells (s3.heap.push { cls := .type "dict", data := .dict #[] }) scope.names } : Shared) = s4 at I4 ⊢
  have st4 : tn 0 s4.heap := T.keep _ _ _ st3 fun b _ o e => by rw [← hs4]; exact pushCells_keeps _ _ _ _ (Heap.get?_push_of_some _ e)
  have stat : ∀ {σ' : St} {H' : Hp} {s' : Shared}, Inv (X.blk s3 H3 scope ce fp) [] σ' H' s' → (∀ b ∈ fp, H' b = none) → ∀ b ∈ fp, FpOk (X.blk s3 H3 scope ce fp) [] H' b := fun {σ' H' s'} I' hn b hb =>
    ⟨hn b hb, (I'.ok.exf b hb).1, I'.ok.exfs b hb, .inl hb, fun x c e => (I'.ok.exf b hb).2 x c e, fun p hp => absurd (show p ∈ ([] : List (Addr × Obj)) ++ [] from hp) (by simp)⟩
  have loop : codeAny (model X.prog X.w) X.A (.compLoop (.ListComp elt [⟨tg, iter, ifs, 0⟩] scope pos) 0 (.ref it) (.ref D) ce) (compPost (model X.prog X.w) X.A X.xe use Qf (.ref D) s3.heap.objs.size) s4 := by
    refine compLoop_any (fun n s' => ∃ i H', Inv (X.blk s3 H3 scope ce fp) [] (wipe σ (own.map (·.2))) H' s' ∧ tn i s'.heap ∧ (∀ b ∈ fp, H' b = none) ∧ W i n H') ?_ m0 ⟨0, H3, I4, st4, nfp, w0⟩
    rintro n s5 ⟨i, H5, I5, st5, n5, w5⟩
    rcases turn i n H5 w5 with ⟨stop, qq⟩ | ⟨go, Nx, hNx, step⟩
    · have td := T.done (X.blk s3 H3 scope ce fp) rfl rfl rfl hc i [] s5 _ H5 (fun _ _ => False) I5 (stat I5 n5) st5 stop
      refine thnF td fun r s6 ⟨hr, I6⟩ => ?_
      subst hr
      have I7 : Inv X pins σ H5 s6 := I3.call' (ch := fp) I6.os I6.base I6.hok I6.bare fun b hb => ⟨(f3 b hb).1.2.2.2.1, (f3 b hb).1.2.1, (f3 b hb).1.2.2.2.2.1, (f3 b hb).1.2.2.2.2.2⟩
      have nC : H5 s3.heap.objs.size = none := by
        have z : H5 ce.locals = none := I6.free
        rw [cL] at z
        exact z
      obtain ⟨m, hn, _⟩ := I6.loc
      have hn : s6.heap.Ns ce.locals m := hn
      rw [cL] at hn
      exact hRR D s3.heap.objs.size s6 m H5 I7 qq hn (I3.fpOk (Nat.le_refl _) nC)
    · have ti := T.item (X.blk s3 H3 scope ce fp) rfl rfl rfl hc i [] s5 _ H5 (fun _ _ => False) I5 (stat I5 n5) st5 go
      refine thnF ti fun r s6 ⟨u, hr, h6⟩ => ?_
      subst hr
      refine thnF h6 fun _ s7 ⟨x, H7, I7, r7, y7, st7, n7⟩ => ?_
      have I7' := I7.pinned (stat I7 n7) (T.obj _ _ st7)
      refine thnF (pg _ s7 _ H7 x u _ I7' r7 (step x H7 y7)) fun _ s8 ⟨σ8, H8, I8, hw8, q8⟩ => ?_
      refine thnF (pt _ s8 σ8 H8 _ I8 q8) fun b s9 ⟨H9, I9, q9⟩ => ?_
      have fin : ∀ {s' : Shared} {H' : Hp}, Inv (X.blk s3 H3 scope ce fp) ([] ++ pinsAt fp s7.heap) σ8 H' s' → Nx H' → ∃ m, m < n ∧ ∃ i H', Inv (X.blk s3 H3 scope ce fp) [] (wipe σ (own.map (·.2))) H' s' ∧ tn i s'.heap ∧ (∀ b ∈ fp, H' b = none) ∧ W i m H' := fun {s' H'} I' nx => by
        obtain ⟨m', hm, w'⟩ := hNx H' nx
        have pin' : ∀ b ∈ fp, ∀ o, s7.heap.get? b = some o → s'.heap.get? b = some o ∧ H' b = none := fun b hb o e =>
          let z := I'.pin (b, o) (List.mem_append_right _ (List.mem_append_right _ (mem_pinsAt hb e)))
          ⟨z.1, z.2.1⟩
        have hl : (wipe σ (own.map (·.2))).length = σ8.length := by rw [← hw8, wipe_length]
        refine ⟨m', hm, i + 1, H', (I'.unpinned (pins := [])).weak hl (fun j v e => ?_), T.keep _ _ _ st7 fun b hb o e => (pin' b hb o e).1, fun b hb => ?_, w'⟩
        · rw [← hw8] at e
          exact (wipe_some e).1
        · obtain ⟨o, e, _⟩ := T.obj _ _ st7 b hb
          exact (pin' b hb o e).2
      cases b with
      | false =>
        simp only [Bool.false_eq_true, if_false] at q9 ⊢
        exact fin I9 q9
      | true =>
        simp only [if_true] at q9 ⊢
        refine thnF (pe _ s9 σ8 H9 _ I9 q9) fun z s10 ⟨yv, H10, I10, r10, acc, hD10, hz10, nx⟩ => ?_
        exact app_ok (X := X.blk s3 H3 scope ce fp) I10 hD10 hz10 r10 fun s11 I11 => fin I11 nx
  exact codeAny_compStart_list loop (T.self X.A 0 _ _ _ st4 loop)
theorem pe_lc {elt tg iter : Expr} {ifs : List Expr} {scope : Scope} {own : List (Str × Nat)} {pos : Pos} {wi : TI} {g : TG} {tt : TT} {te : TE} (hc : X.calm = true) (hN : X.N.Nodup) (hi : PI X tg iter wi) (ok : BlkOk X.N X.env.scope scope own)
    (hg : ∀ (s : Shared) (H : Hp) (C : Addr) (cl : List (Str × Addr)) (fp : List Addr), PG (X.blk s H scope (compEnvC scope cl C X.env) fp) tg g) (ht : ∀ (s : Shared) (H : Hp) (C : Addr) (cl : List (Str × Addr)) (fp : List Addr), PTs (X.blk s H scope (compEnvC scope cl C X.env) fp) ifs tt)
    (he : ∀ (s : Shared) (H : Hp) (C : Addr) (cl : List (Str × Addr)) (fp : List Addr), PE (X.blk s H scope (compEnvC scope cl C X.env) fp) elt te) (hs : ∀ x, foldedSetIterable iter X.env x = pure x := by intro _; rfl) :
    PE X (.ListComp elt [⟨tg, iter, ifs, 0⟩] scope pos) (tLc wi g tt te (own.map (·.2))) := by
  intro pins s σ H Q I h
  rw [eval_ListComp]
  refine lc_core hc hN I hi ok hg ht he hs h fun D C s' m H' I' q hn f => ⟨m, hn, fun h'' sb => ?_⟩
  obtain ⟨f0, f1, f2, f3, f4, f5⟩ := f
  exact ⟨.ref D, H', I'.turned (t' := s'.toks) (fun b o hb e => (sb.2 b hb).trans e) f0 f1 f3 f4 f5, rfl, q⟩
theorem ps_setLc {i : Nat} {y : Str} {py : Pos} {elt tg iter : Expr} {ifs : List Expr} {scope : Scope} {own : List (Str × Nat)} {pos spos : Pos} {wi : TI} {g : TG} {tt : TT} {te : TE} (hc : X.calm = true) (hN : X.N.Nodup) (hy : X.N[i]? = some y) (hyl : X.env.scope.names.lookup y = some .local)
    (hsw : swapsWith (.ListComp elt [⟨tg, iter, ifs, 0⟩] scope pos) (some (.Name y py)) spos.line X.env = pure true) (hi : PI X tg iter wi) (ok : BlkOk X.N X.env.scope scope own)
    (hg : ∀ (s : Shared) (H : Hp) (C : Addr) (cl : List (Str × Addr)) (fp : List Addr), PG (X.blk s H scope (compEnvC scope cl C X.env) fp) tg g) (ht : ∀ (s : Shared) (H : Hp) (C : Addr) (cl : List (Str × Addr)) (fp : List Addr), PTs (X.blk s H scope (compEnvC scope cl C X.env) fp) ifs tt)
    (he : ∀ (s : Shared) (H : Hp) (C : Addr) (cl : List (Str × Addr)) (fp : List Addr), PE (X.blk s H scope (compEnvC scope cl C X.env) fp) elt te) (hs : ∀ x, foldedSetIterable iter X.env x = pure x := by intro _; rfl) :
    PS X (.Assign [.Name y py] (.ListComp elt [⟨tg, iter, ifs, 0⟩] scope pos) spos) (tAsg (tLc wi g tt te (own.map (·.2))) (gName i)) := by
  intro pins s σ H D I h
  rw [exec_Assign_Name_used _ _ _ _ hsw]
  refine wpAny_bind (wpAny_standAt (wpAny_bind ?_))
  show wpAny _ X.A (do let _ ← comprehension (.ListComp elt [⟨tg, iter, ifs, 0⟩] scope pos) scope X.env (firstIterPos [⟨tg, iter, ifs, 0⟩] pos) (newList []) false (eval iter X.env) (some (assign (.Name y py) X.env))) _ _ s
  have h : tLc wi g tt te (own.map (·.2)) σ H (fun x H1 => gName i x σ H1 D.nx) := h
  refine wpAny_bind (thn (lc_core (Qf := fun _ s' => SP X pins D .next s') hc hN I hi ok hg ht he hs h fun L C s' m H' I' q hn f => ?_) fun _ s' hq => wpAny_pure (wpAny_pure hq))
  show wpAny _ _ (assign (.Name y py) X.env (.ref L)) _ _ _
  refine wpAny_assign_Name (store_ok2 (v := V.ref L) I' hN hy (.inl hyl) rfl (fun s2 I2 ⟨a, sb, ha⟩ => ?_) (.inr hyl))
  obtain ⟨f0, f1, f2, f3, f4, f5⟩ := f
  have haC : C ≠ a := by
    rcases ha with z | z
    · rw [z]; exact f1
    · exact fun e => f4 y a z e.symm
  refine ⟨m, hn.sameBut sb haC, fun h3 sb3 => ?_⟩
  exact ⟨_, H', I2.turned (t' := s2.toks) (fun b o hb e => (sb3.2 b hb).trans e) f0 f1 f3 f4 f5, q⟩
theorem sw_true {elt : Expr} {gs : List Comprehension} {scope : Scope} {pos py : Pos} {y : Str} {l : Nat} {env : Env} (hk : env.scope.kind = .function) (hy : env.scope.names.lookup y = some .local) (hl : (py.line == pos.line) = true)
    (ha : (scope.names.any fun (n, k) => n == y && (k == .local || k == .cell)) = false) : swapsWith (.ListComp elt gs scope pos) (some (.Name y py)) l env = pure true := by
  have ky : env.kindOf y = some .local := hy
  have hb : env.blockKind = .function := by unfold Env.blockKind; rw [hk]; rfl
  unfold swapsWith
  simp only [hb, ky, ha, Expr.pos, hl]
  rfl
end
theorem lc_range {lo : Int} {n : Nat} {g : TG} {tt : TT} {te : TE} {vs : List Nat} {σ : St} {H1 : Hp} {D : Addr} {Qd : Hp → Prop} (Pv : Nat → Hp → Prop) (h0 : Pv 0 (upd H1 D (.lst [])))
    (hs : ∀ i H, i < n → Pv i H → g (.int (lo + i)) (wipe σ vs) H fun σ2 H2 => wipe σ2 vs = wipe σ vs ∧ tt σ2 H2 fun b H3 =>
      if b = true then te σ2 H3 fun y H4 => ∃ acc, H4 D = some (.lst acc) ∧ acc.length < sizeLine ∧ Pv (i + 1) (upd H4 D (.lst (acc ++ [y]))) else Pv (i + 1) H3) (hd : ∀ H, Pv n H → Qd H) :
    ∃ W : Nat → Nat → Hp → Prop, (∃ m, W 0 m (upd H1 D (.lst []))) ∧ ∀ i m H, W i m H →
      ((Itr lo n).stop i H ∧ Qd H) ∨ ((Itr lo n).go i H ∧ ∃ Nx : Hp → Prop, (∀ H', Nx H' → ∃ m', m' < m ∧ W (i + 1) m' H') ∧ ∀ x H', (Itr lo n).yld i H x H' → g x (wipe σ vs) H' fun σ2 H2 => wipe σ2 vs = wipe σ vs ∧ tt σ2 H2 fun b H3 =>
        if b = true then te σ2 H3 fun y H4 => ∃ acc, H4 D = some (.lst acc) ∧ acc.length < sizeLine ∧ Nx (upd H4 D (.lst (acc ++ [y]))) else Nx H3) := by
  refine ⟨fun i m H => m = n - i ∧ i ≤ n ∧ Pv i H, ⟨n, by simp, Nat.zero_le _, h0⟩, ?_⟩
  rintro i m H ⟨rfl, hi, p⟩
  by_cases hlt : i < n
  · refine .inr ⟨hlt, Pv (i + 1), fun H' p' => ⟨n - (i + 1), by omega, rfl, hlt, p'⟩, fun x H' y => ?_⟩
    obtain ⟨e, y⟩ := y
    subst e y
    exact hs i _ hlt p
  · have e : i = n := by omega
    subst e
    exact .inl ⟨Nat.le_refl _, hd H p⟩
theorem lc_list {K : PySem.W.Frag} {a : Addr} {xs : List V} {g : TG} {tt : TT} {te : TE} {vs : List Nat} {σ : St} {H1 : Hp} {D : Addr} {Qd : Hp → Prop} (Pv : Nat → Hp → Prop) (h0 : Pv 0 (upd H1 D (.lst []))) (hl : ∀ i H, i ≤ xs.length → Pv i H → SqL K H a xs)
    (hs : ∀ i x H, xs[i]? = some x → Pv i H → g x (wipe σ vs) H fun σ2 H2 => wipe σ2 vs = wipe σ vs ∧ tt σ2 H2 fun b H3 =>
      if b = true then te σ2 H3 fun y H4 => ∃ acc, H4 D = some (.lst acc) ∧ acc.length < sizeLine ∧ Pv (i + 1) (upd H4 D (.lst (acc ++ [y]))) else Pv (i + 1) H3) (hd : ∀ H, Pv xs.length H → Qd H) :
    ∃ W : Nat → Nat → Hp → Prop, (∃ m, W 0 m (upd H1 D (.lst []))) ∧ ∀ i m H, W i m H →
      ((Itl K a).stop i H ∧ Qd H) ∨ ((Itl K a).go i H ∧ ∃ Nx : Hp → Prop, (∀ H', Nx H' → ∃ m', m' < m ∧ W (i + 1) m' H') ∧ ∀ x H', (Itl K a).yld i H x H' → g x (wipe σ vs) H' fun σ2 H2 => wipe σ2 vs = wipe σ vs ∧ tt σ2 H2 fun b H3 =>
        if b = true then te σ2 H3 fun y H4 => ∃ acc, H4 D = some (.lst acc) ∧ acc.length < sizeLine ∧ Nx (upd H4 D (.lst (acc ++ [y]))) else Nx H3) := by
  refine ⟨fun i m H => m = xs.length - i ∧ i ≤ xs.length ∧ Pv i H, ⟨xs.length, by simp, Nat.zero_le _, h0⟩, ?_⟩
  rintro i m H ⟨rfl, hi, p⟩
  have q := hl i H hi p
  by_cases hlt : i < xs.length
  · refine .inr ⟨⟨xs, xs[i], q, by simp [hlt]⟩, Pv (i + 1), fun H' p' => ⟨xs.length - (i + 1), by omega, rfl, hlt, p'⟩, fun x H' y => ?_⟩
    obtain ⟨e, y⟩ := y
    subst e
    exact hs i x _ (y xs q) p
  · have e : i = xs.length := by omega
    subst e
    exact .inl ⟨⟨xs, q, Nat.le_refl _⟩, hd H p⟩
def blkC (N : List Str) (sc scope : Scope) (own : List (Str × Nat)) : Bool :=
  (match scope.kind with | .function => true | _ => false) && (scope.names.all fun y => decide (scope.names.lookup y.1 = some y.2)) && (own.all fun p => decide (N[p.2]? = some p.1)) &&
    (scope.names.all fun y => match y.2 with
      | .free => (match sc.names.lookup y.1 with | some .cell => true | some .free => true | _ => false)
      | .local => decide (y.1 ∈ own.map (·.1)) || decide (y.1 ∉ N)
      | .cell => decide (y.1 ∈ own.map (·.1)) || decide (y.1 ∉ N)
      | _ => true)
theorem blkOk_by {N : List Str} {sc scope : Scope} {own : List (Str × Nat)} (h : blkC N sc scope own = true) : BlkOk N sc scope own := by
  unfold blkC at h
  simp only [Bool.and_eq_true, List.all_eq_true, decide_eq_true_eq] at h
  obtain ⟨⟨⟨h1, h2⟩, h3⟩, h4⟩ := h
  refine ⟨?_, h2, h3, fun y hy e => ?_, fun y hy e => ?_⟩
  · split at h1
    · assumption
    · cases h1
  · have q := h4 y hy
    simp only [e] at q
    split at q <;> first | exact .inl (by assumption) | exact .inr (by assumption) | cases q
  · have q := h4 y hy
    rcases e with e | e <;> (simp only [e, Bool.or_eq_true, decide_eq_true_eq] at q; exact q)
end L2
namespace L2
open PySem PySem.Spec PyProof.Rows
section
variable {prog : Program} {w : World} {A : Around} {R : Result → Shared → Prop} {s : Shared} {elt t0 i0 t1 i1 : Expr} {ifs0 ifs1 : List Expr} {scope : Scope} {pos : Pos} {it acc : Value} {env : Env}
end
section
variable {X : Cx}
end
end L2
namespace L2
open PySem PySem.Spec PyProof.Rows
section
variable {κ : Type} [DecidableEq κ]
def valV (kvs : List (κ × V)) (k : κ) : Option V := (kvs.find? fun kv => decide (kv.1 = k)).map (·.2)
def putK (kvs : List (κ × V)) (k : κ) (v : V) : List (κ × V) :=
  if (kvs.any fun kv => decide (kv.1 = k)) = true then kvs.map (fun kv => if kv.1 = k then (kv.1, v) else kv) else kvs ++ [(k, v)]
def dropK (kvs : List (κ × V)) (k : κ) : List (κ × V) := kvs.filter fun kv => decide (kv.1 ≠ k)
theorem valV_pos {p : κ × V} {r : List (κ × V)} {k : κ} (e : p.1 = k) : valV (p :: r) k = some p.2 := by simp [valV, List.find?_cons, e]
theorem valV_neg {p : κ × V} {r : List (κ × V)} {k : κ} (e : ¬ p.1 = k) : valV (p :: r) k = valV r k := by simp [valV, List.find?_cons, e]
theorem valV_any (k : κ) : ∀ kvs : List (κ × V), (kvs.any fun kv => decide (kv.1 = k)) = (valV kvs k).isSome
  | [] => rfl
  | p :: r => by
    rw [List.any_cons]
    by_cases e : p.1 = k
    · simp only [valV_pos e, decide_eq_true e, Bool.true_or, Option.isSome_some]
    · rw [valV_neg e, decide_eq_false e, Bool.false_or]; exact valV_any k r
theorem length_putK (kvs : List (κ × V)) (k : κ) (v : V) : (putK kvs k v).length ≤ kvs.length + 1 := by
  unfold putK
  split
  · rw [List.length_map]; omega
  · rw [List.length_append, List.length_cons, List.length_nil]; omega
theorem RelO.isSome_eq {o : Option V} {u : Option Value} (r : RelO o u) : o.isSome = u.isSome := by
  cases o with
  | none => cases u with
    | none => rfl
    | some _ => exact (show False from r).elim
  | some _ => cases u with
    | none => exact (show False from r).elim
    | some _ => rfl
theorem RelO.getD {o : Option V} {u : Option Value} {d : V} {d' : Value} (r : RelO o u) (rd : RelV d d') : RelV (o.getD d) (u.getD d') := by
  cases o with
  | none => cases u with
    | none => exact rd
    | some _ => exact (show False from r).elim
  | some _ => cases u with
    | none => exact (show False from r).elim
    | some _ => exact r
theorem KV.val {kvs : List (κ × V)} {vs : List (κ × Value)} (r : KV kvs vs) (k : κ) : RelO (valV kvs k) (valueAt vs k) := by
  unfold KV at r
  induction r with
  | nil => exact True.intro
  | @cons p q ps qs h t ih =>
    obtain ⟨h1, h2⟩ := h
    by_cases e : p.1 = k
    · have e' : q.1 = k := h1.symm.trans e
      have b : valueAt (q :: qs) k = some q.2 := by simp [valueAt, List.find?_cons, e']
      rw [valV_pos e, b]; exact h2
    · have e' : ¬ q.1 = k := fun z => e (h1.trans z)
      have b : valueAt (q :: qs) k = valueAt qs k := by simp [valueAt, List.find?_cons, e']
      rw [valV_neg e, b]; exact ih
theorem KV.any {kvs : List (κ × V)} {vs : List (κ × Value)} (r : KV kvs vs) (k : κ) : (kvs.any fun kv => decide (kv.1 = k)) = vs.any fun kv => decide (kv.1 = k) := by
  unfold KV at r
  induction r with
  | nil => rfl
  | cons h t ih => rw [List.any_cons, List.any_cons, ih, h.1]
theorem KV.repl {kvs : List (κ × V)} {vs : List (κ × Value)} (r : KV kvs vs) (k : κ) {y : V} {u : Value} (ry : RelV y u) :
    KV (kvs.map fun kv => if kv.1 = k then (kv.1, y) else kv) (vs.map fun kv => if kv.1 = k then (kv.1, u) else kv) := by
  unfold KV at r ⊢
  induction r with
  | nil => exact .nil
  | @cons p q ps qs h t ih =>
    rw [List.map_cons, List.map_cons]
    refine .cons ?_ ih
    obtain ⟨h1, h2⟩ := h
    by_cases e : p.1 = k
    · rw [if_pos e, if_pos (h1.symm.trans e)]; exact ⟨h1, ry⟩
    · rw [if_neg e, if_neg (fun z => e (h1.trans z))]; exact ⟨h1, h2⟩
theorem KV.put {kvs : List (κ × V)} {vs : List (κ × Value)} (r : KV kvs vs) (k : κ) {y : V} {u : Value} (ry : RelV y u) : KV (putK kvs k y) (stored vs k u) := by
  unfold putK stored
  rw [r.any k]
  by_cases e : (vs.any fun kv => decide (kv.1 = k)) = true
  · rw [if_pos e, if_pos e]; exact r.repl k ry
  · rw [if_neg e, if_neg e]; exact Paired.snoc r ⟨rfl, ry⟩
theorem KV.drop {kvs : List (κ × V)} {vs : List (κ × Value)} (r : KV kvs vs) (k : κ) : KV (dropK kvs k) (without vs k) := by
  unfold KV at r ⊢
  unfold dropK without
  induction r with
  | nil => exact .nil
  | @cons p q ps qs h t ih =>
    obtain ⟨h1, h2⟩ := h
    rw [List.filter_cons, List.filter_cons]
    by_cases e : p.1 = k
    · have a : ¬ decide (p.1 ≠ k) = true := by simp [e]
      have b : ¬ decide (q.1 ≠ k) = true := by simp [h1.symm.trans e]
      rw [if_neg a, if_neg b]; exact ih
    · have e' : ¬ q.1 = k := fun z => e (h1.trans z)
      have a : decide (p.1 ≠ k) = true := by simp [e]
      have b : decide (q.1 ≠ k) = true := by simp [e']
      rw [if_pos a, if_pos b]; exact .cons ⟨h1, h2⟩ ih
theorem KV.keys {kvs : List (κ × V)} {vs : List (κ × Value)} (r : KV kvs vs) : kvs.map (·.1) = vs.map (·.1) := by
  unfold KV at r
  induction r with
  | nil => rfl
  | cons h t ih => rw [List.map_cons, List.map_cons, ih, h.1]
theorem KV.length {kvs : List (κ × V)} {vs : List (κ × Value)} (r : KV kvs vs) : kvs.length = vs.length := Paired.length r
end
theorem kV_is {P : Program} {w : World} {k : Key} {u : Value} (r : RelV (kV k) u) : (mixKind P w).is k u = true := by
  cases k with
  | inl i => obtain ⟨t, e⟩ := (show ∃ t, u = Value.int i t from r); subst e; exact mixKind_int P w i t
  | inr x => obtain ⟨t, e⟩ := (show ∃ t, u = Value.str x t from r); subst e; exact mixKind_str P w x t
theorem items_are {P : Program} {w : World} : ∀ {ks : List Key} {us : List Value}, Vals (ks.map kV) us → ItemsAre (mixKind P w) ks us
  | [], _, r => by rw [List.map_nil] at r; cases r; exact .nil
  | k :: ks, _, r => by
    rw [List.map_cons] at r
    cases r with
    | cons h t => exact .cons (kV_is h) (items_are t)
abbrev KT (H : Hp) : List (List Key × V) → List (List Key × Addr × Value) → Prop := Paired fun p q => p.1 = q.1 ∧ H q.2.1 = some (.tup (p.1.map kV)) ∧ RelV p.2 q.2.2
theorem KT.val {H : Hp} {kvs : List (List Key × V)} {xs : List (List Key × Addr × Value)} (r : KT H kvs xs) (k : List Key) : RelO (valV kvs k) ((atKey xs k).map (·.2)) := by
  induction r with
  | nil => exact True.intro
  | @cons p q ps qs h t ih =>
    obtain ⟨h1, _, h2⟩ := h
    by_cases e : p.1 = k
    · have e' : q.1 = k := h1.symm.trans e
      have b : atKey (q :: qs) k = some q.2 := by simp [atKey, List.find?_cons, e']
      rw [valV_pos e, b]; exact h2
    · have e' : ¬ q.1 = k := fun z => e (h1.trans z)
      have b : atKey (q :: qs) k = atKey qs k := by simp [atKey, List.find?_cons, e']
      rw [valV_neg e, b]; exact ih
theorem KT.repl {H : Hp} {kvs : List (List Key × V)} {xs : List (List Key × Addr × Value)} (r : KT H kvs xs) (k : List Key) {y : V} {u : Value} (ry : RelV y u) :
    KT H (kvs.map fun kv => if kv.1 = k then (kv.1, y) else kv) (xs.map (putAt k u)) := by
  induction r with
  | nil => exact .nil
  | @cons p q ps qs h t ih =>
    rw [List.map_cons, List.map_cons]
    refine .cons ?_ ih
    obtain ⟨h1, h2, h3⟩ := h
    unfold putAt
    by_cases e : p.1 = k
    · rw [if_pos e, if_pos (h1.symm.trans e)]; exact ⟨h1, h2, ry⟩
    · rw [if_neg e, if_neg (fun z => e (h1.trans z))]; exact ⟨h1, h2, h3⟩
theorem KT.put {H : Hp} {kvs : List (List Key × V)} {xs : List (List Key × Addr × Value)} (r : KT H kvs xs) (k : List Key) {b : Addr} {y : V} {u : Value} (hb : H b = some (.tup (k.map kV))) (ry : RelV y u) :
    KT H (putK kvs k y) (storedH xs k b u) := by
  have e : (kvs.any fun kv => decide (kv.1 = k)) = (atKey xs k).isSome := by
    rw [valV_any, (r.val k).isSome_eq, Option.isSome_map]
  unfold putK storedH
  rw [e]
  by_cases q : (atKey xs k).isSome = true
  · rw [if_pos q, if_pos q]; exact r.repl k ry
  · rw [if_neg q, if_neg q]; exact Paired.snoc r ⟨rfl, hb, ry⟩
theorem KT.keeps {H H' : Hp} {kvs : List (List Key × V)} {xs : List (List Key × Addr × Value)} (r : KT H kvs xs) (ht : ∀ b ys, H b = some (.tup ys) → H' b = some (.tup ys)) : KT H' kvs xs :=
  Paired.mapP r fun _ _ z => ⟨z.1, ht _ _ z.2.1, z.2.2⟩
section
variable {P : Program} {w : World} {H : Hp} {h : Heap} {a : Addr}
theorem rd_of {u : HO} (ok : HOk P w H h) (e : Rd H a u) : ObjOk P w H h a u := e.ok ok
theorem dk_rd {kvs : List (Key × V)} (ok : HOk P w H h) (e : Rd H a (.dK kvs)) : kvs.length ≤ sizeLine ∧ (a == sysModules) = false ∧ ∃ vs, KV kvs vs ∧ h.DictOf (mixKind P w) a vs :=
  show ObjOk P w H h a (.dK kvs) from rd_of ok e
theorem dk_of {kvs : List (Key × V)} (ok : HOk P w H h) (e : H a = some (.dK kvs)) : kvs.length ≤ sizeLine ∧ (a == sysModules) = false ∧ ∃ vs, KV kvs vs ∧ h.DictOf (mixKind P w) a vs := dk_rd ok (.inl e)
theorem key_of {ks : List Key} (ok : HOk P w H h) (e : H a = some (.tup (ks.map kV))) : (tupleKind (mixKind P w)).is h ks a := by
  obtain ⟨_, its, r, o, h1, h2, n, h3⟩ := (show ObjOk P w H h a (.tup (ks.map kV)) from ok a _ e)
  exact ⟨o, its.toArray, n, h1, h2, h3, by simpa using items_are r⟩
theorem dt_rd {kvs : List (List Key × V)} (ok : HOk P w H h) (e : Rd H a (.dT kvs)) : kvs.length ≤ sizeLine ∧ (a == sysModules) = false ∧
    ∃ xs, KT H kvs xs ∧ h.DictOfH (tupleKind (mixKind P w)) a xs := by
  obtain ⟨z, y, xs, r, o, es, ep, h1, h2, h3, h4, h5⟩ := (show ObjOk P w H h a (.dT kvs) from rd_of ok e)
  refine ⟨z, y, xs, r, o, es, ep, h1, h2, h3, h4, fun x hx => ?_, h5⟩
  have all : ∀ {l : List (List Key × V)} {m : List (List Key × Addr × Value)}, KT H l m → ∀ x ∈ m, (tupleKind (mixKind P w)).is h x.1 x.2.1 := by
    intro l m q
    induction q with
    | nil => intro x hx; exact nomatch hx
    | @cons p q ps qs hq t ih =>
      intro x hx
      rcases List.mem_cons.mp hx with e | hx
      · subst e
        exact key_of ok (by rw [← hq.1]; exact hq.2.1)
      · exact ih x hx
  exact all r x hx
theorem dt_of {kvs : List (List Key × V)} (ok : HOk P w H h) (e : H a = some (.dT kvs)) : kvs.length ≤ sizeLine ∧ (a == sysModules) = false ∧
    ∃ xs, KT H kvs xs ∧ h.DictOfH (tupleKind (mixKind P w)) a xs := dt_rd ok (.inl e)
end
def DGet (H : Hp) (a : Addr) (y : V) (r : Option V) : Prop :=
  (∃ kvs k, Rd H a (.dK kvs) ∧ y = kV k ∧ r = valV kvs k) ∨ ∃ kvs k b, Rd H a (.dT kvs) ∧ y = .ref b ∧ H b = some (.tup (k.map kV)) ∧ r = valV kvs k
def DPut (H : Hp) (a : Addr) (y v : V) (H' : Hp) : Prop :=
  (∃ kvs k, H a = some (.dK kvs) ∧ y = kV k ∧ kvs.length < sizeLine ∧ H' = upd H a (.dK (putK kvs k v))) ∨
  ∃ kvs k b, H a = some (.dT kvs) ∧ y = .ref b ∧ H b = some (.tup (k.map kV)) ∧ kvs.length < sizeLine ∧ H' = upd H a (.dT (putK kvs k v))
theorem DGet.k {H : Hp} {a : Addr} {kvs : List (Key × V)} {k : Key} (e : H a = some (.dK kvs)) : DGet H a (kV k) (valV kvs k) := .inl ⟨kvs, k, .inl e, rfl, rfl⟩
theorem DGet.t {H : Hp} {a b : Addr} {kvs : List (List Key × V)} {k : List Key} (e : H a = some (.dT kvs)) (eb : H b = some (.tup (k.map kV))) : DGet H a (.ref b) (valV kvs k) := .inr ⟨kvs, k, b, .inl e, rfl, eb, rfl⟩
theorem DPut.k {H : Hp} {a : Addr} {kvs : List (Key × V)} {k : Key} {v : V} (e : H a = some (.dK kvs)) (hl : kvs.length < sizeLine) : DPut H a (kV k) v (upd H a (.dK (putK kvs k v))) := .inl ⟨kvs, k, e, rfl, hl, rfl⟩
theorem DPut.t {H : Hp} {a b : Addr} {kvs : List (List Key × V)} {k : List Key} {v : V} (e : H a = some (.dT kvs)) (eb : H b = some (.tup (k.map kV))) (hl : kvs.length < sizeLine) :
    DPut H a (.ref b) v (upd H a (.dT (putK kvs k v))) := .inr ⟨kvs, k, b, e, rfl, eb, hl, rfl⟩
section
variable {X : Cx} {pins : List (Addr × Obj)} {σ : St} {H : Hp} {s : Shared} {a : Addr} {y v : V} {u r : Value} {o : Option V} {A : Around} {E : Value → Shared → Prop}
theorem Inv.big (I : Inv X pins σ H s) : sysModules < s.heap.objs.size := by
  have h : mainGlobals < s.heap.objs.size := (I.mod.glob.keeps I.bk).lt
  exact Nat.lt_trans (by decide) h
theorem d_getItem {Q : Value → Shared → Prop} (hu : A.units + 1 < cLine) (I : Inv X pins σ H s) (g : DGet H a y (some v)) (ry : RelV y u) (h : ∀ w' s', Inv X pins σ H s' → RelV v w' → Q w' s') :
    wpAny (model X.prog X.w) A (getItem (.ref a) u) Q E s := by
  rcases g with ⟨kvs, k, e, ey, l⟩ | ⟨kvs, k, b, e, ey, eb, l⟩
  · subst ey
    obtain ⟨z, hd, vs, rel, dd⟩ := dk_rd I.hok e
    obtain ⟨w', hw, rw'⟩ := RelO.some_of (v := v) (o := valueAt vs k) (by rw [l]; exact rel.val k)
    exact wpAny_getItem_of (kV_is ry) dd.mapOf hw (h w' _ (I.tok _) rw')
  · subst ey
    cases (show u = Value.ref b from ry)
    obtain ⟨z, hd, xs, rel, dd⟩ := dt_rd I.hok e
    obtain ⟨w', hw, rw'⟩ := RelO.some_of (v := v) (o := (atKey xs k).map (·.2)) (by rw [l]; exact rel.val k)
    obtain ⟨p, hp, hp2⟩ := Option.map_eq_some_iff.mp hw
    refine wpAny_getItem_heap (tupleKind_room_in1 hu) (key_of I.hok eb) dd hp ?_
    rw [hp2]
    exact h w' _ (I.tok _) rw'
theorem d_notIn {Q : Value → Shared → Prop} (hu : A.units + 1 < cLine) (I : Inv X pins σ H s) (g : DGet H a y o) (ry : RelV y u) (h : ∀ s', Inv X pins σ H s' → Q (.bool (!o.isSome)) s') :
    wpAny (model X.prog X.w) A (compareOp .NotIn u (.ref a)) Q E s := by
  rcases g with ⟨kvs, k, e, ey, l⟩ | ⟨kvs, k, b, e, ey, eb, l⟩
  · subst ey
    obtain ⟨z, hd, vs, rel, dd⟩ := dk_rd I.hok e
    refine wpAny_notIn_of (kV_is ry) hd dd.mapOf ?_
    rw [← (rel.val k).isSome_eq, ← l]
    exact h _ (I.tok _)
  · subst ey
    cases (show u = Value.ref b from ry)
    obtain ⟨z, hd, xs, rel, dd⟩ := dt_rd I.hok e
    refine wpAny_notIn_heap (tupleKind_room_in1 hu) (key_of I.hok eb) hd dd ?_
    have q := (rel.val k).isSome_eq
    rw [Option.isSome_map] at q
    rw [← q, ← l]
    exact h _ (I.tok _)
theorem d_write {h' : Heap} {t' : Nat} {ob : HO} (I : Inv X pins σ H s) (mu : Mut (H a)) (hs : Heap.SameBut a s.heap h') (he : ∃ q, h'.get? a = some q) (new : ObjOk X.prog X.w (upd H a ob) h' a ob) :
    Inv X pins σ (upd H a ob) { s with heap := h', toks := t' } :=
  I.write (x := a) (e := a) mu (.inl rfl) (fun b q hb z => (hs.2 b hb).trans z) he new
theorem dk_new {P : Program} {w : World} {H' : Hp} {h' : Heap} {kvs : List (Key × V)} {vs : List (Key × Value)} (z : kvs.length ≤ sizeLine) (hd : (a == sysModules) = false) (rel : KV kvs vs) (dd : h'.DictOf (mixKind P w) a vs) :
    ObjOk P w H' h' a (.dK kvs) := ⟨z, hd, vs, rel, dd⟩
theorem d_setItem {H' : Hp} {Q : Unit → Shared → Prop} (hu : A.units + 1 < cLine) (I : Inv X pins σ H s) (g : DPut H a y v H') (ry : RelV y u) (rv : RelV v r) (h : ∀ s', Inv X pins σ H' s' → Q () s') :
    wpAny (model X.prog X.w) A (setItem (.ref a) u r) Q E s := by
  rcases g with ⟨kvs, k, e, ey, l, eH⟩ | ⟨kvs, k, b, e, ey, eb, l, eH⟩
  · subst ey eH
    obtain ⟨z, hd, vs, rel, dd⟩ := dk_of I.hok e
    have hz : vs.length ≤ sizeLine := by rw [← rel.length]; exact z
    have hl : (putK kvs k v).length ≤ sizeLine := by have := length_putK kvs k v; omega
    refine wpAny_setItem_pairs (hsz := hz) (kV_is ry) dd fun h' dd' hs => h _ ?_
    have he : ∃ q, h'.get? a = some q := let ⟨q, _, _, hq, _⟩ := dd'; ⟨q, hq⟩
    exact d_write I (by rw [e]; exact True.intro) hs he (dk_new hl hd (rel.put k rv) dd')
  · subst ey eH
    cases (show u = Value.ref b from ry)
    obtain ⟨z, hd, xs, rel, dd⟩ := dt_of I.hok e
    have hz : xs.length ≤ sizeLine := by rw [← Paired.length rel]; exact z
    have hl : (putK kvs k v).length ≤ sizeLine := by have := length_putK kvs k v; omega
    refine wpAny_setItem_heap (hsz := hz) (tupleKind_room_in1 hu) (key_of I.hok eb) dd fun h' dd' hs => h _ ?_
    obtain ⟨q, es, ep, hq, h2, h3, h4, _, h5⟩ := dd'
    refine d_write I (by rw [e]; exact True.intro) hs ⟨q, hq⟩ ⟨hl, hd, _, (rel.put k eb rv).keeps fun c ys ec => ?_, q, es, ep, hq, h2, h3, h4, h5⟩
    rw [upd_ne (ne_of ec e (fun z => nomatch z))]
    exact ec
end
section
variable {X : Cx} {pins : List (Addr × Obj)} {σ : St} {H : Hp} {s : Shared} {a : Addr} {kvs : List (Key × V)} {k : Key} {u : Value} {A : Around} {E : Value → Shared → Prop}
end
def NoSl (i : Expr) : Prop := ∀ ov iv, subscripted i false ov iv = operate [ov, iv] (getItem ov iv)
theorem subD_of {prog : Program} {w : World} {A : Around} {E : Value → Shared → Prop} {s : Shared} {env : Env} {value slice : Expr} {pos : Pos} {T id : String} {Q : Value → Shared → Prop}
    (hl : typeLookup (.type T) "__getitem__" = pure (some (.builtin id))) (hs : NoSl slice)
    (h : wpAny (model prog w) A (eval value env) (fun o s₁ => wpAny (model prog w) A (eval slice env) (fun i s₂ => s₂.TypeIs o T ∧ wpAny (model prog w) A (getItem o i) Q E s₂) E s₁) E s) :
    wpAny (model prog w) A (eval (.Subscript value slice pos) env) Q E s := by
  refine Subscript_ (wpAny_mono h (fun o s₁ h₁ => wpAny_mono h₁ (fun i s₂ h₂ => ?_) fun _ _ x => x) fun _ _ x => x)
  obtain ⟨hT, h₂⟩ := h₂
  unfold subscriptTail
  refine wpAny_bind ?_
  rw [getitemInPython_of_ne hT.not_modules]
  refine wpAny_bind (wpAny_specialOf hT hl ?_)
  have fin : wpAny (model prog w) A (subscripted slice false o i) (fun r s₃ => wpAny (model prog w) A (letTemporaryGo value o r >>= fun _ => pure r) Q E s₃) E s₂ := by
    rw [hs o i]
    exact wpAny_operating (wpAny_mono h₂ (fun r s₃ h₃ => wpAny_bind (wpAny_letTemporaryGo (wpAny_pure h₃))) fun _ _ x => x)
  first
    | exact wpAny_pure (wpAny_bind fin)
    | exact wpAny_bind (wpAny_pure (wpAny_bind fin))
    | exact wpAny_bind fin
theorem dict_typeIs {X : Cx} {pins : List (Addr × Obj)} {σ : St} {H : Hp} {s : Shared} {a : Addr} {y : V} {o : Option V} (I : Inv X pins σ H s) (g : DGet H a y o) : s.TypeIs (.ref a) "dict" := by
  rcases g with ⟨kvs, k, e, _, _⟩ | ⟨kvs, k, b, e, _, _, _⟩
  · obtain ⟨_, _, vs, _, dd⟩ := dk_rd I.hok e
    exact dd.typeIs
  · obtain ⟨_, _, xs, _, dd⟩ := dt_rd I.hok e
    exact dd.typeIs
def tDGet (td ty : TE) : TE := fun σ H Q => td σ H fun x H1 => ty σ H1 fun y H2 => ∃ a v, x = .ref a ∧ DGet H2 a y (some v) ∧ Q v H2
def tDNotIn (ty td : TE) : TE := fun σ H Q => ty σ H fun y H1 => td σ H1 fun x H2 => ∃ a o, x = .ref a ∧ DGet H2 a y o ∧ Q (.bl (!o.isSome)) H2
def sDPut (td ty tv : TE) : TS := fun D σ H => tv σ H fun v H1 => td σ H1 fun x H2 => ty σ H2 fun y H3 => ∃ a H4, x = .ref a ∧ DPut H3 a y v H4 ∧ D.nx σ H4
section
variable {X : Cx} {o i e value : Expr} {pos pos' tpos : Pos} {td ty tv : TE}
theorem pe_dget (hu : X.A.units + 1 < cLine) (ho : PE X o td) (hi : PE X i ty) (hs : NoSl i) : PE X (.Subscript o i pos) (tDGet td ty) := by
  intro pins s σ H Q I h
  refine subD_of PySem.F.slot_dict_getitem.lookup hs (thn (ho pins s σ H _ I h) fun u s1 ⟨x, H1, I1, rx, q1⟩ => thn (hi pins s1 σ H1 _ I1 q1) fun iv s2 ⟨y, H2, I2, ry, a, v, ex, g, q2⟩ => ?_)
  subst ex
  obtain rfl : u = Value.ref a := rx
  exact ⟨dict_typeIs I2 g, d_getItem hu I2 g ry fun w' s3 I3 rw' => ⟨v, H2, I3, rw', q2⟩⟩
theorem pc_dnotin (hu : X.A.units + 1 < cLine) (hi : PE X i ty) (ho : PE X o td) : PC X .NotIn i o (tDNotIn ty td) := by
  intro pins s σ H Q I h
  refine thn (hi pins s σ H _ I h) fun iv s1 ⟨y, H1, I1, ry, q1⟩ => thn (ho pins s1 σ H1 _ I1 q1) fun u s2 ⟨x, H2, I2, rx, a, ov, ex, g, q2⟩ => ?_
  subst ex
  obtain rfl : u = Value.ref a := rx
  exact d_notIn hu I2 g ry fun s3 I3 => ⟨.bl (!ov.isSome), H2, I3, rfl, q2⟩
theorem ps_dput (hu : X.A.units + 1 < cLine) (ho : PE X o td) (hi : PE X i ty) (hv : PE X value tv) (hs : swapsWith value (some (.Subscript o i pos')) pos.line X.env = pure false) :
    PS X (.Assign [.Subscript o i pos'] value pos) (sDPut td ty tv) := by
  intro pins s σ H D I h
  refine wpAny_Assign_Subscript (thn (hv pins s σ H _ I h) fun r s1 ⟨v, H1, I1, rv, q1⟩ => thn (ho pins s1 σ H1 _ I1 q1) fun u s2 ⟨x, H2, I2, rx, q2⟩ => thn (hi pins s2 σ H2 _ I2 q2) fun iv s3 ⟨y, H3, I3, ry, a, H4, ex, g, q3⟩ => ?_) hs
  subst ex
  obtain rfl : u = Value.ref a := rx
  exact d_setItem hu I3 g ry rv fun s4 I4 => ⟨σ, H4, I4, q3⟩
end
theorem dk_empty {P : Program} {w : World} {H : Hp} (h : Heap) (hb : sysModules < h.objs.size) : ObjOk P w H (h.push { cls := .type "dict", data := .dict #[] }) h.objs.size (.dK []) :=
  ⟨Nat.zero_le _, beq_eq_false_iff_ne.mpr (Ne.symm (Nat.ne_of_lt hb)), [], .nil, Heap.DictOf.new h⟩
def tDNewK : TE := fun _ H Q => ∀ p, H p = none → Q (.ref p) (upd H p (.dK []))
section
variable {X : Cx} {pos : Pos}
theorem pe_dnewK : PE X (.Dict [] [] pos) tDNewK := fun pins s σ H Q I h =>
  wpAny_Dict_empty ⟨.ref s.heap.objs.size, _, I.laid (a := s.heap.objs.size) (o := .dK []) (t' := s.toks) (fun _ _ q => Heap.get?_push_of_some _ q) (Nat.le_refl _) (dk_empty s.heap I.big), rfl, h _ (I.hok.fresh (Nat.le_refl _))⟩
end
structure M2 (X : Cx) (o : Expr) (m : Str) (apos : Pos) (e f : Expr) (cpos : Pos) : Prop where
  base : attributeBase o m X.env (eval o X.env) = eval o X.env
  few : ((backTo cpos (starEach [e, f] X.env)).all (fun x => !x.1) && (backToKw cpos (keywordEach [] X.env)).all (fun x => x.1.isSome)
    && decide (([e, f] : List Expr).length + ([] : List Keyword).length + (if ([] : List Keyword).isEmpty then 0 else 1) < 30)) = true
  line : (apos.endLine == cpos.line) = true
  trees : backTo cpos (starEach [e, f] X.env) = [(false, eval e X.env), (false, eval f X.env)]
section
variable {X : Cx} {pins : List (Addr × Obj)} {σ : St} {H : Hp} {s : Shared} {a : Addr} {y d : V} {u r : Value} {o : Option V} {A : Around} {E : Value → Shared → Prop}
end
section
variable {X : Cx} {o e f : Expr} {apos cpos : Pos} {td ty tx : TE}
end
section
variable {X : Cx} {pins : List (Addr × Obj)} {σ : St} {H : Hp} {s : Shared} {a : Addr} {kvs : List (Key × V)} {A : Around} {E : Value → Shared → Prop}
end
section
variable {X : Cx} {pins : List (Addr × Obj)} {σ : St} {H : Hp} {s : Shared} {a : Addr} {y : V} {u : Value} {A : Around} {E : Value → Shared → Prop}
end
end L2
namespace L2
open PySem PySem.Spec PyProof.Rows
section
variable {prog : Program} {w : World} {A : Around} {E : Value → Shared → Prop}
end
section
variable {X : Cx}
end
end L2
namespace L2
open PySem PySem.Spec PyProof.Rows
section
variable {X : Cx} {pins : List (Addr × Obj)} {σ : St} {H : Hp} {s : Shared} {h' : Heap}
theorem Inv.turnedNew {t' : Nat} {ch : List Addr} {T : Addr} {ob : HO} (I : Inv X pins σ H s) (k : ∀ b o, b ∉ ch → s.heap.get? b = some o → h'.get? b = some o) (hf : ∀ b ∈ ch, FpOk X pins H b) (hT : s.heap.objs.size ≤ T)
    (new : ObjOk X.prog X.w (upd H T ob) h' T ob) : Inv X pins σ (upd H T ob) { s with heap := h', toks := t' } := by
  have hn : H T = none := I.hok.fresh hT
  have nit : ∀ b u, H b = some u → b ∉ ch := fun b u e z => by
    have q := (hf b z).1
    rw [q] at e; cases e
  refine I.step (g' := s.gens) (d' := s.drawn) (ch := ch) (fun b hb => ⟨(hf b hb).2.2.2.1, (hf b hb).2.1, (hf b hb).2.2.2.2.1, (hf b hb).2.2.2.2.2⟩) (fun b o _ _ hc e _ => k b o hc e) (fun b o _ _ hc e _ => ⟨o.slots, k b o hc e⟩)
    (fun b o _ e n => ?_) (fun b o hc e => ⟨o, k b o hc e⟩) (fun b xs e => ?_) (fun b o u e => ?_) (fun b ps e => ⟨#[], ?_⟩) (fun m hm => ?_) (fun b u e => ?_) I.bare
  · rw [upd_ne (Nat.ne_of_lt (Nat.lt_of_lt_of_le (Heap.lt_size e) hT))]; exact n
  · rw [upd_ne (ne_of_none e hn)]; exact e
  · rw [upd_ne (ne_of_none e hn)]; exact e
  · rw [upd_ne (ne_of_none e hn), e]; simp
  · obtain ⟨o, es, ep, ho, r⟩ := hm
    exact ⟨o, es, ep, k _ o (fun z => (hf _ z).2.1 rfl) ho, r⟩
  · by_cases hb : b = T
    · subst hb
      rw [upd_same] at e
      cases e
      exact new
    · rw [upd_ne hb] at e
      refine (I.hok b u e).stay (fun c v hc q => k c v ?_ q) (fun c q => by rw [upd_ne (ne_of_none q hn)]; exact q) fun c xs q => by rw [upd_ne (ne_of_none q hn)]; exact q
      rcases hc with z | z
      · rw [z]; exact nit b u e
      · exact nit c _ z
theorem Inv.lock {d : Addr} {u : HO} (I : Inv X pins σ H s) (h : H d = some u) (mu : Mut (some u)) : ∃ od, Inv X pins σ (upd H d (.frz od u)) s := by
  have x := I.hok d u h
  have ex : ∃ od, s.heap.get? d = some od := by
    cases u with
    | lst xs => obtain ⟨_, _, _, _, e⟩ := x; exact ⟨_, e⟩
    | dK kvs => obtain ⟨_, _, _, _, o, _, _, e, _⟩ := x; exact ⟨o, e⟩
    | dT kvs => obtain ⟨_, _, _, _, o, _, _, e, _⟩ := x; exact ⟨o, e⟩
    | set S n => obtain ⟨o, _, _, _, e, _⟩ := x; exact ⟨o, e⟩
    | ins C dx fs => obtain ⟨_, _, _, e, _⟩ := x; exact ⟨_, e⟩
    | ext φ => obtain ⟨_, ⟨_, e⟩, _⟩ := x; exact ⟨_, e⟩
    | _ => exact False.elim mu
  obtain ⟨od, e⟩ := ex
  have new : ObjOk X.prog X.w (upd H d (.frz od u)) s.heap d (.frz od u) := by
    refine ⟨e, x.stay (fun b v _ q => q) (fun b q => ?_) fun b xs q => ?_⟩
    · rw [upd_ne (fun z => by rw [z, h] at q; cases q; exact mu)]; exact q
    · rw [upd_ne (fun z => by rw [z, h] at q; cases q; exact mu)]; exact q
  exact ⟨od, I.write (x := d) (e := d) (t' := s.toks) (h' := s.heap) (by rw [h]; exact mu) (.inl rfl) (fun b v _ q => q) ⟨od, e⟩ new⟩
theorem Inv.nofrz {d : Addr} {u : HO} (I : Inv X pins σ H s) (h : H d = some u) (mu : Mut (some u)) : ∀ o' u', X.H_0 d ≠ some (.frz o' u') := fun o' u' e => by
  have q := I.base.frzs d o' u' e
  rw [h] at q
  cases q
  exact mu
theorem Inv.unlock {d : Addr} {od : Obj} {u : HO} (I : Inv X pins σ H s) (h : H d = some (.frz od u)) (hn : ∀ o' u', X.H_0 d ≠ some (.frz o' u')) : Inv X pins σ (upd H d u) s := by
  have neH : ∀ b o, H b = some o → (∀ o' u', o ≠ .frz o' u') → b ≠ d := fun b o e hne z => by
    rw [z, h] at e
    cases e
    exact hne _ _ rfl
  have neN : ∀ b, H b = none → b ≠ d := fun b e z => by rw [z, h] at e; cases e
  refine ⟨I.ok, I.os, I.bare, ⟨I.base.keep, I.base.slot, fun b o e n hx => ?_, I.base.there, fun b xs e => ?_, fun b o x e => ?_, fun b ps e => ?_⟩, I.loc, I.cell, ?_, fun x c e => ?_, fun p hp => ?_, fun b o e => ?_, I.len⟩
  · rw [upd_ne (neN b (I.base.free b o e n hx))]; exact I.base.free b o e n hx
  · have q := I.base.tups b xs e
    rw [upd_ne (neH b _ q (fun _ _ z => nomatch z))]; exact q
  · have q := I.base.frzs b o x e
    rw [upd_ne (fun z => by rw [z] at e; exact hn _ _ e)]; exact q
  · obtain ⟨m, q⟩ := I.base.tbls b ps e
    exact ⟨m, by rw [upd_ne (neH b _ q (fun _ _ z => nomatch z))]; exact q⟩
  · rw [upd_ne (neN _ I.free)]; exact I.free
  · rw [upd_ne (neN c (I.freeC x c e))]; exact I.freeC x c e
  · obtain ⟨e, n, r⟩ := I.pin p hp
    exact ⟨e, by rw [upd_ne (neN _ n)]; exact n, r⟩
  · by_cases hb : b = d
    · rw [hb, upd_same] at e
      cases e
      rw [hb]
      obtain ⟨_, x⟩ := I.hok d _ h
      exact x.stay (fun c v _ q => q) (fun c q => by rw [upd_ne (neH c _ q (fun _ _ z => nomatch z))]; exact q) fun c xs q => by rw [upd_ne (neH c _ q (fun _ _ z => nomatch z))]; exact q
    · rw [upd_ne hb] at e
      exact (I.hok b o e).stay (fun c v _ q => q) (fun c q => by rw [upd_ne (neH c _ q (fun _ _ z => nomatch z))]; exact q) fun c xs q => by rw [upd_ne (neH c _ q (fun _ _ z => nomatch z))]; exact q
end
def tLock (t : TS) : TS := fun D σ H => ∃ d u, H d = some u ∧ Mut (some u) ∧ ∀ od, t ⟨fun σ' H' => H' d = some (.frz od u) ∧ D.nx σ' (upd H' d u), fun v H' => H' d = some (.frz od u) ∧ D.rt v (upd H' d u), fun σ' H' => H' d = some (.frz od u) ∧ D.bk σ' (upd H' d u), fun σ' H' => H' d = some (.frz od u) ∧ D.ct σ' (upd H' d u)⟩ σ (upd H d (.frz od u))
def tLockE (t : TE) : TE := fun σ H Q => ∃ d u, H d = some u ∧ Mut (some u) ∧ ∀ od, t σ (upd H d (.frz od u)) fun v H' => H' d = some (.frz od u) ∧ Q v (upd H' d u)
section
variable {X : Cx}
theorem ps_lock {st : Stmt} {t : TS} (h : PS X st t) : PS X st (tLock t) := by
  intro pins s σ H D I hw
  obtain ⟨d, u, hd, mu, hw⟩ := hw
  obtain ⟨od, I1⟩ := I.lock hd mu
  refine thn (h pins s σ _ _ I1 (hw od)) fun f s1 q => ?_
  cases f with
  | next => obtain ⟨σ', H', I2, e, q⟩ := q; exact ⟨σ', _, I2.unlock e (I.nofrz hd mu), q⟩
  | brk => obtain ⟨σ', H', I2, e, q⟩ := q; exact ⟨σ', _, I2.unlock e (I.nofrz hd mu), q⟩
  | cont => obtain ⟨σ', H', I2, e, q⟩ := q; exact ⟨σ', _, I2.unlock e (I.nofrz hd mu), q⟩
  | ret v => obtain ⟨x, σ', H', I2, r, e, q⟩ := q; exact ⟨x, σ', _, I2.unlock e (I.nofrz hd mu), r, q⟩
theorem pe_lock {e : Expr} {t : TE} (h : PE X e t) : PE X e (tLockE t) := by
  intro pins s σ H Q I hw
  obtain ⟨d, u, hd, mu, hw⟩ := hw
  obtain ⟨od, I1⟩ := I.lock hd mu
  refine thn (h pins s σ _ _ I1 (hw od)) fun v s1 ⟨x, H1, I2, r, e2, q⟩ => ?_
  exact ⟨x, _, I2.unlock e2 (I.nofrz hd mu), r, q⟩
theorem pi_one {tg : Expr} {pins : List (Addr × Obj)} {σ : St} {H : Hp} {s : Shared} {R : It → Hp → Prop} {J : It} {tn : Nat → Heap → Prop} {tk : Nat} (I : Inv X pins σ H s) (o : Obj)
    (T : Turn X.prog X.w X.K tg J [s.heap.objs.size] s.heap.objs.size tn) (st : tn 0 (s.heap.push o)) (q : R J H) : PIE X pins σ tg R (.ref s.heap.objs.size) { s with heap := s.heap.push o, toks := tk } := by
  refine ⟨s.heap.objs.size, [s.heap.objs.size], tn, J, H, rfl, I.kept fun b ob e => Heap.get?_push_of_some _ e, T, st, fun b hb => ?_, q⟩
  have e : b = s.heap.objs.size := by simpa using hb
  subst e
  exact I.fpOk (Nat.le_refl _) (I.hok.fresh (Nat.le_refl _))
end
def RgC (i j c : Int) (n : Nat) : Prop := c ≠ 0 ∧ c.natAbs < 1073741824 ∧ Builtin.Range.small i j c = true ∧ Builtin.Range.rangeSize i j c = n
theorem RgC.neg {i j : Int} (ha : -(2 ^ 62) ≤ i) (ha' : i < 2 ^ 62) (hb : -(2 ^ 62) ≤ j) (hb' : j < 2 ^ 62) : RgC i j (-1) (i - j).toNat :=
  ⟨by decide, by decide, PySem.W.small_down ha ha' hb hb', PySem.W.rangeSize_downNat i j⟩
section
variable {X : Cx} {tg : Expr}
end
section
variable {X : Cx} {tg : Expr}
end
section
variable {prog : Program} {w : World} {A : Around} {E : Value → Shared → Prop} {s : Shared}
theorem iter_keys {d : Addr} {o : Obj} {es : Array DictEntry} {ep : Nat} {Q : Value → Shared → Prop} (hd : (d == sysModules) = false) (ho : s.heap.get? d = some o) (hc : o.ExactDict) (hdat : o.data = .dict es ep)
    (hQ : Q (.ref s.heap.objs.size) { s with heap := s.heap.push { cls := .type "dict_keyiterator", data := .fields #[.ref d, .int 0 0, .int es.size 0, .int ep 0] } }) :
    wpAny (model prog w) A (pyIter (.ref d)) Q E s := by
  have hT : s.TypeIs (.ref d) "dict" := ⟨o, ho, hc.1⟩
  refine wpAny_pyIter_slot hT F.slot_dict_iter (wpAny_call_entry F.slot_dict_iter hT F.entry_dict_iter ?_ (F.args_dict_iter_1 _))
  unfold Builtin.«dict.__iter__»
  refine wpAny_bind ?_
  unfold Builtin.Dict.dictSlotNone
  refine wpAny_bind (wpAny_notOrdered_dict hT ?_)
  show wpAny _ _ (pure (Value.ref d)) _ _ s
  refine wpAny_pure ?_
  show wpAny _ _ (Builtin.Dict.showsAll d >>= _) _ _ s
  unfold Builtin.Dict.showsAll
  rw [if_neg (by rw [hd]; exact Bool.false_ne_true)]
  refine wpAny_bind (wpAny_pure ?_)
  refine wpAny_bind (wpAny_dictEntries ho hdat ?_)
  refine wpAny_bind (wpAny_dictEpoch ho hdat ?_)
  refine wpAny_bind (wpAny_newObj_type (wpAny_pure ⟨_, rfl, "dict_keyiterator", _, ⟨_, Heap.get?_push_size _ rfl, rfl⟩, F.slot_dict_keyiterator_next.lookup, ?_⟩))
  simpa [rawInt] using hQ
theorem next_key_item {it d : Addr} {i n ep : Nat} {od : Obj} {es : Array DictEntry} {en : DictEntry} {Q : Option Value → Shared → Prop} (hit : s.heap.IsKeyIter it d i n ep) (hod : s.heap.get? d = some od) (hdd : od.data = .dict es ep)
    (hsz : es.size = n) (hx : es[i]? = some en) (hQ : ∀ h', h'.IsKeyIter it d (i + 1) n ep → Heap.SameBut it s.heap h' → Q (some en.key) { s with heap := h' }) : wpAny (model prog w) A (pyNext (.ref it)) Q E s := by
  obtain ⟨o, ho, hc, hd⟩ := id hit
  unfold pyNext
  refine wpAny_bind (wpAny_attempt (wpAny_callSpecial?_slot (name := Str.ofString "__next__") hit.typeIs F.slot_dict_keyiterator_next
    (wpAny_call_entry F.slot_dict_keyiterator_next hit.typeIs F.entry_dict_keyiterator_next ?_ (F.args_dict_keyiterator_next_1 _))))
  refine wpAny_bind (wpAny_pure ?_)
  refine wpAny_bind ?_
  refine wpAny_bind ?_
  first | refine wpAny_bind (wpAny_typeNameOfWhole_keyiter hit.typeIs (wpAny_pure ?_)) | refine wpAny_bind (wpAny_typeNameOf_keyiter hit.typeIs (wpAny_pure ?_))
  refine wpAny_bind (wpAny_fieldsOf ho hd ?_)
  have hown : Builtin.Dict_items.ownsTuple "dict_keyiterator" = false := by decide
  simp only [hown, Bool.false_eq_true, if_false]
  show wpAny _ _ (if (Value.ref d == Value.none) = true then _ else _) _ _ s
  rw [if_neg (show ¬ ((Value.ref d == Value.none) = true) from Bool.false_ne_true)]
  refine wpAny_bind (wpAny_pure ?_)
  refine wpAny_bind (wpAny_dictEntries hod hdd ?_)
  rw [if_neg (by rw [hsz]; simp)]
  refine wpAny_bind (wpAny_pure ?_)
  refine wpAny_bind (wpAny_dictEpoch hod hdd ?_)
  rw [if_neg (by simp)]
  refine wpAny_pure ?_
  obtain ⟨hlt', hen⟩ := Array.getElem?_eq_some_iff.mp hx
  simp only [show ¬ ((i : Int) < 0) from by omega, if_false, Int.toNat_natCast, Array.getElem?_eq_getElem hlt']
  refine wpAny_bind ?_
  first | refine wpAny_bind (wpAny_typeNameOfWhole_keyiter hit.typeIs (wpAny_pure ?_)) | refine wpAny_bind (wpAny_typeNameOf_keyiter hit.typeIs (wpAny_pure ?_))
  refine wpAny_bind (wpAny_isOneOf_keyiter hit.typeIs ?_)
  show wpAny _ _ (setField (.ref it) 1 (rawInt ((i : Int) + 1)) >>= _) _ _ s
  refine wpAny_bind (wpAny_setField ho hd (by simp) ?_)
  have hit' : (s.heap.update it (Obj.mapFields (·.setIfInBounds 1 (rawInt ((i : Int) + 1))))).IsKeyIter it d (i + 1) n ep :=
    ⟨_, Heap.get?_update_self _ ho (Obj.isFreed_of_fields (Obj.data_mapFields hd _)), (Obj.cls_mapFields ..).trans hc, by rw [Obj.data_mapFields hd]; simp [rawInt]⟩
  refine wpAny_bind (wpAny_holding ?_)
  refine wpAny_bind (wpAny_isOneOf_keyiter (s := { s with heap := s.heap.update it (Obj.mapFields (·.setIfInBounds 1 (rawInt ((i : Int) + 1)))) }) hit'.typeIs ?_)
  show wpAny _ _ (pure es[i].key) _ _ _
  rw [hen]
  exact wpAny_pure (wpAny_pure ⟨_, rfl, wpAny_pure (hQ _ hit' (Heap.SameBut.update ..))⟩)
theorem next_key_end {it d : Addr} {i n ep : Nat} {od : Obj} {es : Array DictEntry} {Q : Option Value → Shared → Prop} (hh : A.handled = none) (hit : s.heap.IsKeyIter it d i n ep) (hod : s.heap.get? d = some od) (hdd : od.data = .dict es ep)
    (hsz : es.size = n) (hge : n ≤ i) (hQ : ∀ h', Heap.ExtBut it s.heap h' → Q none { s with heap := h' }) : wpAny (model prog w) A (pyNext (.ref it)) Q E s := by
  obtain ⟨o, ho, hc, hd⟩ := id hit
  unfold pyNext
  refine wpAny_bind (wpAny_attempt (wpAny_callSpecial?_slot (name := Str.ofString "__next__") hit.typeIs F.slot_dict_keyiterator_next
    (wpAny_call_entry F.slot_dict_keyiterator_next hit.typeIs F.entry_dict_keyiterator_next ?_ (F.args_dict_keyiterator_next_1 _))))
  refine wpAny_bind (wpAny_pure ?_)
  refine wpAny_bind ?_
  refine wpAny_bind ?_
  first | refine wpAny_bind (wpAny_typeNameOfWhole_keyiter hit.typeIs (wpAny_pure ?_)) | refine wpAny_bind (wpAny_typeNameOf_keyiter hit.typeIs (wpAny_pure ?_))
  refine wpAny_bind (wpAny_fieldsOf ho hd ?_)
  have hown : Builtin.Dict_items.ownsTuple "dict_keyiterator" = false := by decide
  simp only [hown, Bool.false_eq_true, if_false]
  show wpAny _ _ (if (Value.ref d == Value.none) = true then _ else _) _ _ s
  rw [if_neg (show ¬ ((Value.ref d == Value.none) = true) from Bool.false_ne_true)]
  refine wpAny_bind (wpAny_pure ?_)
  refine wpAny_bind (wpAny_dictEntries hod hdd ?_)
  rw [if_neg (by rw [hsz]; simp)]
  refine wpAny_bind (wpAny_pure ?_)
  refine wpAny_bind (wpAny_dictEpoch hod hdd ?_)
  rw [if_neg (by simp)]
  refine wpAny_pure ?_
  have hge' : es.size ≤ i := by rw [hsz]; exact hge
  simp only [show ¬ ((i : Int) < 0) from by omega, if_false, Int.toNat_natCast, Array.getElem?_eq_none hge']
  refine wpAny_bind ?_
  first | refine wpAny_bind (wpAny_typeNameOfWhole_keyiter hit.typeIs (wpAny_pure ?_)) | refine wpAny_bind (wpAny_typeNameOf_keyiter hit.typeIs (wpAny_pure ?_))
  show wpAny _ _ (setField (.ref it) 0 .none >>= _) _ _ s
  refine wpAny_bind (wpAny_setField ho hd (by simp) ?_)
  show wpAny _ _ (newExc (.type "StopIteration") [] >>= _) _ _ _
  refine wpAny_bind ?_
  simp only [newExc, newTuple]
  refine wpAny_bind (wpAny_newObj_type ?_ (by size_fits))
  refine wpAny_bind (m := firstArgMember _ _) (wpAny_of_eq (a := Value.none) (by first | rfl | (simp only [firstArgMember]; rfl)) ?_)
  refine wpAny_newObj_type ?_ (by size_fits)
  simp only [raiseNew]
  refine wpAny_bind (wpAny_handled ?_)
  rw [show A.in1.handled = none from hh]
  refine wpAny_bind (wpAny_pure (wpAny_throw ?_))
  refine wpAny_bind (wpAny_isInstance (T := "StopIteration") (b := true) ⟨_, Heap.get?_push_size _ rfl, rfl⟩ isSubtype_stop ?_)
  exact wpAny_pure (hQ _ (((Heap.SameBut.update ..).extBut.push _).push _))
end
theorem kv_get {κ : Type} {kvs : List (κ × V)} {vs : List (κ × Value)} (h : KV kvs vs) : ∀ {i : Nat} {k : κ} {v : V}, kvs[i]? = some (k, v) → ∃ u, vs[i]? = some (k, u) ∧ RelV v u := by
  unfold KV at h
  induction h with
  | nil => intro i k v e; simp at e
  | @cons a b l₁ l₂ r t ih =>
    intro i k v e
    cases i with
    | zero =>
      simp only [List.getElem?_cons_zero, Option.some.injEq] at e
      subst e
      refine ⟨b.2, ?_, r.2⟩
      simp only [List.getElem?_cons_zero]
      exact congrArg some (Prod.ext r.1.symm rfl)
    | succ j =>
      simp only [List.getElem?_cons_succ] at e ⊢
      exact ih e
theorem paired_get {α β : Type} {G : α → β → Prop} {l₁ : List α} {l₂ : List β} (h : Paired G l₁ l₂) : ∀ {i : Nat} {a : α}, l₁[i]? = some a → ∃ b, l₂[i]? = some b ∧ G a b := by
  induction h with
  | nil => intro i a e; simp at e
  | @cons a b l₁ l₂ r t ih =>
    intro i a' e
    cases i with
    | zero =>
      simp only [List.getElem?_cons_zero, Option.some.injEq] at e
      subst e
      exact ⟨b, rfl, r⟩
    | succ j =>
      simp only [List.getElem?_cons_succ] at e ⊢
      exact ih e
theorem relV_key {k : Key} {u : Value} (h : keyIs k u = true) : RelV (kV k) u := by
  rcases keyIs_shape h with ⟨i, t, rfl, rfl⟩ | ⟨x, t, rfl, rfl⟩
  · exact ⟨t, rfl⟩
  · exact ⟨t, rfl⟩
section
variable {X : Cx} {pins : List (Addr × Obj)} {σ : St} {H : Hp} {s : Shared} {d : Addr} {o : Obj}
theorem Inv.frzK {kvs : List (Key × V)} (I : Inv X pins σ H s) (h : H d = some (.frz o (.dK kvs))) :
    (d == sysModules) = false ∧ s.heap.get? d = some o ∧ o.ExactDict ∧ ∃ (es : Array DictEntry) (ep : Nat) (vs : List (Key × Value)), o.data = .dict es ep ∧ es.size = kvs.length ∧ KV kvs vs ∧ s.heap.DictAt (mixKind X.prog X.w) d vs ep := by
  obtain ⟨hd, z, hs, vs, kv, o', es, ep, ho, hx, hdt, r⟩ := I.hok d _ h
  rw [hd] at ho
  cases ho
  refine ⟨hs, hd, hx, es, ep, vs, hdt, ?_, kv, o, es, hd, hx, hdt, r⟩
  have l1 := r.2.1.length
  have l2 : kvs.length = vs.length := Paired.length kv
  rw [Array.length_toList] at l1
  omega
theorem Inv.frzT {kvs : List (List Key × V)} (I : Inv X pins σ H s) (h : H d = some (.frz o (.dT kvs))) :
    (d == sysModules) = false ∧ s.heap.get? d = some o ∧ o.ExactDict ∧ ∃ (es : Array DictEntry) (ep : Nat), o.data = .dict es ep ∧ es.size = kvs.length ∧
      ∀ (i : Nat) (k : List Key) (v : V), kvs[i]? = some (k, v) → ∃ (en : DictEntry) (q : Addr), es[i]? = some en ∧ en.key = .ref q ∧ H q = some (.tup (k.map kV)) := by
  obtain ⟨hd, z, hs, xs, pr, o', es, ep, ho, hx, hdt, he, _⟩ := I.hok d _ h
  rw [hd] at ho
  cases ho
  refine ⟨hs, hd, hx, es, ep, hdt, ?_, fun i k v e => ?_⟩
  · have l1 : es.size = xs.length := size_of_entries he
    have l2 : kvs.length = xs.length := Paired.length pr
    omega
  · obtain ⟨b, hb, e1, e2, _⟩ := paired_get pr e
    have q := entry_at he i
    rw [hb] at q
    exact ⟨_, b.2.1, q, rfl, e2⟩
end
def Itk (d : Addr) (o : Obj) (kvs : List (Key × V)) : It :=
  ⟨fun i H => H d = some (.frz o (.dK kvs)) ∧ i < kvs.length, fun i H x H' => H' = H ∧ ∃ k v, kvs[i]? = some (k, v) ∧ x = kV k, fun i H => H d = some (.frz o (.dK kvs)) ∧ kvs.length ≤ i⟩
def Itkt (d : Addr) (o : Obj) (kvs : List (List Key × V)) : It :=
  ⟨fun i H => H d = some (.frz o (.dT kvs)) ∧ i < kvs.length, fun i H x H' => H' = H ∧ ∃ (k : List Key) (v : V) (q : Addr), kvs[i]? = some (k, v) ∧ x = .ref q ∧ H q = some (.tup (k.map kV)), fun i H => H d = some (.frz o (.dT kvs)) ∧ kvs.length ≤ i⟩
def Itd (d : Addr) (o : Obj) (kvs : List (Key × V)) : It :=
  ⟨fun i H => H d = some (.frz o (.dK kvs)) ∧ i < kvs.length, fun i H x H' => H' = H ∧ ∃ k, kvs[i]? = some (k, x), fun i H => H d = some (.frz o (.dK kvs)) ∧ kvs.length ≤ i⟩
theorem dict_ep {o : Obj} {es es' : Array DictEntry} {ep ep' : Nat} (h : o.data = .dict es ep) (h' : o.data = .dict es' ep') : es' = es ∧ ep' = ep := by
  rw [h] at h'
  cases h'
  exact ⟨rfl, rfl⟩
section
variable {P : Program} {w : World} {K : PySem.W.Frag} {tg : Expr} {d : Addr} {o : Obj} {es : Array DictEntry} {ep : Nat}
theorem turn_keys {kvs : List (Key × V)} (it : Addr) (hod : o.data = .dict es ep) : Turn P w K tg (Itk d o kvs) [it] it (fun i h => h.IsKeyIter it d i kvs.length ep) where
  mem := by simp
  obj := fun i h st b hb => by
    have e : b = it := by simpa using hb
    subst e
    obtain ⟨oi, e, c, dd⟩ := st
    exact ⟨oi, e, fun v z => by rw [dd] at z; cases z⟩
  keep := fun i h h' st k => st.at fun oi e => k it (by simp) oi e
  item := by
    intro X hP hw hK hc i pins s σ H E I hf st hg
    subst hP hw hK
    obtain ⟨hd, hi⟩ := hg
    obtain ⟨f0, f1, f2, f3, f4, f5⟩ := hf it (by simp)
    obtain ⟨hs, hgd, hx, es', ep', vs, hdt, hsz, kv, hm⟩ := I.frzK hd
    obtain ⟨rfl, rfl⟩ := dict_ep hod hdt
    obtain ⟨⟨k, v⟩, hkv⟩ : ∃ p, kvs[i]? = some p := ⟨kvs[i], List.getElem?_eq_getElem hi⟩
    obtain ⟨u, hu, ru⟩ := kv_get kv hkv
    have hl : kvs.length = vs.length := Paired.length kv
    rw [hl] at st
    refine wpAny_pyNext_dict_item st hm hu fun key h' hkey st' sb => ?_
    have I1 : Inv X pins σ H { s with heap := h' } := I.turned (t' := s.toks) (fun b ob hb e => (sb.2 b hb).trans e) f0 f1 f3 f4 f5
    obtain ⟨oi, e, c, dd⟩ := id st'
    refine ⟨key, rfl, go_of (s := { s with heap := h' }) e c dd (by decide) ⟨kV k, H, I1, relV_key (show keyIs k key = true from hkey), ⟨rfl, k, v, hkv, rfl⟩, ?_, fun b hb => (hf b hb).1⟩⟩
    show h'.IsKeyIter it d (i + 1) kvs.length _
    rw [hl]
    exact st'
  done := by
    intro X hP hw hK hc i pins s σ H E I hf st hg
    subst hP hw hK
    obtain ⟨hd, hi⟩ := hg
    obtain ⟨f0, f1, f2, f3, f4, f5⟩ := hf it (by simp)
    obtain ⟨hs, hgd, hx, es', ep', vs, hdt, hsz, kv, hm⟩ := I.frzK hd
    obtain ⟨rfl, rfl⟩ := dict_ep hod hdt
    exact next_key_end (I.ok.hd hc) st hgd hdt hsz hi fun h' eb => ⟨rfl, I.turned (t' := s.toks) (fun b ob hb e => eb b ob hb e) f0 f1 f3 f4 f5⟩
  self := fun A i s Q E st h => wpAny_pyIter_keyiter st h
theorem turn_keysT {kvs : List (List Key × V)} (it : Addr) (hod : o.data = .dict es ep) : Turn P w K tg (Itkt d o kvs) [it] it (fun i h => h.IsKeyIter it d i kvs.length ep) where
  mem := by simp
  obj := fun i h st b hb => by
    have e : b = it := by simpa using hb
    subst e
    obtain ⟨oi, e, c, dd⟩ := st
    exact ⟨oi, e, fun v z => by rw [dd] at z; cases z⟩
  keep := fun i h h' st k => st.at fun oi e => k it (by simp) oi e
  item := by
    intro X hP hw hK hc i pins s σ H E I hf st hg
    subst hP hw hK
    obtain ⟨hd, hi⟩ := hg
    obtain ⟨f0, f1, f2, f3, f4, f5⟩ := hf it (by simp)
    obtain ⟨hs, hgd, hx, es', ep', hdt, hsz, ent⟩ := I.frzT hd
    obtain ⟨rfl, rfl⟩ := dict_ep hod hdt
    obtain ⟨⟨k, v⟩, hkv⟩ : ∃ p, kvs[i]? = some p := ⟨kvs[i], List.getElem?_eq_getElem hi⟩
    obtain ⟨en, q, hen, hkey, hq⟩ := ent i k v hkv
    refine next_key_item st hgd hdt hsz hen fun h' st' sb => ?_
    have I1 : Inv X pins σ H { s with heap := h' } := I.turned (t' := s.toks) (fun b ob hb e => (sb.2 b hb).trans e) f0 f1 f3 f4 f5
    obtain ⟨oi, e, c, dd⟩ := id st'
    exact ⟨en.key, rfl, go_of (s := { s with heap := h' }) e c dd (by decide) ⟨.ref q, H, I1, hkey, ⟨rfl, k, v, q, hkv, rfl, hq⟩, st', fun b hb => (hf b hb).1⟩⟩
  done := by
    intro X hP hw hK hc i pins s σ H E I hf st hg
    subst hP hw hK
    obtain ⟨hd, hi⟩ := hg
    obtain ⟨f0, f1, f2, f3, f4, f5⟩ := hf it (by simp)
    obtain ⟨hs, hgd, hx, es', ep', hdt, hsz, ent⟩ := I.frzT hd
    obtain ⟨rfl, rfl⟩ := dict_ep hod hdt
    exact next_key_end (I.ok.hd hc) st hgd hdt hsz hi fun h' eb => ⟨rfl, I.turned (t' := s.toks) (fun b ob hb e => eb b ob hb e) f0 f1 f3 f4 f5⟩
  self := fun A i s Q E st h => by
    refine wpAny_pyIter_slot st.typeIs F.slot_dict_keyiterator_iter (wpAny_call_entry F.slot_dict_keyiterator_iter st.typeIs F.entry_dict_keyiterator_iter ?_ (F.args_dict_keyiterator_iter_1 _))
    show wpAny _ _ (ret (.ref it)) _ _ s
    exact wpAny_pure ⟨_, rfl, "dict_keyiterator", _, st.typeIs, F.slot_dict_keyiterator_next.lookup, h⟩
theorem turn_vals {kvs : List (Key × V)} (it : Addr) (hod : o.data = .dict es ep) : Turn P w K tg (Itd d o kvs) [it] it (fun i h => h.IsValIter it d i kvs.length ep) where
  mem := by simp
  obj := fun i h st b hb => by
    have e : b = it := by simpa using hb
    subst e
    obtain ⟨oi, e, c, dd⟩ := st
    exact ⟨oi, e, fun v z => by rw [dd] at z; cases z⟩
  keep := fun i h h' st k => st.at fun oi e => k it (by simp) oi e
  item := by
    intro X hP hw hK hc i pins s σ H E I hf st hg
    subst hP hw hK
    obtain ⟨hd, hi⟩ := hg
    obtain ⟨f0, f1, f2, f3, f4, f5⟩ := hf it (by simp)
    obtain ⟨hs, hgd, hx, es', ep', vs, hdt, hsz, kv, hm⟩ := I.frzK hd
    obtain ⟨rfl, rfl⟩ := dict_ep hod hdt
    obtain ⟨⟨k, v⟩, hkv⟩ : ∃ p, kvs[i]? = some p := ⟨kvs[i], List.getElem?_eq_getElem hi⟩
    obtain ⟨u, hu, ru⟩ := kv_get kv hkv
    have hl : kvs.length = vs.length := Paired.length kv
    rw [hl] at st
    refine wpAny_pyNext_values_item st hm hu fun h' st' sb => ?_
    have I1 : Inv X pins σ H { s with heap := h' } := I.turned (t' := s.toks) (fun b ob hb e => (sb.2 b hb).trans e) f0 f1 f3 f4 f5
    obtain ⟨oi, e, c, dd⟩ := id st'
    refine ⟨u, rfl, go_of (s := { s with heap := h' }) e c dd (by decide) ⟨v, H, I1, ru, ⟨rfl, k, hkv⟩, ?_, fun b hb => (hf b hb).1⟩⟩
    show h'.IsValIter it d (i + 1) kvs.length _
    rw [hl]
    exact st'
  done := by
    intro X hP hw hK hc i pins s σ H E I hf st hg
    subst hP hw hK
    obtain ⟨hd, hi⟩ := hg
    obtain ⟨f0, f1, f2, f3, f4, f5⟩ := hf it (by simp)
    obtain ⟨hs, hgd, hx, es', ep', vs, hdt, hsz, kv, hm⟩ := I.frzK hd
    obtain ⟨rfl, rfl⟩ := dict_ep hod hdt
    have hl : kvs.length = vs.length := Paired.length kv
    rw [hl] at st
    exact wpAny_pyNext_values_end (I.ok.hd hc) st hm (List.getElem?_eq_none (by omega)) fun h' eb => ⟨rfl, I.turned (t' := s.toks) (fun b ob hb e => eb b ob hb e) f0 f1 f3 f4 f5⟩
  self := fun A i s Q E st h => wpAny_pyIter_valiter st h
end
def iKeys (td : TE) : TI := fun σ H R => td σ H fun x H1 => ∃ d o, x = .ref d ∧ ((∃ kvs, H1 d = some (.frz o (.dK kvs)) ∧ R (Itk d o kvs) H1) ∨ ∃ kvs, H1 d = some (.frz o (.dT kvs)) ∧ R (Itkt d o kvs) H1)
def iVals (td : TE) : TI := fun σ H R => td σ H fun x H1 => ∃ d o kvs, x = .ref d ∧ H1 d = some (.frz o (.dK kvs)) ∧ R (Itd d o kvs) H1
section
variable {X : Cx} {tg e : Expr} {td : TE} {apos cpos : Pos}
theorem pi_keys (he : PE X e td) : PI X tg e (iKeys td) := by
  intro pins s σ H R I h
  refine thn (he pins s σ H _ I h) fun u s1 ⟨x, H1, I1, rx, d, o, ex, q⟩ => ?_
  subst ex
  obtain rfl : u = Value.ref d := rx
  rcases q with ⟨kvs, hd, q⟩ | ⟨kvs, hd, q⟩
  · obtain ⟨hs, hgd, hx, es, ep, vs, hdt, hsz, kv, hm⟩ := I1.frzK hd
    refine iter_keys hs hgd hx hdt (pi_one (tk := s1.toks) I1 _ (turn_keys _ hdt) ⟨_, Heap.get?_push_size _ rfl, rfl, ?_⟩ q)
    rw [hsz] <;> rfl
  · obtain ⟨hs, hgd, hx, es, ep, hdt, hsz, ent⟩ := I1.frzT hd
    refine iter_keys hs hgd hx hdt (pi_one (tk := s1.toks) I1 _ (turn_keysT _ hdt) ⟨_, Heap.get?_push_size _ rfl, rfl, ?_⟩ q)
    rw [hsz] <;> rfl
theorem pi_values (he : PE X e td) (hbase : attributeBase e "values" X.env (eval e X.env) = eval e X.env := by rfl) (hline : (apos.endLine == cpos.line) = true := by rfl) : PI X tg (.Call (.Attribute e "values" apos) [] [] cpos) (iVals td) := by
  intro pins s σ H R I h
  refine wpAny_Call_method (T := "dict") (id := "dict.values") hbase rfl hline F.plainAttrs_dict F.slot_dict_values F.type_dict_values (thn (he pins s σ H _ I h) fun u s1 ⟨x, H1, I1, rx, d, o, kvs, ex, hd, q⟩ => ?_)
  subst ex
  obtain rfl : u = Value.ref d := rx
  obtain ⟨hs, hgd, hx, es, ep, vs, hdt, hsz, kv, hm⟩ := I1.frzK hd
  have hl : kvs.length = vs.length := Paired.length kv
  refine ⟨hm.dictOf.typeIs, hm.dictOf.mapOf.noDict, ?_⟩
  have I2 : Inv X pins σ H1 { s1 with heap := s1.heap.push { cls := .type "dict_values", data := .fields #[.ref d] } } := I1.kept (t' := s1.toks) fun b ob q => Heap.get?_push_of_some _ q
  have fin : wpAny (model X.prog X.w) X.A (pyIter (.ref s1.heap.objs.size)) (PIE X pins σ tg R) X.xe { s1 with heap := s1.heap.push { cls := .type "dict_values", data := .fields #[.ref d] } } := by
    refine wpAny_pyIter_values (d := d) (knd := mixKind X.prog X.w) ⟨_, Heap.get?_push_size _ rfl, rfl, rfl⟩ (hm.push _) (pi_one (tk := s1.toks) I2 _ (turn_vals _ hdt) ⟨_, Heap.get?_push_size _ rfl, rfl, ?_⟩ q)
    rw [hl] <;> rfl
  show wpAny _ _ (callWith cpos (.builtin "dict.values") [.ref d] [] []) _ X.xe s1
  exact method_meetsIn F.slot_dict_values F.entry_dict_values rfl (PySem.evalArgs_none ⟨rfl, hm.dictOf.typeIs, F.args_dict_values_1 _, _, meets_dict_values (mixKind X.prog X.w) d hs, ⟨vs, hm.dictOf⟩, fin⟩)
end
def Ite (K : PySem.W.Frag) (a : Addr) : It :=
  ⟨fun i H => ∃ (xs : List V) (x : V), SqL K H a xs ∧ xs[i]? = some x, fun i H v H' => ∃ T x, v = .ref T ∧ H T = none ∧ H' = upd H T (.tup [.int (i : Nat), x]) ∧ ∀ xs, SqL K H a xs → xs[i]? = some x, fun i H => ∃ xs : List V, SqL K H a xs ∧ xs.length ≤ i⟩
theorem turn_enum {P : Program} {w : World} {K : PySem.W.Frag} {elts : List Expr} {kk : Nat} {tpos : Pos} (a e it : Addr) :
    Turn P w K (.Tuple elts kk tpos) (Ite K a) [e, it] e (fun i h => (∃ old, IsEnum h e it ((i : Nat) : Int) old) ∧ h.IsListIter it a i ∧ e ≠ it) where
  mem := by simp
  obj := fun i h st b hb => by
    obtain ⟨⟨old, he⟩, ⟨o, ho, hc, hd⟩, _⟩ := st
    have e' : b = e ∨ b = it := by simpa using hb
    rcases e' with z | z
    · rw [z]; exact ⟨_, he, fun v q => nomatch q⟩
    · rw [z]; exact ⟨o, ho, fun v q => by rw [hd] at q; cases q⟩
  keep := fun i h h' st k => let ⟨⟨old, he⟩, hi, hne⟩ := st; ⟨⟨old, k e (by simp) _ he⟩, hi.at fun o q => k it (by simp) o q, hne⟩
  item := by
    intro X hP hw hK hc i pins s σ H E I hf st hg
    subst hP hw hK
    obtain ⟨⟨old, he⟩, hit, hne⟩ := st
    obtain ⟨xs, x, hq, hx⟩ := hg
    obtain ⟨its, rv, p, hz⟩ := I.list hq
    obtain ⟨u, hu, ru⟩ := rv.get hx
    have hel : e < s.heap.objs.size := Heap.lt_size he
    have hil : it < s.heap.objs.size := by obtain ⟨_, q, _⟩ := hit; exact Heap.lt_size q
    refine wpAny_pyNext_enum_item he hit p.isList (x := u) (by simpa using hu) hne fun h' ho hit' hT hsz hk => ?_
    refine ⟨_, rfl, wpAny_letOwnedTupleGo_enum (s := { s with heap := h', toks := s.toks + 1 }) ho fun h'' he' sb => ?_⟩
    have hT2 : h''.get? s.heap.objs.size = some { cls := .type "tuple", data := .seq #[.int i s.toks, u] } := (sb.2 _ (Nat.ne_of_gt hel)).trans hT
    have new : ObjOk X.prog X.w (upd H s.heap.objs.size (.tup [.int (i : Nat), x])) h'' s.heap.objs.size (.tup [.int (i : Nat), x]) :=
      ⟨by show 2 ≤ sizeLine; decide, [.int i s.toks, u], .cons ⟨_, rfl⟩ (.cons ru .nil), ⟨_, hT2, rfl, _, rfl⟩⟩
    have I1 : Inv X pins σ (upd H s.heap.objs.size (.tup [.int (i : Nat), x])) { s with heap := h'', toks := s.toks + 1 } :=
      I.turnedNew (ch := [e, it]) (fun b ob hb q => (sb.2 b (fun z => hb (by simp [z]))).trans (hk b ob (fun z => hb (by simp [z])) (fun z => hb (by simp [z])) q)) hf (Nat.le_refl _) new
    refine ⟨.ref s.heap.objs.size, _, I1, rfl, ⟨_, x, rfl, I.hok.fresh (Nat.le_refl _), rfl, fun ys hy => by rw [I.list_inj hy hq]; exact hx⟩, ⟨⟨u, ?_⟩, hit'.at fun o q => (sb.2 it (Ne.symm hne)).trans q, hne⟩, fun b hb => ?_⟩
    · have e1 : ((i + 1 : Nat) : Int) = (i : Int) + 1 := by omega
      rw [e1]; exact he'
    · have hb' : b < s.heap.objs.size := by
        have e' : b = e ∨ b = it := by simpa using hb
        rcases e' with z | z
        · rw [z]; exact hel
        · rw [z]; exact hil
      rw [upd_ne (Nat.ne_of_lt hb')]
      exact (hf b hb).1
  done := by
    intro X hP hw hK hc i pins s σ H E I hf st hg
    subst hP hw hK
    obtain ⟨⟨old, he⟩, hit, hne⟩ := st
    obtain ⟨xs, hq, hx⟩ := hg
    obtain ⟨its, rv, p, hz⟩ := I.list hq
    obtain ⟨f0, f1, f2, f3, f4, f5⟩ := hf it (by simp)
    have hl := rv.length
    exact wpAny_pyNext_enum_end (I.ok.hd hc) he hit p.isList (by simp; omega) fun h' eb => ⟨rfl, I.turned (t' := s.toks) (fun b o hb q => eb b o hb q) f0 f1 f3 f4 f5⟩
  self := fun A i s Q E st h => let ⟨⟨_, he⟩, _⟩ := st; wpAny_pyIter_enum he h
def iEnum (K : PySem.W.Frag) (ta : TA) : TI := fun σ H R => ta σ H fun vs H1 => ∃ a xs, vs = [.ref a] ∧ SqL K H1 a xs ∧ R (Ite K a) H1
theorem pi_enum {X : Cx} {e : Expr} {ta : TA} {p pos tpos : Pos} {elts : List Expr} {kk : Nat} (hg : Gl X "enumerate") (hm : X.mg "enumerate" = none) (ha : PA X [e] ta) (hs : starEach [e] X.env = [(false, eval e X.env)] := by rfl) :
    PI X (.Tuple elts kk tpos) (.Call (.Name "enumerate" p) [e] [] pos) (iEnum X.K ta) := by
  intro pins s σ H R I h
  refine Call_ (ld_blt I hg hm boot_enumerate (PyProof.Rows.callWith_type1 (thn (ha pos pins s σ H _ I h) fun us s1 ⟨vs, H1, I1, r1, q1⟩ => ?_) hs rfl))
  obtain ⟨a, xs, ex, hq, q⟩ := q1
  subst ex
  cases r1 with
  | cons r rr =>
    cases rr
    cases r
    obtain ⟨its, rv, p', hz⟩ := I1.list hq
    refine call_enumerate_list p'.isList fun h' he hit hsz hk => wpAny_pyIter_enum he ?_
    have I2 : Inv X pins σ H1 { s1 with heap := h' } := I1.kept (t' := s1.toks) hk
    refine ⟨s1.heap.objs.size + 1, [s1.heap.objs.size + 1, s1.heap.objs.size], _, _, H1, rfl, I2, turn_enum a (s1.heap.objs.size + 1) s1.heap.objs.size, ⟨⟨.none, he⟩, hit, Nat.succ_ne_self _⟩, fun b hb => ?_, q⟩
    have e' : b = s1.heap.objs.size + 1 ∨ b = s1.heap.objs.size := by simpa using hb
    have hle : s1.heap.objs.size ≤ b := by
      rcases e' with z | z
      · rw [z]; exact Nat.le_add_right _ _
      · rw [z]; exact Nat.le_refl _
    exact I1.fpOk hle (I1.hok.fresh hle)
end L2
section
namespace Bits
open PySem PyProof.Rows
theorem nat_xor_add_and (m : Nat) : ∀ n : Nat, (m ^^^ n) + 2 * (m &&& n) = m + n := by
  induction m using Nat.strongRecOn with
  | _ m ih =>
    intro n
    by_cases h0 : m = 0
    · subst h0
      simp
    · have ih' := ih (m / 2) (by omega) (n / 2)
      rw [← Nat.xor_div_two, ← Nat.and_div_two] at ih'
      have o1 := @Nat.xor_mod_two_eq_one m n
      have a1 := @Nat.and_mod_two_eq_one m n
      omega
theorem bitXor_pp {x y : Int} (hx : 0 ≤ x) (hy : 0 ≤ y) : Builtin.bitXor x y = ((x.toNat ^^^ y.toNat : Nat) : Int) := by
  have e := nat_xor_add_and x.toNat y.toNat
  rw [bitXor_and, bitAnd_pp hx hy]
  omega
theorem bitOr_pp {x y : Int} (hx : 0 ≤ x) (hy : 0 ≤ y) : Builtin.bitOr x y = ((x.toNat ||| y.toNat : Nat) : Int) := by
  have e := nat_or_add_and x.toNat y.toNat
  rw [bitOr_and, bitAnd_pp hx hy]
  omega
end Bits
end
section
namespace TL
open PySem PySem.Builtin PySem.Builtin.Str PySem.StrLaws
abbrev tl (x : Str) : List Nat := x.cps.toList
def pre (S l : List Nat) : Bool := l.take S.length == S
def par (S : List Nat) : List Nat → List Nat → Option (List Nat × List Nat)
  | _, [] => none
  | acc, c :: r => if pre S (c :: r) = true then some (acc, (c :: r).drop S.length) else par S (acc ++ [c]) r
end TL
end
namespace L2
open PySem PySem.Spec PyProof.Rows
section
variable {X : Cx} {pins : List (Addr × Obj)} {σ : St} {H : Hp} {s : Shared} {Q : VK}
end
section
variable {X : Cx}
end
section
variable {X : Cx} {o e : Expr} {to te : TE}
end
end L2
namespace L2
open PySem PySem.Spec PyProof.Rows
section
variable {X : Cx}
end
end L2
namespace Att
open PySem PySem.W PySem.Calls PyProof.Rows
section
variable {prog : Program} {w : World} {A : Around} {E : Value → Shared → Prop} {s : Shared} {K : Frag}
end
end Att
namespace L2
open PySem PySem.Spec PyProof.Rows
theorem vals_ints : ∀ {vs : List Value} {ns : List Int}, IntsAre vs ns → Vals (ns.map V.int) vs
  | _, _, .nil => .nil
  | _, _, .cons n t h => .cons ⟨t, rfl⟩ (vals_ints h)
def Only (H : Hp) : Prop := ∀ b, H b = none ∨ ∃ o xs, H b = some (.frz o (.lst xs))
theorem law_call {P : Program} {w : World} {K : PySem.W.Frag} {mg mb : Str → Option Value} {CX : CXT} {k : Nat} {fa a : Addr} {fd : FuncData} {x : Str} {sp : Sp} {s₁ : Shared} {vs : List Value} {ns : List Int}
    (KX : K.In s₁.heap) (hns : s₁.heap.Ns mainGlobals mg) (hb : s₁.heap.Ns builtinsNs mb) (hbb : ∀ x : Str, x ≠ "__name__" → mb x = bootBuiltins x) (hlim : s₁.heap.NoLimit) (hg : s₁.gens = #[])
    (ha : s₁.heap.get? a = some { cls := .type "list", data := .seq vs.toArray }) (hi : IntsAre vs ns) (hl : ns.length ≤ sizeLine) (hr : Room k callerA)
    (F : ∀ base : Heap, K.In base → base.Ns mainGlobals mg → FnOk P w K mg base CX k fa fd [x] sp) (hbind : ∀ (s : Shared) (u : Value), BindsTo s fd ⟨[u], []⟩ [(x, u)])
    (hsp : ∀ H : Hp, Only H → SqL K H a (ns.map V.int) → sp [.ref a] H (fun v _ => v = .bl true) fun _ _ _ => False)
    (hCX : ∀ H e s', CX [] H s₁ (fun _ _ _ => False) e s' → False) :
    codeAny (model P w) callerA (.call (.ref fa) ⟨[.ref a], []⟩) (fun r s' => r = .ok (.ret (.bool true)) ∧ OldK s₁.heap s'.heap ∧ s'.os = s₁.os ∧ AllBare s'.gens) s₁ := by
  have rv := vals_ints hi
  have lenV := hi.length
  have core : ∀ H : Hp, Only H → SqL K H a (ns.map V.int) → HOk P w H s₁.heap → (∀ b, H b ≠ none → b = a) → (H a ≠ none → K.lookup a = none) →
      codeAny (model P w) callerA (.call (.ref fa) ⟨[.ref a], []⟩) (fun r s' => r = .ok (.ret (.bool true)) ∧ OldK s₁.heap s'.heap ∧ s'.os = s₁.os ∧ AllBare s'.gens) s₁ := by
    intro H hO hS hok hA hK
    have base_of : ∀ {b : Addr} {o : Obj}, s₁.heap.get? b = some o → H b = none → (hidT s₁.heap H).get? b = some o := fun e n => hidT_get e n
    have noA : ∀ {b : Addr} {o : Obj} {es : Array DictEntry} {ep : Nat}, s₁.heap.get? b = some o → o.data = .dict es ep → H b = none := fun {b o es ep} e d => by
      cases q : H b with
      | none => rfl
      | some u =>
        have e' : b = a := hA b (by rw [q]; simp)
        subst e'
        rw [ha] at e; cases e
        have d' : Data.seq vs.toArray _ = Data.dict es ep := d
        cases d'
    have nsK : ∀ {b : Addr} {m : Str → Option Value}, s₁.heap.Ns b m → (hidT s₁.heap H).Ns b m := fun {b m} ⟨o, es, ep, e, d, r⟩ => ⟨o, es, ep, base_of e (noA e d), d, r⟩
    have hKb : K.In (hidT s₁.heap H) := fun b o e => base_of (KX b o e) (by
      cases q : H b with
      | none => rfl
      | some u =>
        have e' : b = a := hA b (by rw [q]; simp)
        subst e'
        rw [hK (by rw [q]; simp)] at e; cases e)
    have hM : Mod K mg (hidT s₁.heap H) := ⟨hKb, nsK hns, ⟨mb, nsK hb, hbb⟩, let ⟨mc, h1, h2⟩ := hlim; ⟨mc, nsK h1, h2⟩⟩
    have e0 : Env0 P w K mg (hidT s₁.heap H) callerA [] s₁ H := ⟨rfl, hM, fun b o e => of_hidT e, Nat.le_of_eq (hidT_size _ _), trivial, fun b hb => absurd (show b ∈ ([] : List Addr) from hb) (by simp), hok, .of_eq hg⟩
    refine codeAny_mono ((F _ hKb (nsK hns)).run callerA [] s₁ H ⟨[.ref a], []⟩ [.ref a] [.ref a] _ _ hr e0 (hbind s₁ (.ref a)) (.cons rfl .nil) (hsp H hO hS)) fun r s' h => ?_
    cases r with
    | error e => exact (hCX H e s' h).elim
    | ok fl =>
      cases fl with
      | next => exact False.elim h
      | brk => exact False.elim h
      | cont => exact False.elim h
      | ret u =>
        obtain ⟨v, H', os, bare, un, hok', r', q⟩ := h
        have q' : v = .bl true := q
        subst q'
        obtain rfl : u = Value.bool true := r'
        refine ⟨rfl, OldK.of_keep fun b o e => ?_, os, bare⟩
        cases q : H b with
        | none => exact un.keep b o e q (by intro z; exact absurd (show b ∈ ([] : List Addr) from z) (by simp)) (by simp)
        | some u =>
          rcases hO b with z | ⟨ob, xs, z⟩
          · rw [q] at z; cases z
          · have z2 := un.frzs b ob _ z
            obtain ⟨e1, _⟩ := hok b _ z
            obtain ⟨e2, _⟩ := hok' b _ z2
            rw [e] at e1; cases e1
            exact e2
  cases hk : K.lookup a with
  | some o =>
    have e := KX a o hk
    rw [ha] at e
    cases e
    refine core (fun _ => none) (fun _ => .inl rfl) (.inr ⟨_, vs.toArray, _, hk, rfl, rfl, rfl, by rw [List.size_toArray, lenV]; exact hl, by simpa using rv⟩) (fun b u z => by have z' : (none : Option HO) = some u := z; cases z') (fun b z => absurd rfl z) fun z => absurd rfl z
  | none =>
    refine core (fun b => if b = a then some (.frz { cls := .type "list", data := .seq vs.toArray } (.lst (ns.map V.int))) else none) (fun b => ?_) (.inl (.inr ⟨{ cls := .type "list", data := .seq vs.toArray }, if_pos rfl⟩)) (fun b u z => ?_) (fun b z => ?_) fun _ => hk
    · by_cases hb : b = a
      · exact .inr ⟨_, _, if_pos hb⟩
      · exact .inl (if_neg hb)
    · by_cases hb : b = a
      · have z' := (if_pos hb).symm.trans z
        cases z'
        subst hb
        exact ⟨ha, by rw [List.length_map]; exact hl, vs, _, rv, ha⟩
      · have z' := (if_neg hb).symm.trans z
        cases z'
    · by_cases hb : b = a
      · exact hb
      · exact absurd (if_neg hb) z
end L2
namespace L2
open PySem PySem.Spec PyProof.Rows
end L2
namespace L2
open PySem PySem.Spec PyProof.Rows
def inClass (s : Stmt) (j : Nat) : Stmt := match s with
  | .ClassDef _ _ _ body _ _ _ _ _ _ _ => body.getD j (.Pass ⟨0, 0, 0, 0⟩)
  | _ => .Pass ⟨0, 0, 0, 0⟩
def defArgs (s : Stmt) : Arguments := match s with
  | .FunctionDef _ a _ _ _ _ _ _ _ _ => a
  | _ => { posonlyargs := [], args := [], vararg := none, kwonlyargs := [], kw_defaults := [], kwarg := none, defaults := [] }
def defBody (s : Stmt) : List Stmt := match s with
  | .FunctionDef _ _ b _ _ _ _ _ _ _ => b
  | _ => []
def defScope (s : Stmt) : Scope := match s with
  | .FunctionDef _ _ _ _ _ _ sc _ _ _ => sc
  | _ => { kind := .function, names := [], isGenerator := false, isCoroutine := false }
abbrev CX0 : CXT := fun _ _ _ _ _ _ => False
abbrev E0 : XK := fun _ _ _ => False
structure Fun (K : PySem.W.Frag) (x qual : Str) (st : Stmt) (f : Addr) (fd : FuncData) : Prop where
  ex : ∃ (oc : Value) (od : Option Addr) (kV doc pm : Value) (an : Option Addr) (cdv ct : Value) (osl : Array (Option Value)),
    fd = PySem.W.fnOf x qual (defArgs st) (defBody st) (defScope st) .none kV doc pm an cdv ct ∧ K.lookup f = some ⟨oc, od, .func fd, osl⟩ ∧ PySem.W.codeIn K cdv qual = true
  kp : PySem.W.keepIn K (.ref f) = true
section
variable {P : Program} {w : World} {K : PySem.W.Frag} {mg : Str → Option Value} {base : Heap}
theorem Fun.ok {x qual : Str} {st : Stmt} {f : Addr} {fd : FuncData} {N ps : List Str} {k : Nat} {sp : Sp} (F : Fun K x qual st f fd) (S : FnScope N ps (defScope st)) (len : ∀ vs H Q E, sp vs H Q E → vs.length = ps.length)
    (hbody : ∀ (cdv : Value) (A : Around) (outer : List Env) (s : Shared) (H : Hp) (vs : List V) (Q : VK) (E : XK), Room k (A.deeper (envOfC qual (defScope st) s.heap.objs.size f cdv)) → sp vs H Q E →
      ∃ t, PSs (cxOf CX0 P w K mg base N qual (defScope st) f cdv A outer s H E).nox (defBody st) t ∧ t { nx := fun _ H' => Q .non H', rt := Q } (start N vs) H) : FnOk P w K mg base CX0 (k + 1) f fd ps sp := by
  obtain ⟨oc, od, kV, doc, pm, an, cdv, ct, osl, rfl, lk, hcd⟩ := F.ex
  refine fn_of lk hcd S len fun A outer s H vs Q E hr hsp => ?_
  obtain ⟨t, h, q⟩ := hbody cdv A outer s H vs Q E hr hsp
  exact ⟨t, h.nox, q⟩
theorem Fun.binds {x qual : Str} {st : Stmt} {f : Addr} {fd : FuncData} {ps : List Str} (F : Fun K x qual st f fd)
    (h : ∀ (kV doc pm : Value) (an : Option Addr) (cdv ct : Value) (us : List Value), us.length = ps.length → bindArgs (PySem.W.fnOf x qual (defArgs st) (defBody st) (defScope st) .none kV doc pm an cdv ct) ⟨us, []⟩ = pure (ps.zip us)) : Binds K fd ps [] := by
  obtain ⟨oc, od, kV, doc, pm, an, cdv, ct, osl, rfl, lk, hcd⟩ := F.ex
  exact .all (h kV doc pm an cdv ct)
theorem fun_mk {x qual : Str} {st : Stmt} {f : Addr} {oc : Value} {od an : Option Addr} {osl : Array (Option Value)} {kV doc pm cdv ct : Value} (l : K.lookup f = some ⟨oc, od, .func (PySem.W.fnOf x qual (defArgs st) (defBody st) (defScope st) .none kV doc pm an cdv ct), osl⟩)
    (c : PySem.W.codeIn K cdv qual = true) (k : PySem.W.keepIn K (.ref f) = true) : Fun K x qual st f (PySem.W.fnOf x qual (defArgs st) (defBody st) (defScope st) .none kV doc pm an cdv ct) := ⟨⟨oc, od, kV, doc, pm, an, cdv, ct, osl, rfl, l, c⟩, k⟩
end
theorem hu_of {A : Around} {k : Nat} (hr : Room k A) : A.units + 1 < cLine := Nat.lt_of_le_of_lt (Nat.add_le_add_left (by decide : 1 ≤ 64) _) hr.units
section
variable {X : Cx}
theorem pv (i : Nat) {x : Str} {pos : Pos} (hN : X.N[i]? = some x := by rfl) (hv : Vis X.env.scope x := by first | exact Or.inl rfl | exact Or.inr (Or.inl rfl) | exact Or.inr (Or.inr rfl)) (hd : (x == ("__debug__" : Str)) = false := by decide)
    (hcd : (x == ("__classdict__" : Str)) = false := by decide) : PE X (.Name x pos) (tVar i) := pe_var hN hv hd hcd
end
theorem iteF {A B : Prop} (h : B) : if false = true then A else B := by
  rw [if_neg Bool.false_ne_true]
  exact h
theorem iteT {A B : Prop} (h : A) : if true = true then A else B := by
  rw [if_pos rfl]
  exact h
theorem ite2 {c A B : Prop} [Decidable c] (h1 : c → A) (h2 : ¬ c → B) : if c then A else B := by
  by_cases h : c
  · rw [if_pos h]
    exact h1 h
  · rw [if_neg h]
    exact h2 h
def Same (H H' : Hp) : Prop := ∀ b o, H b = some o → H' b = some o
theorem Same.refl (H : Hp) : Same H H := fun _ _ h => h
theorem Same.trans {H H1 H2 : Hp} (a : Same H H1) (b : Same H1 H2) : Same H H2 := fun c o h => b c o (a c o h)
theorem Same.free {H H' : Hp} (e : Same H H') {l : Addr} (h : H' l = Option.none) : H l = Option.none := by
  cases q : H l with
  | none => rfl
  | some o =>
    rw [e l o q] at h
    cases h
theorem Same.seq {K : PySem.W.Frag} {H H' : Hp} {a : Addr} {xs : List V} (e : Same H H') (h : SqL K H a xs) : SqL K H' a xs := by
  rcases h with (h | ⟨o, h⟩) | h
  · exact .inl (.inl (e _ _ h))
  · exact .inl (.inr ⟨o, e _ _ h⟩)
  · exact .inr h
section
variable {κ : Type} [DecidableEq κ]
end
theorem at_of {xs : List V} {z : Int} {j : Nat} {v : V} (e : z = (j : Int)) (h : xs[j]? = some v) : atI xs z = some v := by
  rw [e]
  exact atI_nat h
theorem Same.made {H H1 : Hp} {x dx C : Addr} (nx : H x = Option.none) (nd : H dx = Option.none) (k : ∀ b o, (upd (upd H dx (.own x)) x (.ins C dx [])) b = some o → b ≠ x → H1 b = some o) : Same H H1 := fun b o e =>
  k b o (by rw [upd_ne (ne_of_none e nx), upd_ne (ne_of_none e nd)]; exact e) (ne_of_none e nx)
end L2
section
set_option Elab.async false
set_option linter.all false
set_option maxRecDepth 100000
set_option maxHeartbeats 2000000
namespace L2
open PySem PySem.Spec PyProof.Rows
open PySem.W (WData Codec OpenSpec Well WellAll ReadsW ReadsAllW)
mutual
inductive Dw (K : PySem.W.Frag) (H : Hp) : V → WData → Prop
  | non : Dw K H .non .none
  | bl (b : Bool) : Dw K H (.bl b) (.bool b)
  | int (i : Int) : Dw K H (.int i) (.int i)
  | str (x : Str) : Dw K H (.str x) (.str x)
  | byt (b : Array UInt8) : Dw K H (.byt b) (.bytes b.toList)
  | lst {a : Addr} {xs : List V} {ds : List WData} : SqL K H a xs → DwAll K H xs ds → Dw K H (.ref a) (.list ds)
  | tup {a : Addr} {xs : List V} {ds : List WData} : SqT K H a xs → DwAll K H xs ds → Dw K H (.ref a) (.tuple ds)
inductive DwAll (K : PySem.W.Frag) (H : Hp) : List V → List WData → Prop
  | nil : DwAll K H [] []
  | cons {v : V} {vs : List V} {d : WData} {ds : List WData} : Dw K H v d → DwAll K H vs ds → DwAll K H (v :: vs) (d :: ds)
end
theorem dw_ints {K : PySem.W.Frag} {H : Hp} : ∀ ns : List Int, DwAll K H (ns.map V.int) (ns.map WData.int)
  | [] => .nil
  | n :: r => .cons (.int n) (dw_ints r)
theorem ints_dw {K : PySem.W.Frag} {H : Hp} : ∀ (ns : List Int) (xs : List V), DwAll K H xs (ns.map WData.int) → xs = ns.map V.int
  | [], xs, h => by
    cases h
    rfl
  | n :: r, xs, h => by
    cases h with
    | cons h1 h2 =>
      cases h1
      rw [ints_dw r _ h2] <;> rfl
section
variable {P : Program} {w : World} {K : PySem.W.Frag} {H : Hp} {h : Heap} {R : PySem.W.WRecords} {cl : Str → Option Addr}
theorem sqL_at {a : Addr} {xs : List V} (hok : HOk P w H h) (KX : K.In h) (q : SqL K H a xs) : ∃ (its : List Value) (o : Obj) (n : Nat), Vals xs its ∧ h.get? a = some o ∧ o.cls = .type "list" ∧ o.data = .seq its.toArray n := by
  rcases q with q | ⟨o, its, n, e, hc, _, hd, _, hv⟩
  · obtain ⟨_, its, n, hv, e⟩ := (show ObjOk P w H h a (.lst xs) from q.ok hok)
    exact ⟨its, _, n, hv, e, rfl, rfl⟩
  · exact ⟨its.toList, o, n, hv, KX _ _ e, hc, by simp [hd]⟩
theorem sqT_at {a : Addr} {xs : List V} (hok : HOk P w H h) (KX : K.In h) (q : SqT K H a xs) : ∃ (its : List Value) (o : Obj) (n : Nat), Vals xs its ∧ h.get? a = some o ∧ o.cls = .type "tuple" ∧ o.data = .seq its.toArray n := by
  rcases q with q | ⟨o, its, n, e, hc, hd, _, hv⟩
  · obtain ⟨_, its, hv, o, e, hc, n, hd⟩ := (show ObjOk P w H h a (.tup xs) from q.ok hok)
    exact ⟨its, o, n, hv, e, hc, hd⟩
  · exact ⟨its.toList, o, n, hv, KX _ _ e, hc, by simp [hd]⟩
mutual
theorem Dw.reads (hok : HOk P w H h) (KX : K.In h) : ∀ (d : WData) (v : V) (u : Value), Dw K H v d → RelV v u → ∃ as, ReadsW R cl h u d as
  | .none, _, _, x, r => by
    cases x
    cases r
    exact ⟨_, ReadsW.none⟩
  | .bool b, _, _, x, r => by
    cases x
    cases r
    exact ⟨_, ReadsW.bool b⟩
  | .int i, _, _, x, r => by
    cases x
    obtain ⟨t, rfl⟩ := r
    exact ⟨_, ReadsW.int i t⟩
  | .str s, _, _, x, r => by
    cases x
    obtain ⟨t, rfl⟩ := r
    exact ⟨_, ReadsW.str s t⟩
  | .bytes b, _, _, x, r => by
    cases x
    obtain ⟨t, rfl⟩ := r
    exact ⟨_, ReadsW.bytes _ t⟩
  | .list ds, _, _, x, r => by
    cases x with
    | lst hs ha =>
      cases r
      obtain ⟨its, o, n, rv, ho, hc, hd⟩ := sqL_at hok KX hs
      obtain ⟨as, hr⟩ := Dw.readsAll hok KX ds _ its ha rv
      exact ⟨_, ReadsW.list ho hc hd hr⟩
  | .tuple ds, _, _, x, r => by
    cases x with
    | tup hs ha =>
      cases r
      obtain ⟨its, o, n, rv, ho, hc, hd⟩ := sqT_at hok KX hs
      obtain ⟨as, hr⟩ := Dw.readsAll hok KX ds _ its ha rv
      exact ⟨_, ReadsW.tuple ho hc hd hr⟩
  | .float _, _, _, x, _ => by cases x
  | .dict _, _, _, x, _ => by cases x
  | .bytearray _, _, _, x, _ => by cases x
  | .set _, _, _, x, _ => by cases x
  | .frozenset _, _, _, x, _ => by cases x
  | .obj _ _, _, _, x, _ => by cases x
theorem Dw.readsAll (hok : HOk P w H h) (KX : K.In h) : ∀ (ds : List WData) (vs : List V) (us : List Value), DwAll K H vs ds → Vals vs us → ∃ as, ReadsAllW R cl h us ds as
  | [], _, _, x, r => by
    cases x
    cases r
    exact ⟨_, ReadsAllW.nil⟩
  | d :: ds, _, _, x, r => by
    cases x with
    | cons h1 h2 =>
      cases r with
      | cons r1 r2 =>
        obtain ⟨as, q1⟩ := Dw.reads hok KX d _ _ h1 r1
        obtain ⟨bs, q2⟩ := Dw.readsAll hok KX ds _ _ h2 r2
        exact ⟨_, ReadsAllW.cons q1 q2⟩
end
end
mutual
def plW : WData → Bool
  | .none => true
  | .bool _ => true
  | .int _ => true
  | .str _ => true
  | .bytes _ => true
  | .list xs => plWs xs
  | .tuple xs => plWs xs
  | _ => false
def plWs : List WData → Bool
  | [] => true
  | x :: r => plW x && plWs r
end
theorem plWs_map {α : Type} {f : α → WData} (h : ∀ a, plW (f a) = true) : ∀ l : List α, plWs (l.map f) = true
  | [] => rfl
  | x :: r => by
    show (plW (f x) && plWs (r.map f)) = true
    rw [h x, plWs_map h r] <;> rfl
theorem pl_enc : ∀ (c : Codec) (a : c.denote), plW (c.enc a) = true
  | .unit, _ => rfl
  | .bool, _ => rfl
  | .int _ _, _ => rfl
  | .nat _ _, _ => rfl
  | .u8, _ => rfl
  | .bytes _ _, _ => rfl
  | .text _ _ _ _, _ => rfl
  | .list _ _ c, a => plWs_map (fun x => pl_enc c x) a
  | .pair c d, a => by
    show (plW (c.enc a.1) && (plW (d.enc a.2) && true)) = true
    rw [pl_enc c a.1, pl_enc d a.2] <;> rfl
  | .triple c d e, a => by
    show (plW (c.enc a.1) && (plW (d.enc a.2.1) && (plW (e.enc a.2.2) && true))) = true
    rw [pl_enc c a.1, pl_enc d a.2.1, pl_enc e a.2.2] <;> rfl
  | .option c, none => rfl
  | .option c, some x => pl_enc c x
theorem pl_encAll : ∀ (cs : List Codec) (a : Codec.denoteAll cs), plWs (Codec.encAll cs a) = true
  | [], _ => rfl
  | c :: cs, a => by
    show (plW (c.enc a.1) && plWs (Codec.encAll cs a.2)) = true
    rw [pl_enc c a.1, pl_encAll cs a.2] <;> rfl
theorem weight_mem : ∀ {xs : List WData} {d : WData}, d ∈ xs → d.weight ≤ WData.weightAll xs
  | [], d, h => absurd h (by simp)
  | x :: r, d, h => by
    show d.weight ≤ x.weight + 1 + WData.weightAll r
    rcases List.mem_cons.mp h with e | m
    · rw [e]
      omega
    · have z := weight_mem m
      omega
def toV : Value → V
  | .none => .non
  | .bool b => .bl b
  | .int i _ => .int i
  | .str x _ => .str x
  | .bytes b _ => .byt b
  | .ref a => .ref a
  | _ => .non
def OkU (A : List Addr) : Value → Prop
  | .none => True
  | .bool _ => True
  | .int _ _ => True
  | .str _ _ => True
  | .bytes _ _ => True
  | .ref a => a ∈ A
  | _ => False
theorem OkU.mono {A B : List Addr} (h : ∀ a ∈ A, a ∈ B) : ∀ {u : Value}, OkU A u → OkU B u := fun {u} x => by
  cases u with
  | ref a => exact h a x
  | none => trivial
  | bool b => trivial
  | int i t => trivial
  | str s t => trivial
  | bytes b t => trivial
  | _ => exact False.elim x
theorem relV_toV {A : List Addr} {u : Value} (x : OkU A u) : RelV (toV u) u := by
  cases u with
  | ref a => rfl
  | none => rfl
  | bool b => rfl
  | int i t => exact ⟨t, rfl⟩
  | str s t => exact ⟨t, rfl⟩
  | bytes b t => exact ⟨t, rfl⟩
  | _ => exact False.elim x
theorem vals_toV {A : List Addr} : ∀ {vs : List Value}, (∀ u ∈ vs, OkU A u) → Vals (vs.map toV) vs
  | [], _ => .nil
  | u :: r, h => .cons (relV_toV (h u (List.mem_cons_self ..))) (vals_toV fun x hx => h x (List.mem_cons_of_mem _ hx))
def ArgOb (h : Heap) (A : List Addr) (a : Addr) : Prop := ∃ vs : List Value, vs.length ≤ sizeLine ∧ (∀ u ∈ vs, OkU A u) ∧
  (h.get? a = some { cls := .type "list", data := .seq vs.toArray } ∨ h.get? a = some { cls := .type "tuple", data := .seq vs.toArray })
theorem ArgOb.mono {h : Heap} {A B : List Addr} {a : Addr} (k : ∀ a ∈ A, a ∈ B) (x : ArgOb h A a) : ArgOb h B a := by
  obtain ⟨vs, h1, h2, h3⟩ := x
  exact ⟨vs, h1, fun u hu => (h2 u hu).mono k, h3⟩
theorem wellAll_len {P : Params} {h : Heap} : ∀ {vs : List Value} {ds : List WData}, WellAll P h vs ds → vs.length = ds.length
  | _, _, .nil => rfl
  | _, _, .cons _ b => by
    show _ + 1 = _ + 1
    rw [wellAll_len b]
theorem well_list {P : Params} {h : Heap} {v : Value} {ds : List WData} (x : Well P h v (.list ds)) : ∃ (a : Addr) (vs : List Value), v = .ref a ∧ h.get? a = some { cls := .type "list", data := .seq vs.toArray } ∧ WellAll P h vs ds := by
  cases x with
  | list ho hall => exact ⟨_, _, rfl, ho, hall⟩
theorem well_tuple {P : Params} {h : Heap} {v : Value} {ds : List WData} (x : Well P h v (.tuple ds)) : ∃ (a : Addr) (vs : List Value), v = .ref a ∧ h.get? a = some { cls := .type "tuple", data := .seq vs.toArray } ∧ WellAll P h vs ds := by
  cases x with
  | tuple ho hall => exact ⟨_, _, rfl, ho, hall⟩
theorem well_cons {P : Params} {h : Heap} {us : List Value} {d : WData} {ds : List WData} (x : WellAll P h us (d :: ds)) : ∃ (v : Value) (vs : List Value), us = v :: vs ∧ Well P h v d ∧ WellAll P h vs ds := by
  cases x with
  | cons a b => exact ⟨_, _, rfl, a, b⟩
theorem line_of {n : Nat} (h : n ≤ 1048576) : n ≤ sizeLine := Nat.le_trans h (by decide)
section
variable {P : Params} {h : Heap}
mutual
theorem area_one : ∀ (d : WData) (v : Value), Well P h v d → plW d = true → d.weight ≤ 1048576 → ∃ A : List Addr, OkU A v ∧ ∀ a ∈ A, ArgOb h A a
  | .none, _, x, _, _ => by
    cases x
    exact ⟨[], trivial, fun a m => absurd m (by simp)⟩
  | .bool b, _, x, _, _ => by
    cases x
    exact ⟨[], trivial, fun a m => absurd m (by simp)⟩
  | .int i, _, x, _, _ => by
    cases x
    exact ⟨[], trivial, fun a m => absurd m (by simp)⟩
  | .str s, _, x, _, _ => by
    cases x
    exact ⟨[], trivial, fun a m => absurd m (by simp)⟩
  | .bytes b, _, x, _, _ => by
    cases x
    exact ⟨[], trivial, fun a m => absurd m (by simp)⟩
  | .list ds, _, x, p, z => by
    obtain ⟨a, vs, rfl, ho, hall⟩ := well_list x
    have z2 : WData.weightAll ds ≤ 1048576 := z
    obtain ⟨A, h1, h2⟩ := area_all ds _ hall p fun d hd => Nat.le_trans (weight_mem hd) z2
    have k : ∀ b ∈ A, b ∈ a :: A := fun b hb => List.mem_cons_of_mem _ hb
    refine ⟨a :: A, List.mem_cons_self .., fun b hb => ?_⟩
    rcases List.mem_cons.mp hb with e | m
    · rw [e]
      exact ⟨vs, line_of (by rw [wellAll_len hall]; exact Nat.le_trans (PySem.W.length_le_weightAllW ds) z2), fun u hu => (h1 u hu).mono k, .inl ho⟩
    · exact (h2 b m).mono k
  | .tuple ds, _, x, p, z => by
    obtain ⟨a, vs, rfl, ho, hall⟩ := well_tuple x
    have z2 : WData.weightAll ds ≤ 1048576 := z
    obtain ⟨A, h1, h2⟩ := area_all ds _ hall p fun d hd => Nat.le_trans (weight_mem hd) z2
    have k : ∀ b ∈ A, b ∈ a :: A := fun b hb => List.mem_cons_of_mem _ hb
    refine ⟨a :: A, List.mem_cons_self .., fun b hb => ?_⟩
    rcases List.mem_cons.mp hb with e | m
    · rw [e]
      exact ⟨vs, line_of (by rw [wellAll_len hall]; exact Nat.le_trans (PySem.W.length_le_weightAllW ds) z2), fun u hu => (h1 u hu).mono k, .inr ho⟩
    · exact (h2 b m).mono k
  | .float _, _, _, p, _ => Bool.noConfusion (show false = true from p)
  | .dict _, _, _, p, _ => Bool.noConfusion (show false = true from p)
  | .bytearray _, _, _, p, _ => Bool.noConfusion (show false = true from p)
  | .set _, _, _, p, _ => Bool.noConfusion (show false = true from p)
  | .frozenset _, _, _, p, _ => Bool.noConfusion (show false = true from p)
  | .obj _ _, _, _, p, _ => Bool.noConfusion (show false = true from p)
theorem area_all : ∀ (ds : List WData) (vs : List Value), WellAll P h vs ds → plWs ds = true → (∀ d ∈ ds, d.weight ≤ 1048576) → ∃ A : List Addr, (∀ u ∈ vs, OkU A u) ∧ ∀ a ∈ A, ArgOb h A a
  | [], _, x, _, _ => by
    cases x
    exact ⟨[], fun u m => absurd m (by simp), fun a m => absurd m (by simp)⟩
  | d :: ds, _, x, p, z => by
    obtain ⟨v, vs, rfl, x1, x2⟩ := well_cons x
    have q : plW d = true ∧ plWs ds = true := Bool.and_eq_true_iff.mp p
    obtain ⟨A, a1, a2⟩ := area_one d v x1 q.1 (z d (List.mem_cons_self ..))
    obtain ⟨B, b1, b2⟩ := area_all ds vs x2 q.2 fun e he => z e (List.mem_cons_of_mem _ he)
    have kA : ∀ b ∈ A, b ∈ A ++ B := fun b hb => List.mem_append.mpr (.inl hb)
    have kB : ∀ b ∈ B, b ∈ A ++ B := fun b hb => List.mem_append.mpr (.inr hb)
    refine ⟨A ++ B, fun u hu => ?_, fun b hb => ?_⟩
    · rcases List.mem_cons.mp hu with e | m
      · rw [e]
        exact a1.mono kA
      · exact (b1 u m).mono kB
    · rcases List.mem_append.mp hb with m | m
      · exact (a2 b m).mono kA
      · exact (b2 b m).mono kB
end
end
def hoOf (o : Obj) : Option HO := match o.data with
  | .seq vs _ => if (o.cls == Value.type "list") = true then some (.frz o (.lst (vs.toList.map toV))) else some (.frz o (.tup (vs.toList.map toV)))
  | _ => none
def argH (K : PySem.W.Frag) (h : Heap) (A : List Addr) : Hp := fun b => if b ∈ A then (if (K.lookup b).isNone = true then (h.get? b).bind hoOf else none) else none
def OnlyF (H : Hp) : Prop := ∀ b, H b = none ∨ ∃ o u, H b = some (.frz o u)
theorem hoOf_lst (vs : List Value) : hoOf { cls := .type "list", data := .seq vs.toArray } = some (.frz { cls := .type "list", data := .seq vs.toArray } (.lst (vs.map toV))) := by
  show (if (Value.type "list" == Value.type "list") = true then some (HO.frz { cls := .type "list", data := .seq vs.toArray } (.lst (vs.toArray.toList.map toV))) else some (HO.frz { cls := .type "list", data := .seq vs.toArray } (.tup (vs.toArray.toList.map toV)))) = _
  rw [if_pos (beq_self_eq_true _)]
theorem hoOf_tup (vs : List Value) : hoOf { cls := .type "tuple", data := .seq vs.toArray } = some (.frz { cls := .type "tuple", data := .seq vs.toArray } (.tup (vs.map toV))) := by
  show (if (Value.type "tuple" == Value.type "list") = true then some (HO.frz { cls := .type "tuple", data := .seq vs.toArray } (.lst (vs.toArray.toList.map toV))) else some (HO.frz { cls := .type "tuple", data := .seq vs.toArray } (.tup (vs.toArray.toList.map toV)))) = _
  rw [if_neg (by decide)]
section
variable {P : Program} {w : World} {K : PySem.W.Frag} {h : Heap} {A : List Addr}
theorem argH_at {b : Addr} {o : Obj} (hb : b ∈ A) (hk : K.lookup b = none) (e : h.get? b = some o) : argH K h A b = hoOf o := by
  unfold argH
  rw [if_pos hb, hk, if_pos (show (none : Option Obj).isNone = true from rfl), e] <;> rfl
theorem of_argH {b : Addr} {u : HO} (q : argH K h A b = some u) : b ∈ A ∧ K.lookup b = none := by
  unfold argH at q
  by_cases hb : b ∈ A
  · rw [if_pos hb] at q
    cases hk : K.lookup b with
    | none => exact ⟨hb, rfl⟩
    | some o =>
      rw [hk, if_neg (by simp)] at q
      cases q
  · rw [if_neg hb] at q
    cases q
theorem argH_is (ar : ∀ a ∈ A, ArgOb h A a) {b : Addr} {u : HO} (q : argH K h A b = some u) : K.lookup b = none ∧ ∃ vs : List Value, vs.length ≤ sizeLine ∧ (∀ u ∈ vs, OkU A u) ∧
    ((h.get? b = some { cls := .type "list", data := .seq vs.toArray } ∧ u = .frz { cls := .type "list", data := .seq vs.toArray } (.lst (vs.map toV))) ∨
     (h.get? b = some { cls := .type "tuple", data := .seq vs.toArray } ∧ u = .frz { cls := .type "tuple", data := .seq vs.toArray } (.tup (vs.map toV)))) := by
  obtain ⟨hb, hk⟩ := of_argH q
  obtain ⟨vs, h1, h2, h3⟩ := ar b hb
  refine ⟨hk, vs, h1, h2, ?_⟩
  rcases h3 with e | e
  · rw [argH_at hb hk e, hoOf_lst] at q
    exact .inl ⟨e, (Option.some.inj q).symm⟩
  · rw [argH_at hb hk e, hoOf_tup] at q
    exact .inr ⟨e, (Option.some.inj q).symm⟩
theorem argH_only (ar : ∀ a ∈ A, ArgOb h A a) : OnlyF (argH K h A) := fun b => by
  cases q : argH K h A b with
  | none => exact .inl rfl
  | some u =>
    obtain ⟨_, vs, _, _, ⟨_, e⟩ | ⟨_, e⟩⟩ := argH_is ar q
    · exact .inr ⟨_, _, by rw [e]⟩
    · exact .inr ⟨_, _, by rw [e]⟩
theorem argH_ok (ar : ∀ a ∈ A, ArgOb h A a) : HOk P w (argH K h A) h := fun b u q => by
  obtain ⟨_, vs, h1, h2, ⟨e, rfl⟩ | ⟨e, rfl⟩⟩ := argH_is ar q
  · exact ⟨e, by rw [List.length_map]; exact h1, vs, _, vals_toV h2, e⟩
  · exact ⟨e, by rw [List.length_map]; exact h1, vs, vals_toV h2, _, e, rfl, _, rfl⟩
theorem seq_inj {c c' : Value} {vs us : List Value} (e : (some { cls := c, data := .seq vs.toArray } : Option Obj) = some { cls := c', data := .seq us.toArray }) : c = c' ∧ vs = us := by
  have e1 := Option.some.inj e
  have e2 : c = c' := congrArg Obj.cls e1
  have e3 : Data.seq vs.toArray = Data.seq us.toArray := congrArg Obj.data e1
  injection e3 with e4
  refine ⟨e2, ?_⟩
  have e5 := congrArg Array.toList e4
  simpa using e5
theorem argL (KX : K.In h) (ar : ∀ a ∈ A, ArgOb h A a) {a : Addr} {vs : List Value} (ha : a ∈ A) (e : h.get? a = some { cls := .type "list", data := .seq vs.toArray }) : (∀ u ∈ vs, OkU A u) ∧ SqL K (argH K h A) a (vs.map toV) := by
  obtain ⟨us, h1, h2, h3⟩ := ar a ha
  have hu : us = vs := by
    rcases h3 with q | q
    · rw [e] at q
      exact (seq_inj q).2.symm
    · rw [e] at q
      exact absurd (Value.type.inj (seq_inj q).1) (by decide)
  subst hu
  refine ⟨h2, ?_⟩
  cases hk : K.lookup a with
  | none => exact .inl (.inr ⟨_, by rw [argH_at ha hk e, hoOf_lst]⟩)
  | some o =>
    have e2 := KX a o hk
    rw [e] at e2
    obtain rfl := Option.some.inj e2
    exact .inr ⟨_, us.toArray, _, hk, rfl, rfl, rfl, by rw [List.size_toArray]; exact h1, by simpa using vals_toV h2⟩
theorem argT (KX : K.In h) (ar : ∀ a ∈ A, ArgOb h A a) {a : Addr} {vs : List Value} (ha : a ∈ A) (e : h.get? a = some { cls := .type "tuple", data := .seq vs.toArray }) : (∀ u ∈ vs, OkU A u) ∧ SqT K (argH K h A) a (vs.map toV) := by
  obtain ⟨us, h1, h2, h3⟩ := ar a ha
  have hu : us = vs := by
    rcases h3 with q | q
    · rw [e] at q
      exact absurd (Value.type.inj (seq_inj q).1) (by decide)
    · rw [e] at q
      exact (seq_inj q).2.symm
  subst hu
  refine ⟨h2, ?_⟩
  cases hk : K.lookup a with
  | none => exact .inl (.inr ⟨_, by rw [argH_at ha hk e, hoOf_tup]⟩)
  | some o =>
    have e2 := KX a o hk
    rw [e] at e2
    obtain rfl := Option.some.inj e2
    exact .inr ⟨_, us.toArray, _, hk, rfl, rfl, by rw [List.size_toArray]; exact h1, by simpa using vals_toV h2⟩
mutual
theorem dw_one {Pm : Params} (KX : K.In h) (ar : ∀ a ∈ A, ArgOb h A a) : ∀ (d : WData) (v : Value), Well Pm h v d → plW d = true → OkU A v → Dw K (argH K h A) (toV v) d
  | .none, _, x, _, _ => by
    cases x
    exact .non
  | .bool b, _, x, _, _ => by
    cases x
    exact .bl b
  | .int i, _, x, _, _ => by
    cases x
    exact .int i
  | .str s, _, x, _, _ => by
    cases x
    exact .str s
  | .bytes b, _, x, _, _ => by
    cases x
    have z := Dw.byt (K := K) (H := argH K h A) b.toArray
    exact z
  | .list ds, _, x, p, hu => by
    obtain ⟨a, vs, rfl, ho, hall⟩ := well_list x
    obtain ⟨h2, hs⟩ := argL KX ar hu ho
    exact .lst hs (dw_all KX ar ds _ hall p h2)
  | .tuple ds, _, x, p, hu => by
    obtain ⟨a, vs, rfl, ho, hall⟩ := well_tuple x
    obtain ⟨h2, hs⟩ := argT KX ar hu ho
    exact .tup hs (dw_all KX ar ds _ hall p h2)
  | .float _, _, _, p, _ => Bool.noConfusion (show false = true from p)
  | .dict _, _, _, p, _ => Bool.noConfusion (show false = true from p)
  | .bytearray _, _, _, p, _ => Bool.noConfusion (show false = true from p)
  | .set _, _, _, p, _ => Bool.noConfusion (show false = true from p)
  | .frozenset _, _, _, p, _ => Bool.noConfusion (show false = true from p)
  | .obj _ _, _, _, p, _ => Bool.noConfusion (show false = true from p)
theorem dw_all {Pm : Params} (KX : K.In h) (ar : ∀ a ∈ A, ArgOb h A a) : ∀ (ds : List WData) (vs : List Value), WellAll Pm h vs ds → plWs ds = true → (∀ u ∈ vs, OkU A u) → DwAll K (argH K h A) (vs.map toV) ds
  | [], _, x, _, _ => by
    cases x
    exact .nil
  | d :: ds, _, x, p, hu => by
    obtain ⟨v, vs, rfl, x1, x2⟩ := well_cons x
    have q : plW d = true ∧ plWs ds = true := Bool.and_eq_true_iff.mp p
    exact .cons (dw_one KX ar d v x1 q.1 (hu _ (List.mem_cons_self ..))) (dw_all KX ar ds vs x2 q.2 fun u m => hu u (List.mem_cons_of_mem _ m))
end
end
theorem spec_call {P : Program} {w : World} {K : PySem.W.Frag} {mg mb : Str → Option Value} {CX : CXT} {k : Nat} {fa : Addr} {fd : FuncData} {ps : List Str} {sp : Sp} {s₁ : Shared} {vals : List Value} {ds : List WData} {R : PySem.W.WRecords} {cl : Str → Option Addr} {d0 : WData}
    (KX : K.In s₁.heap) (hns : s₁.heap.Ns mainGlobals mg) (hb : s₁.heap.Ns builtinsNs mb) (hbb : ∀ x : Str, x ≠ "__name__" → mb x = bootBuiltins x) (hlim : s₁.heap.NoLimit) (hg : s₁.gens = #[])
    (hwl : WellAll w.params s₁.heap vals ds) (hpl : plWs ds = true) (hwt : ∀ d ∈ ds, d.weight ≤ 1048576) (hr : Room k callerA)
    (F : ∀ base : Heap, K.In base → base.Ns mainGlobals mg → FnOk P w K mg base CX k fa fd ps sp) (hbind : ∀ (s : Shared) (us : List Value), us.length = ps.length → BindsTo s fd ⟨us, []⟩ (ps.zip us)) (hlen : ds.length = ps.length)
    (hsp : ∀ (H : Hp) (xs : List V), OnlyF H → DwAll K H xs ds → sp xs H (fun v H' => Dw K H' v d0) fun _ _ _ => False)
    (hCX : ∀ H e s', CX [] H s₁ (fun _ _ _ => False) e s' → False) :
    codeAny (model P w) callerA (.call (.ref fa) ⟨vals, []⟩) (fun r s' => ∃ u as, r = .ok (.ret u) ∧ ReadsW R cl s'.heap u d0 as ∧ OldK s₁.heap s'.heap ∧ s'.os = s₁.os ∧ AllBare s'.gens) s₁ := by
  obtain ⟨A, ho, ar⟩ := area_all ds vals hwl hpl hwt
  have hO : OnlyF (argH K s₁.heap A) := argH_only ar
  have hok : HOk P w (argH K s₁.heap A) s₁.heap := argH_ok ar
  have hS := dw_all KX ar ds vals hwl hpl ho
  have hV := vals_toV ho
  have hK : ∀ b u, argH K s₁.heap A b = some u → K.lookup b = none := fun b u q => (argH_is ar q).1
  have noA : ∀ {b : Addr} {o : Obj} {es : Array DictEntry} {ep : Nat}, s₁.heap.get? b = some o → o.data = .dict es ep → argH K s₁.heap A b = none := fun {b o es ep} e d => by
    cases q : argH K s₁.heap A b with
    | none => rfl
    | some u =>
      obtain ⟨_, vs, _, _, ⟨e2, _⟩ | ⟨e2, _⟩⟩ := argH_is ar q
      · rw [e2] at e
        cases e
        have d' : Data.seq vs.toArray _ = Data.dict es ep := d
        cases d'
      · rw [e2] at e
        cases e
        have d' : Data.seq vs.toArray _ = Data.dict es ep := d
        cases d'
  generalize argH K s₁.heap A = H at hO hok hS hK noA
  have base_of : ∀ {b : Addr} {o : Obj}, s₁.heap.get? b = some o → H b = none → (hidT s₁.heap H).get? b = some o := fun e n => hidT_get e n
  have nsK : ∀ {b : Addr} {m : Str → Option Value}, s₁.heap.Ns b m → (hidT s₁.heap H).Ns b m := fun {b m} ⟨o, es, ep, e, d, r⟩ => ⟨o, es, ep, base_of e (noA e d), d, r⟩
  have nK : ∀ b o, K.lookup b = some o → H b = none := fun b o e => by
    cases q : H b with
    | none => rfl
    | some u =>
      rw [hK b u q] at e
      cases e
  have hKb : K.In (hidT s₁.heap H) := fun b o e => base_of (KX b o e) (nK b o e)
  have hM : Mod K mg (hidT s₁.heap H) := ⟨hKb, nsK hns, ⟨mb, nsK hb, hbb⟩, let ⟨mc, h1, h2⟩ := hlim; ⟨mc, nsK h1, h2⟩⟩
  have e0 : Env0 P w K mg (hidT s₁.heap H) callerA [] s₁ H := ⟨rfl, hM, fun b o e => of_hidT e, Nat.le_of_eq (hidT_size _ _), trivial, fun b hb => absurd (show b ∈ ([] : List Addr) from hb) (by simp), hok, .of_eq hg⟩
  have hl : vals.length = ps.length := by rw [wellAll_len hwl]; exact hlen
  refine codeAny_mono ((F _ hKb (nsK hns)).run callerA [] s₁ H ⟨vals, []⟩ vals (vals.map toV) _ _ hr e0 (hbind s₁ vals hl) hV (hsp H _ hO hS)) fun r s' x => ?_
  cases r with
  | error e => exact (hCX H e s' x).elim
  | ok fl =>
    cases fl with
    | next => exact False.elim x
    | brk => exact False.elim x
    | cont => exact False.elim x
    | ret u =>
      obtain ⟨v, H', os, bare, un, hok', r', q⟩ := x
      have kept : ∀ b o, s₁.heap.get? b = some o → s'.heap.get? b = some o := fun b o e => by
        cases q2 : H b with
        | none => exact un.keep b o e q2 (by intro z; exact absurd (show b ∈ ([] : List Addr) from z) (by simp)) (by simp)
        | some u2 =>
          rcases hO b with z | ⟨ob, u3, z⟩
          · rw [q2] at z
            cases z
          · have z2 := un.frzs b ob _ z
            obtain ⟨e1, _⟩ := hok b _ z
            obtain ⟨e2, _⟩ := hok' b _ z2
            rw [e] at e1
            cases e1
            exact e2
      have KX' : K.In s'.heap := fun b o e => kept b o (KX b o e)
      obtain ⟨as, hrd⟩ := Dw.reads (R := R) (cl := cl) hok' KX' d0 v u q r'
      exact ⟨u, as, rfl, hrd, OldK.of_keep kept, os, bare⟩
theorem layable_weight {ds : List WData} (h : WData.layableAll ds = true) : ∀ d ∈ ds, d.weight ≤ 1048576 := fun d hd =>
  (PySem.W.layableW_iff.mp (List.all_eq_true.mp h d hd)).2.2
theorem encAll_len : ∀ (cs : List Codec) (a : Codec.denoteAll cs), (Codec.encAll cs a).length = cs.length
  | [], _ => rfl
  | c :: cs, a => by
    show (Codec.encAll cs a.2).length + 1 = cs.length + 1
    rw [encAll_len cs a.2]
theorem walk_spec {r : OpenSpec} {k : Nat} {q : Program} {loose : List Str} {XP : (Str → Option Value) → Heap → Prop} {YP : World → Heap → Prop} {d : DefRec} {K : Params → PySem.W.Frag} {CX : World → CXT} {ps : List Str} {sp : World → Sp}
    (hwell : r.wellSaid = true) (hdf : d.params.defaults = []) (hlen : r.args.length = ps.length) (hr : Room k callerA)
    (hY : ∀ (w : World) (h : Heap), YP w h → (K w.params).In h)
    (F : ∀ (w : World) (mg : Str → Option Value) (fa : Addr) (h : Heap), YP w h → (K w.params).In h → h.Ns mainGlobals mg → mg d.name = some (.ref fa) →
      ∃ fd : FuncData, (∀ (s : Shared) (us : List Value), us.length = ps.length → BindsTo s fd ⟨us, []⟩ (ps.zip us)) ∧
        ∀ base : Heap, (K w.params).In base → base.Ns mainGlobals mg → FnOk r.prog w (K w.params) mg base (CX w) k fa fd ps (sp w))
    (hsp : ∀ (w : World) (H : Hp) (xs : List V) (a : Codec.denoteAll r.args), OnlyF H → Codec.withinAll r.args a = true → Codec.app r.args r.asked a = true → DwAll (K w.params) H xs (Codec.encAll r.args a) →
      sp w xs H (fun v H' => Dw (K w.params) H' v (r.ret.enc (Codec.app r.args r.f a))) fun _ _ _ => False)
    (hCX : ∀ (w : World) (H : Hp) (s : Shared) (e : Value) (s' : Shared), CX w [] H s (fun _ _ _ => False) e s' → False) :
    PySem.W.WalkOS q loose XP YP r d [] (fun f vs => PySem.call f vs) := by
  intro w s_0 s₁ mg mb G Y fa o pm cd doc dV kV ho hd hcd hD hmg hg args vals as hpre hlay hrd hwl hlo
  obtain ⟨a, e1, e2⟩ := PySem.W.os_pre_some hpre
  obtain ⟨e3, hwi⟩ := Codec.encAll_of_decAll r.args args a e1
  subst e3
  have KX := hY w _ Y
  obtain ⟨fd, hb, hF⟩ := F w mg fa _ Y KX G.T.g hmg
  refine PySem.W.enter_call (codeAny_mono (spec_call (R := []) (cl := classAt s_0.heap) (d0 := r.ret.enc (Codec.app r.args r.f a)) KX G.T.g G.T.b G.T.builtins G.T.nolimit hg hwl (pl_encAll _ _) (layable_weight hlay) hr hF hb (by rw [encAll_len]; exact hlen)
    (fun H xs hO hS => hsp w H xs a hO hwi e2 hS) fun H e s' => hCX w H s₁ e s') fun r' s' hq => ?_)
  obtain ⟨u, as', rfl, h1, h2, h3, h4⟩ := hq
  exact ⟨.inl ⟨u, _, as', rfl, fun _ => rfl, h1, (OpenSpec.post_iff hwell hwi _ _).mpr rfl, fun z => Bool.noConfusion (show false = true from z)⟩, h2, h3, h4⟩
theorem walk_specK {r : OpenSpec} {k : Nat} {q : Program} {loose : List Str} {XP : (Str → Option Value) → Heap → Prop} {YP : World → Heap → Prop} {d : DefRec} {K : Params → PySem.W.Frag} {CX : CXT} {ps : List Str} {sp : PySem.W.Frag → Sp}
    (hwell : r.wellSaid = true) (hdf : d.params.defaults = []) (hlen : r.args.length = ps.length) (hr : Room k callerA)
    (hY : ∀ (w : World) (h : Heap), YP w h → (K w.params).In h)
    (F : ∀ (w : World) (mg : Str → Option Value) (fa : Addr) (h : Heap), YP w h → (K w.params).In h → h.Ns mainGlobals mg → mg d.name = some (.ref fa) →
      ∃ fd : FuncData, (∀ (s : Shared) (us : List Value), us.length = ps.length → BindsTo s fd ⟨us, []⟩ (ps.zip us)) ∧
        ∀ base : Heap, (K w.params).In base → base.Ns mainGlobals mg → FnOk r.prog w (K w.params) mg base CX k fa fd ps (sp (K w.params)))
    (hsp : ∀ (K : PySem.W.Frag) (H : Hp) (xs : List V) (a : Codec.denoteAll r.args), OnlyF H → Codec.withinAll r.args a = true → Codec.app r.args r.asked a = true → DwAll K H xs (Codec.encAll r.args a) →
      sp K xs H (fun v H' => Dw K H' v (r.ret.enc (Codec.app r.args r.f a))) fun _ _ _ => False)
    (hCX : ∀ (H : Hp) (s : Shared) (e : Value) (s' : Shared), CX [] H s (fun _ _ _ => False) e s' → False) :
    PySem.W.WalkOS q loose XP YP r d [] (fun f vs => PySem.call f vs) :=
  walk_spec (K := K) (CX := fun _ => CX) (sp := fun w => sp (K w.params)) hwell hdf hlen hr hY F (fun w H xs a h1 h2 h3 h4 => hsp (K w.params) H xs a h1 h2 h3 h4) fun _ H s e s' => hCX H s e s'
end L2
end
end
section
namespace CM
open Cb
theorem bit_tb (x i : Nat) : bit x i = (x.testBit i).toNat := (Nat.toNat_testBit x i).symm
theorem bit_one {x i : Nat} : bit x i = 1 ↔ x.testBit i = true := by
  rw [bit_tb]; cases x.testBit i <;> simp
theorem bit_zero {x i : Nat} : bit x i = 0 ↔ x.testBit i = false := by
  rw [bit_tb]; cases x.testBit i <;> simp
theorem bit_le (x i : Nat) : bit x i < 2 := Nat.mod_lt _ (by decide)
theorem tb_hi {x : Nat} (h : x ≠ 0) : x.testBit x.log2 = true := Nat.testBit_log2 h
theorem tb_above {x i : Nat} (h : x.log2 < i) : x.testBit i = false :=
  Nat.testBit_lt_two_pow (Nat.lt_of_lt_of_le Nat.lt_log2_self (Nat.pow_le_pow_right (by decide) h))
theorem le_hi {x i : Nat} (h : x.testBit i = true) : i ≤ x.log2 := by
  refine Nat.le_of_not_lt fun q => ?_
  rw [tb_above q] at h; cases h
theorem ne_of_tb {x i : Nat} (h : x.testBit i = true) : x ≠ 0 := by
  intro e; subst e; simp at h
theorem hi_lt {n x : Nat} (h : x < 2 ^ n) (h0 : x ≠ 0) : x.log2 < n := (Nat.log2_lt h0).mpr h
theorem hi_mono {x y : Nat} (h : x ≤ y) (h0 : x ≠ 0) : x.log2 ≤ y.log2 :=
  (Nat.le_log2 (by omega)).mpr (Nat.le_trans (Nat.log2_self_le h0) h)
theorem hi_eq {x i : Nat} (h1 : x.testBit i = true) (h2 : ∀ j, i < j → x.testBit j = false) : x.log2 = i := by
  have a := le_hi h1
  rcases Nat.lt_or_eq_of_le a with h | h
  · have := h2 _ h
    rw [tb_hi (ne_of_tb h1)] at this; cases this
  · exact h.symm
theorem top_hi {n x : Nat} (h : x < 2 ^ n) (h0 : x ≠ 0) : top n x = x.log2 := by
  have hl := hi_lt h h0
  unfold top
  have key : ((List.range n).reverse.find? fun (i : Nat) => bit x i == 1) = some x.log2 := by
    clear h
    induction n with
    | zero => omega
    | succ n ih =>
      rw [List.range_succ, List.reverse_append, List.reverse_singleton, List.singleton_append, List.find?_cons]
      by_cases e : n = x.log2
      · subst e
        rw [show (bit x x.log2 == 1) = true by rw [bit_one.mpr (tb_hi h0)]; rfl]
      · rw [show (bit x n == 1) = false by
          rw [bit_zero.mpr (tb_above (by omega))]; rfl]
        exact ih (by omega)
  rw [key]; rfl
theorem xor_cancel (x y : Nat) : x ^^^ y ^^^ y = x := by rw [Nat.xor_assoc, Nat.xor_self, Nat.xor_zero]
theorem xor_cancel' (x y : Nat) : y ^^^ (y ^^^ x) = x := by rw [← Nat.xor_assoc, Nat.xor_self, Nat.zero_xor]
theorem xor_right (x y z : Nat) : x ^^^ y ^^^ z = x ^^^ z ^^^ y := by rw [Nat.xor_assoc, Nat.xor_comm y z, ← Nat.xor_assoc]
theorem xor_eq_zero {x y : Nat} (h : x ^^^ y = 0) : x = y := by
  have := xor_cancel x y
  rw [h, Nat.zero_xor] at this; exact this.symm
inductive Sp (l : List Nat) : Nat → Prop
  | zero : Sp l 0
  | add {x r : Nat} : r ∈ l → Sp l x → Sp l (x ^^^ r)
theorem Sp.mem {l : List Nat} {r : Nat} (h : r ∈ l) : Sp l r := by
  have := Sp.add h Sp.zero
  rwa [Nat.zero_xor] at this
theorem Sp.xor {l : List Nat} {x y : Nat} (hx : Sp l x) (hy : Sp l y) : Sp l (x ^^^ y) := by
  induction hy with
  | zero => rwa [Nat.xor_zero]
  | add hr _ ih => rw [← Nat.xor_assoc]; exact .add hr ih
theorem Sp.sub {l l' : List Nat} {x : Nat} (h : ∀ r ∈ l, Sp l' r) (hx : Sp l x) : Sp l' x := by
  induction hx with
  | zero => exact .zero
  | add hr _ ih => exact ih.xor (h _ hr)
theorem Sp.mono {l l' : List Nat} {x : Nat} (h : ∀ r ∈ l, r ∈ l') (hx : Sp l x) : Sp l' x := hx.sub fun r q => .mem (h r q)
theorem Sp.lt {l : List Nat} {x n : Nat} (h : ∀ r ∈ l, r < 2 ^ n) (hx : Sp l x) : x < 2 ^ n := by
  induction hx with
  | zero => exact Nat.two_pow_pos n
  | add hr _ ih => exact Nat.xor_lt_two_pow ih (h _ hr)
theorem sp_nil {x : Nat} : Sp [] x ↔ x = 0 := by
  constructor
  · intro h
    cases h with
    | zero => rfl
    | add hr _ => cases hr
  · rintro rfl; exact .zero
theorem sp_cons {r : Nat} {l : List Nat} {x : Nat} : Sp (r :: l) x ↔ Sp l x ∨ Sp l (x ^^^ r) := by
  constructor
  · intro h
    induction h with
    | zero => exact .inl .zero
    | @add y s hs _ ih =>
      rcases List.mem_cons.mp hs with e | e
      · subst e
        rw [xor_cancel]
        exact ih.symm
      · rw [xor_right]
        exact ih.imp (.add e) (.add e)
  · rintro (h | h)
    · exact h.mono fun _ q => List.mem_cons_of_mem _ q
    · have := Sp.add (List.mem_cons_self (a := r) (l := l)) (h.mono fun _ q => List.mem_cons_of_mem _ q)
      rwa [xor_cancel] at this
theorem Sp.ind {l : List Nat} {x : Nat} {p : Nat → Prop} (h0 : p 0) (hl : ∀ r ∈ l, p r) (ha : ∀ a b, p a → p b → p (a ^^^ b)) (hx : Sp l x) : p x := by
  induction hx with
  | zero => exact h0
  | add hr _ ih => exact ha _ _ ih (hl _ hr)
structure IsForm (n : Nat) (F : List Nat) : Prop where
  lt : ∀ r ∈ F, r < 2 ^ n
  nz : ∀ r ∈ F, r ≠ 0
  dec : F.Pairwise fun r s => s.log2 < r.log2
  red : ∀ r ∈ F, ∀ s ∈ F, r.log2 ≠ s.log2 → s.testBit r.log2 = false
theorem IsForm.nil (n : Nat) : IsForm n [] := ⟨(by simp), (by simp), .nil, (by simp)⟩
theorem IsForm.tail {n r : Nat} {F : List Nat} (h : IsForm n (r :: F)) : IsForm n F :=
  ⟨fun s q => h.lt s (List.mem_cons_of_mem _ q), fun s q => h.nz s (List.mem_cons_of_mem _ q), (List.pairwise_cons.mp h.dec).2,
   fun a qa b qb => h.red a (List.mem_cons_of_mem _ qa) b (List.mem_cons_of_mem _ qb)⟩
theorem IsForm.spLt {n r : Nat} {F : List Nat} (h : IsForm n (r :: F)) {x : Nat} (hx : Sp F x) : x.testBit r.log2 = false := by
  refine hx.ind (p := fun z => z.testBit r.log2 = false) (by simp) (fun s hs => tb_above ((List.pairwise_cons.mp h.dec).1 s hs)) fun a b ha hb => ?_
  rw [Nat.testBit_xor, ha, hb]; rfl
theorem IsForm.head {n r : Nat} {F : List Nat} (h : IsForm n (r :: F)) {x : Nat} : Sp F x ↔ Sp (r :: F) x ∧ x.testBit r.log2 = false := by
  constructor
  · intro q; exact ⟨sp_cons.mpr (.inl q), h.spLt q⟩
  · rintro ⟨q, e⟩
    rcases sp_cons.mp q with q | q
    · exact q
    · have := h.spLt q
      rw [Nat.testBit_xor, e, tb_hi (h.nz r List.mem_cons_self)] at this
      cases this
theorem IsForm.zero_of {n : Nat} : ∀ {F : List Nat}, IsForm n F → ∀ {x : Nat}, Sp F x → (∀ r ∈ F, x.testBit r.log2 = false) → x = 0
  | [], _, _, hx, _ => sp_nil.mp hx
  | r :: F, h, x, hx, ht => h.tail.zero_of (h.head.mpr ⟨hx, ht r List.mem_cons_self⟩) fun s hs => ht s (List.mem_cons_of_mem _ hs)
theorem IsForm.unique {n m : Nat} : ∀ {F G : List Nat}, IsForm n F → IsForm m G → (∀ x, Sp F x ↔ Sp G x) → F = G
  | [], [], _, _, _ => rfl
  | [], s :: G, _, hg, e => absurd (sp_nil.mp ((e s).mpr (.mem List.mem_cons_self))) (hg.nz s List.mem_cons_self)
  | r :: F, [], hf, _, e => absurd (sp_nil.mp ((e r).mp (.mem List.mem_cons_self))) (hf.nz r List.mem_cons_self)
  | r :: F, s :: G, hf, hg, e => by
    have top1 : ∀ {k : Nat} {a b : Nat} {l : List Nat}, IsForm k (a :: l) → Sp (a :: l) b → b ≠ 0 → b.log2 ≤ a.log2 := by
      intro k a b l h hb h0
      rcases sp_cons.mp hb with q | q
      · refine Nat.le_of_not_lt fun z => ?_
        have : b.testBit b.log2 = false := by
          refine q.ind (p := fun y => y.testBit b.log2 = false) (by simp) (fun t ht => tb_above (Nat.lt_trans ((List.pairwise_cons.mp h.dec).1 t ht) z)) fun x y hx hy => ?_
          rw [Nat.testBit_xor, hx, hy]; rfl
        rw [tb_hi h0] at this; cases this
      · refine Nat.le_of_not_lt fun z => ?_
        have : (b ^^^ a).testBit b.log2 = false := by
          refine q.ind (p := fun y => y.testBit b.log2 = false) (by simp) (fun t ht => tb_above (Nat.lt_trans ((List.pairwise_cons.mp h.dec).1 t ht) z)) fun x y hx hy => ?_
          rw [Nat.testBit_xor, hx, hy]; rfl
        rw [Nat.testBit_xor, tb_hi h0, tb_above z] at this; cases this
    have hr0 := hf.nz r List.mem_cons_self
    have hs0 := hg.nz s List.mem_cons_self
    have el : r.log2 = s.log2 := Nat.le_antisymm
      (top1 hg ((e r).mp (.mem List.mem_cons_self)) hr0) (top1 hf ((e s).mpr (.mem List.mem_cons_self)) hs0)
    have et : ∀ x, Sp F x ↔ Sp G x := fun x => by rw [hf.head, hg.head, e x, el]
    have ih : F = G := hf.tail.unique hg.tail et
    subst ih
    have hz : Sp (r :: F) (r ^^^ s) := Sp.xor (.mem List.mem_cons_self) ((e s).mpr (.mem List.mem_cons_self))
    have hz' : Sp F (r ^^^ s) := hf.head.mpr ⟨hz, by rw [Nat.testBit_xor, tb_hi hr0, el, tb_hi hs0]; rfl⟩
    have : r ^^^ s = 0 := by
      refine hf.tail.zero_of hz' fun t ht => ?_
      have l1 := (List.pairwise_cons.mp hf.dec).1 t ht
      rw [Nat.testBit_xor, hf.red t (List.mem_cons_of_mem _ ht) r List.mem_cons_self (by omega), hg.red t (List.mem_cons_of_mem _ ht) s List.mem_cons_self (by omega)]
      rfl
    rw [xor_eq_zero this]
def rdc (F : List Nat) (x : Nat) : Nat := F.foldl (fun y r => if y.testBit r.log2 = true then y ^^^ r else y) x
theorem rdc_sp (F : List Nat) : ∀ x, Sp F (x ^^^ rdc F x) := by
  induction F with
  | nil => intro x; show Sp [] (x ^^^ x); rw [Nat.xor_self]; exact .zero
  | cons r F ih =>
    intro x
    show Sp (r :: F) (x ^^^ rdc F (if x.testBit r.log2 = true then x ^^^ r else x))
    split
    · have := ih (x ^^^ r)
      refine sp_cons.mpr (.inr ?_)
      rwa [xor_right] at this
    · exact sp_cons.mpr (.inl (ih x))
theorem IsForm.rdc_keep {n r : Nat} {F : List Nat} (h : IsForm n (r :: F)) (x : Nat) : (rdc F x).testBit r.log2 = x.testBit r.log2 := by
  have := h.spLt (rdc_sp F x)
  rw [Nat.testBit_xor] at this
  cases a : x.testBit r.log2 <;> cases b : (rdc F x).testBit r.log2 <;> simp [a, b] at this ⊢
theorem IsForm.rdc_top {n : Nat} : ∀ {F : List Nat}, IsForm n F → ∀ (x : Nat), ∀ r ∈ F, (rdc F x).testBit r.log2 = false
  | r :: F, h, x, s, hs => by
    show (rdc F (if x.testBit r.log2 = true then x ^^^ r else x)).testBit s.log2 = false
    rcases List.mem_cons.mp hs with e | e
    · subst e
      rw [h.rdc_keep]
      split
      · rename_i q
        rw [Nat.testBit_xor, q, tb_hi (h.nz s List.mem_cons_self)]; rfl
      · rename_i q
        simpa using q
    · exact h.tail.rdc_top _ s e
theorem IsForm.rdc_zero {n : Nat} {F : List Nat} (h : IsForm n F) {x : Nat} : rdc F x = 0 ↔ Sp F x := by
  constructor
  · intro e
    have := rdc_sp F x
    rwa [e, Nat.xor_zero] at this
  · intro hx
    have h1 := hx.xor (rdc_sp F x)
    rw [xor_cancel'] at h1
    exact h.zero_of h1 (h.rdc_top x)
theorem IsForm.rdc_eq {n : Nat} {F : List Nat} (h : IsForm n F) {x y : Nat} (h1 : Sp F (x ^^^ y)) (h2 : ∀ r ∈ F, y.testBit r.log2 = false) : rdc F x = y := by
  have a := h1.xor (rdc_sp F x)
  rw [Nat.xor_comm x y, Nat.xor_assoc, xor_cancel'] at a
  refine (xor_eq_zero (h.zero_of a fun r hr => ?_)).symm
  rw [Nat.testBit_xor, h2 r hr, h.rdc_top x r hr]; rfl
theorem IsForm.rdc_lt {n : Nat} {F : List Nat} (h : IsForm n F) {x : Nat} (hx : x < 2 ^ n) : rdc F x < 2 ^ n := by
  have := (rdc_sp F x).lt h.lt
  have := Nat.xor_lt_two_pow hx this
  rwa [xor_cancel'] at this
theorem lessTops_rdc {n : Nat} : ∀ {F : List Nat}, (∀ r ∈ F, r < 2 ^ n) → (∀ r ∈ F, r ≠ 0) → ∀ (x : Nat), lessTops n F x = rdc F x
  | [], _, _, _ => rfl
  | r :: F, hl, hz, x => by
    show lessTops n F (if bit x (top n r) = 1 then plus x r else x) = rdc F (if x.testBit r.log2 = true then x ^^^ r else x)
    rw [lessTops_rdc (fun s q => hl s (List.mem_cons_of_mem _ q)) (fun s q => hz s (List.mem_cons_of_mem _ q)), top_hi (hl r List.mem_cons_self) (hz r List.mem_cons_self)]
    by_cases e : x.testBit r.log2 = true
    · rw [if_pos e, if_pos (bit_one.mpr e)]; rfl
    · rw [if_neg e, if_neg (fun q => e (bit_one.mp q))]
theorem IsForm.less {n : Nat} {F : List Nat} (h : IsForm n F) (x : Nat) : lessTops n F x = rdc F x := lessTops_rdc h.lt h.nz x
def clr (y r : Nat) : Nat := if r.testBit y.log2 = true then r ^^^ y else r
section
variable {n x : Nat} {F : List Nat}
theorem IsForm.hi_ne (h : IsForm n F) (h0 : rdc F x ≠ 0) : ∀ r ∈ F, r.log2 ≠ (rdc F x).log2 := fun r hr e => by
  have := h.rdc_top x r hr
  rw [e, tb_hi h0] at this; cases this
theorem IsForm.clr_hi (h : IsForm n F) (h0 : rdc F x ≠ 0) : ∀ r ∈ F, (clr (rdc F x) r).log2 = r.log2 := fun r hr => by
  unfold clr
  split
  · rename_i q
    have l1 := le_hi q
    have l2 := h.hi_ne h0 r hr
    refine hi_eq ?_ fun j hj => ?_
    · rw [Nat.testBit_xor, tb_hi (h.nz r hr), tb_above (by omega)]; rfl
    · rw [Nat.testBit_xor, tb_above hj, tb_above (by omega)]; rfl
  · rfl
theorem IsForm.clr_nz (h : IsForm n F) (h0 : rdc F x ≠ 0) : ∀ r ∈ F, clr (rdc F x) r ≠ 0 := fun r hr e => by
  unfold clr at e
  split at e
  · have a := xor_eq_zero e
    exact h.hi_ne h0 r hr (by rw [← a])
  · exact h.nz r hr e
theorem clr_sp (y : Nat) (l : List Nat) {r : Nat} (hr : Sp l r) (hy : Sp l y) : Sp l (clr y r) := by
  unfold clr
  split
  · exact hr.xor hy
  · exact hr
theorem IsForm.grow (h : IsForm n F) (hx : x < 2 ^ n) (h0 : rdc F x ≠ 0) {G : List Nat} (hp : G.Perm (rdc F x :: F.map (clr (rdc F x)))) (hd : G.Pairwise fun r s => s.log2 < r.log2) :
    IsForm n G ∧ ∀ z, Sp G z ↔ Sp (x :: F) z := by
  have hm : ∀ r, r ∈ G ↔ r = rdc F x ∨ ∃ s ∈ F, clr (rdc F x) s = r := fun r => by
    rw [hp.mem_iff, List.mem_cons, List.mem_map]
  have hy := h.rdc_lt hx
  refine ⟨⟨fun r hr => ?_, fun r hr => ?_, hd, fun a ha b hb hab => ?_⟩, fun z => ⟨fun hz => ?_, fun hz => ?_⟩⟩
  · rcases (hm r).mp hr with rfl | ⟨s, hs, rfl⟩
    · exact hy
    · unfold clr
      split
      · exact Nat.xor_lt_two_pow (h.lt s hs) hy
      · exact h.lt s hs
  · rcases (hm r).mp hr with rfl | ⟨s, hs, rfl⟩
    · exact h0
    · exact h.clr_nz h0 s hs
  · rcases (hm a).mp ha with rfl | ⟨s, hs, rfl⟩
    · rcases (hm b).mp hb with rfl | ⟨t, ht, rfl⟩
      · exact absurd rfl hab
      · unfold clr
        split
        · rename_i q
          rw [Nat.testBit_xor, q, tb_hi h0]; rfl
        · rename_i q
          simpa using q
    · rw [h.clr_hi h0 s hs] at hab ⊢
      rcases (hm b).mp hb with rfl | ⟨t, ht, rfl⟩
      · exact h.rdc_top x s hs
      · rw [h.clr_hi h0 t ht] at hab
        unfold clr
        split
        · rw [Nat.testBit_xor, h.red s hs t ht hab, h.rdc_top x s hs]; rfl
        · exact h.red s hs t ht hab
  · refine hz.sub fun r hr => ?_
    have hyx : Sp (x :: F) (rdc F x) := by
      have := (Sp.mem (l := x :: F) List.mem_cons_self).xor ((rdc_sp F x).mono fun _ q => List.mem_cons_of_mem _ q)
      rwa [xor_cancel'] at this
    rcases (hm r).mp hr with rfl | ⟨s, hs, rfl⟩
    · exact hyx
    · exact clr_sp _ _ (.mem (List.mem_cons_of_mem _ hs)) hyx
  · have hyG : Sp G (rdc F x) := .mem ((hm _).mpr (.inl rfl))
    have hF : ∀ s ∈ F, Sp G s := fun s hs => by
      have := Sp.mem ((hm _).mpr (.inr ⟨s, hs, rfl⟩))
      unfold clr at this
      split at this
      · have := this.xor hyG
        rwa [xor_cancel] at this
      · exact this
    refine hz.sub fun r hr => ?_
    rcases List.mem_cons.mp hr with rfl | hr
    · have := ((rdc_sp F r).sub hF).xor hyG
      rwa [xor_cancel] at this
    · exact hF r hr
end
theorem putRow_perm (n x : Nat) : ∀ l : List Nat, (putRow n x l).Perm (x :: l)
  | [] => .refl _
  | r :: l => by
    unfold putRow
    split
    · exact .refl _
    · exact ((putRow_perm n x l).cons r).trans (.swap _ _ _)
theorem putRow_dec {n x : Nat} (hx : x < 2 ^ n) (h0 : x ≠ 0) : ∀ {l : List Nat}, (∀ r ∈ l, r < 2 ^ n) → (∀ r ∈ l, r ≠ 0) → (∀ r ∈ l, r.log2 ≠ x.log2) → l.Pairwise (fun r s => s.log2 < r.log2) → (putRow n x l).Pairwise fun r s => s.log2 < r.log2
  | [], _, _, _, _ => List.pairwise_singleton _ _
  | r :: l, hl, hz, hn, hd => by
    have hd' := List.pairwise_cons.mp hd
    have r0 := hn r List.mem_cons_self
    unfold putRow
    rw [top_hi (hl r List.mem_cons_self) (hz r List.mem_cons_self), top_hi hx h0]
    split
    · rename_i q
      refine List.pairwise_cons.mpr ⟨fun s hs => ?_, hd⟩
      rcases List.mem_cons.mp hs with rfl | hs
      · exact q
      · exact Nat.lt_trans (hd'.1 s hs) q
    · rename_i q
      refine List.pairwise_cons.mpr ⟨fun s hs => ?_, putRow_dec hx h0 (fun s q => hl s (List.mem_cons_of_mem _ q)) (fun s q => hz s (List.mem_cons_of_mem _ q)) (fun s q => hn s (List.mem_cons_of_mem _ q)) hd'.2⟩
      rcases List.mem_cons.mp ((putRow_perm n x l).mem_iff.mp hs) with rfl | hs
      · omega
      · exact hd'.1 s hs
theorem addRow_ok {n x : Nat} {F : List Nat} (h : IsForm n F) (hx : x < 2 ^ n) : IsForm n (addRow n F x) ∧ ∀ z, Sp (addRow n F x) z ↔ Sp (x :: F) z := by
  unfold addRow
  simp only [h.less]
  split
  · rename_i e
    have hs := h.rdc_zero.mp e
    refine ⟨h, fun z => ⟨fun q => q.mono fun _ q => List.mem_cons_of_mem _ q, fun q => q.sub fun r hr => ?_⟩⟩
    rcases List.mem_cons.mp hr with rfl | hr
    · exact hs
    · exact .mem hr
  · rename_i h0
    have em : (F.map fun (r : Nat) => if bit r (top n (rdc F x)) = 1 then plus r (rdc F x) else r) = F.map (clr (rdc F x)) := by
      refine List.map_congr_left fun r _ => ?_
      unfold clr
      rw [top_hi (h.rdc_lt hx) h0]
      by_cases e : r.testBit (rdc F x).log2 = true
      · rw [if_pos e, if_pos (bit_one.mpr e)]; rfl
      · rw [if_neg e, if_neg (fun q => e (bit_one.mp q))]
    rw [em]
    refine h.grow hx h0 (putRow_perm _ _ _) (putRow_dec (h.rdc_lt hx) h0 ?_ ?_ ?_ ?_)
    · intro r hr
      obtain ⟨s, hs, rfl⟩ := List.mem_map.mp hr
      unfold clr
      split
      · exact Nat.xor_lt_two_pow (h.lt s hs) (h.rdc_lt hx)
      · exact h.lt s hs
    · intro r hr
      obtain ⟨s, hs, rfl⟩ := List.mem_map.mp hr
      exact h.clr_nz h0 s hs
    · intro r hr
      obtain ⟨s, hs, rfl⟩ := List.mem_map.mp hr
      rw [h.clr_hi h0 s hs]
      exact h.hi_ne h0 s hs
    · rw [List.pairwise_map]
      refine h.dec.imp_of_mem fun {a b} ha hb q => ?_
      rw [h.clr_hi h0 a ha, h.clr_hi h0 b hb]
      exact q
theorem foldRows_ok {n : Nat} : ∀ (rows F : List Nat), IsForm n F → (∀ r ∈ rows, r < 2 ^ n) → IsForm n (rows.foldl (addRow n) F) ∧ ∀ z, Sp (rows.foldl (addRow n) F) z ↔ Sp (rows ++ F) z
  | [], F, h, _ => ⟨h, fun _ => Iff.rfl⟩
  | x :: rows, F, h, hl => by
    obtain ⟨a1, a2⟩ := addRow_ok h (hl x List.mem_cons_self)
    obtain ⟨b1, b2⟩ := foldRows_ok rows _ a1 fun r q => hl r (List.mem_cons_of_mem _ q)
    refine ⟨b1, fun z => ?_⟩
    rw [List.foldl_cons, b2]
    constructor
    · intro q
      refine q.sub fun r hr => ?_
      rcases List.mem_append.mp hr with hr | hr
      · exact .mem (by simp [hr])
      · exact ((a2 r).mp (.mem hr)).mono (by intro s hs; rcases List.mem_cons.mp hs with rfl | hs <;> simp_all)
    · intro q
      refine q.sub fun r hr => ?_
      rcases List.mem_append.mp hr with hr | hr
      · rcases List.mem_cons.mp hr with rfl | hr
        · exact ((a2 r).mpr (.mem List.mem_cons_self)).mono (by intro s hs; simp [hs])
        · exact .mem (by simp [hr])
      · exact ((a2 r).mpr (.mem (List.mem_cons_of_mem _ hr))).mono (by intro s hs; simp [hs])
theorem formOf_ok {n : Nat} {rows : List Nat} (h : ∀ r ∈ rows, r < 2 ^ n) : IsForm n (formOf n rows) := (foldRows_ok rows [] (.nil n) h).1
theorem formOf_sp {n : Nat} {rows : List Nat} (h : ∀ r ∈ rows, r < 2 ^ n) (z : Nat) : Sp (formOf n rows) z ↔ Sp rows z := by
  have := (foldRows_ok rows [] (.nil n) h).2 z
  rwa [List.append_nil] at this
theorem formOf_eq {n : Nat} {rows G : List Nat} (h : ∀ r ∈ rows, r < 2 ^ n) (hG : IsForm n G) (e : ∀ z, Sp G z ↔ Sp rows z) : formOf n rows = G :=
  (formOf_ok h).unique hG fun z => by rw [formOf_sp h, e]
theorem formOf_congr {n : Nat} {a b : List Nat} (ha : ∀ r ∈ a, r < 2 ^ n) (hb : ∀ r ∈ b, r < 2 ^ n) (e : ∀ z, Sp a z ↔ Sp b z) : formOf n a = formOf n b :=
  formOf_eq ha (formOf_ok hb) fun z => by rw [formOf_sp hb, e]
theorem formOf_mem {n : Nat} {a b : List Nat} (ha : ∀ r ∈ a, r < 2 ^ n) (e : ∀ z, z ∈ a ↔ z ∈ b) : formOf n a = formOf n b :=
  formOf_congr ha (fun r q => ha r ((e r).mpr q)) fun _ => ⟨Sp.mono fun r q => (e r).mp q, Sp.mono fun r q => (e r).mpr q⟩
end CM
end
section
namespace CM
open Cb
theorem form_with_eq {n x : Nat} {F G : List Nat} (h : IsForm n F) (hx : x < 2 ^ n) (h0 : rdc F x ≠ 0) (hp : G.Perm (F.map (clr (rdc F x)) ++ [rdc F x])) (hd : G.Pairwise fun r s => s ≤ r) : G = addRow n F x := by
  have hp' : G.Perm (rdc F x :: F.map (clr (rdc F x))) := hp.trans List.perm_append_comm
  have hne : (rdc F x :: F.map (clr (rdc F x))).Pairwise fun r s => r.log2 ≠ s.log2 := by
    refine List.pairwise_cons.mpr ⟨fun s hs => ?_, ?_⟩
    · obtain ⟨t, ht, rfl⟩ := List.mem_map.mp hs
      rw [h.clr_hi h0 t ht]
      exact fun e => h.hi_ne h0 t ht e.symm
    · rw [List.pairwise_map]
      refine h.dec.imp_of_mem fun {a b} ha hb q => ?_
      rw [h.clr_hi h0 a ha, h.clr_hi h0 b hb]
      omega
  have hne' : G.Pairwise fun r s => r.log2 ≠ s.log2 := (hp'.pairwise_iff (fun {a b} q => fun e => q e.symm)).mpr hne
  have hz : ∀ r ∈ G, r ≠ 0 := fun r hr => by
    rcases List.mem_cons.mp (hp'.mem_iff.mp hr) with rfl | q
    · exact h0
    · obtain ⟨t, ht, rfl⟩ := List.mem_map.mp q
      exact h.clr_nz h0 t ht
  have hdec : G.Pairwise fun r s => s.log2 < r.log2 := by
    refine (hd.and hne').imp_of_mem fun {a b} ha hb q => ?_
    have := hi_mono q.1 (hz b hb)
    have := q.2
    omega
  obtain ⟨a1, a2⟩ := h.grow hx h0 hp' hdec
  obtain ⟨b1, b2⟩ := addRow_ok h hx
  exact a1.unique b1 fun z => by rw [a2, b2]
theorem form_with_same {n x : Nat} {F : List Nat} (h : IsForm n F) (h0 : rdc F x = 0) : addRow n F x = F := by
  unfold addRow
  simp only [h.less]
  rw [if_pos h0]
theorem formOf_take {n : Nat} {rows : List Nat} (i : Nat) {x : Nat} (h : rows[i]? = some x) : formOf n (rows.take (i + 1)) = addRow n (formOf n (rows.take i)) x := by
  have e : rows.take (i + 1) = rows.take i ++ [x] := by
    rw [List.take_add_one, h]; rfl
  rw [e]
  unfold formOf
  rw [List.foldl_append]; rfl
def wds (F : List Nat) : List Nat := F.foldl (fun ws r => ws ++ ws.map fun x => x ^^^ r) [0]
theorem mem_fold (F : List Nat) : ∀ (W : List Nat) (y : Nat), y ∈ F.foldl (fun ws r => ws ++ ws.map fun x => x ^^^ r) W ↔ ∃ v ∈ W, Sp F (y ^^^ v) := by
  induction F with
  | nil =>
    intro W y
    rw [List.foldl_nil]
    constructor
    · intro h; exact ⟨y, h, by rw [Nat.xor_self]; exact .zero⟩
    · rintro ⟨v, hv, e⟩
      rw [xor_eq_zero (sp_nil.mp e)]; exact hv
  | cons r F ih =>
    intro W y
    rw [List.foldl_cons, ih]
    constructor
    · rintro ⟨v, hv, e⟩
      rcases List.mem_append.mp hv with hv | hv
      · exact ⟨v, hv, sp_cons.mpr (.inl e)⟩
      · obtain ⟨v', hv', rfl⟩ := List.mem_map.mp hv
        refine ⟨v', hv', sp_cons.mpr (.inr ?_)⟩
        rwa [Nat.xor_assoc]
    · rintro ⟨v, hv, e⟩
      rcases sp_cons.mp e with e | e
      · exact ⟨v, List.mem_append_left _ hv, e⟩
      · exact ⟨v ^^^ r, List.mem_append_right _ (List.mem_map.mpr ⟨v, hv, rfl⟩), by rwa [← Nat.xor_assoc]⟩
theorem mem_wds {F : List Nat} {y : Nat} : y ∈ wds F ↔ Sp F y := by
  unfold wds
  rw [mem_fold]
  constructor
  · rintro ⟨v, hv, e⟩
    rw [List.mem_singleton.mp hv, Nat.xor_zero] at e; exact e
  · intro h
    exact ⟨0, List.mem_singleton.mpr rfl, by rwa [Nat.xor_zero]⟩
theorem nodup_fold {n : Nat} : ∀ (F : List Nat), IsForm n F → ∀ (W : List Nat), W.Nodup → (∀ a ∈ W, ∀ b ∈ W, Sp F (a ^^^ b) → a = b) → (F.foldl (fun ws r => ws ++ ws.map fun x => x ^^^ r) W).Nodup
  | [], _, W, hW, _ => hW
  | r :: F, h, W, hW, hs => by
    rw [List.foldl_cons]
    have hr : ¬ Sp F r := fun q => by
      have := h.spLt q
      rw [tb_hi (h.nz r List.mem_cons_self)] at this; cases this
    have inj : ∀ a ∈ W, ∀ b ∈ W, Sp F (a ^^^ b ^^^ r) → False := fun a ha b hb q => by
      have e := hs a ha b hb (sp_cons.mpr (.inr q))
      subst e
      rw [Nat.xor_self, Nat.zero_xor] at q
      exact hr q
    refine nodup_fold F h.tail _ (List.nodup_append.mpr ⟨hW, ?_, ?_⟩) ?_
    · refine List.Pairwise.map _ (fun a b q e => q ?_) hW
      have := xor_cancel a r
      rw [e, xor_cancel] at this
      exact this.symm
    · intro a ha b hb e
      obtain ⟨c, hc, rfl⟩ := List.mem_map.mp hb
      refine inj a ha c hc ?_
      rw [e, xor_right c r c, Nat.xor_self, Nat.zero_xor, Nat.xor_self]; exact .zero
    · intro a ha b hb q
      rcases List.mem_append.mp ha with ha | ha <;> rcases List.mem_append.mp hb with hb | hb
      · exact hs a ha b hb (sp_cons.mpr (.inl q))
      · obtain ⟨c, hc, rfl⟩ := List.mem_map.mp hb
        rw [← Nat.xor_assoc] at q
        exact (inj a ha c hc q).elim
      · obtain ⟨c, hc, rfl⟩ := List.mem_map.mp ha
        rw [xor_right] at q
        exact (inj c hc b hb q).elim
      · obtain ⟨c, hc, rfl⟩ := List.mem_map.mp ha
        obtain ⟨d, hd, rfl⟩ := List.mem_map.mp hb
        have e : c ^^^ r ^^^ (d ^^^ r) = c ^^^ d := by
          rw [← Nat.xor_assoc, xor_right c r d, xor_cancel]
        rw [e] at q
        rw [hs c hc d hd (sp_cons.mpr (.inl q))]
theorem nodup_wds {n : Nat} {F : List Nat} (h : IsForm n F) : (wds F).Nodup :=
  nodup_fold F h [0] (List.pairwise_singleton _ _) (by simp)
theorem length_fold (F : List Nat) : ∀ (W : List Nat), (F.foldl (fun ws r => ws ++ ws.map fun x => x ^^^ r) W).length = W.length * 2 ^ F.length := by
  induction F with
  | nil => intro W; simp
  | cons r F ih =>
    intro W
    rw [List.foldl_cons, ih, List.length_append, List.length_map, List.length_cons, Nat.pow_succ, ← Nat.two_mul, Nat.mul_comm 2, Nat.mul_assoc, Nat.mul_comm 2]
theorem length_wds (F : List Nat) : (wds F).length = 2 ^ F.length := by
  unfold wds
  rw [length_fold]; simp
theorem wds_take {F : List Nat} (i : Nat) {r : Nat} (h : F[i]? = some r) : wds (F.take (i + 1)) = wds (F.take i) ++ (wds (F.take i)).map fun x => x ^^^ r := by
  have e : F.take (i + 1) = F.take i ++ [r] := by
    rw [List.take_add_one, h]; rfl
  rw [e]
  unfold wds
  rw [List.foldl_append]; rfl
theorem falling_length : ∀ {l : List Nat} {n : Nat}, l.Pairwise (fun a b => b.log2 < a.log2) → (∀ x ∈ l, x.log2 < n) → l.length ≤ n
  | [], n, _, _ => Nat.zero_le n
  | x :: l, n, hd, hl => by
    have hd' := List.pairwise_cons.mp hd
    have := falling_length (n := x.log2) hd'.2 hd'.1
    have := hl x List.mem_cons_self
    rw [List.length_cons]; omega
theorem IsForm.length_le {n : Nat} {F : List Nat} (h : IsForm n F) : F.length ≤ n :=
  falling_length h.dec fun r hr => hi_lt (h.lt r hr) (h.nz r hr)
theorem mem_wordsOf {n : Nat} {F : List Nat} (h : IsForm n F) {x : Nat} : x ∈ wordsOf ⟨n, F⟩ ↔ Sp F x := by
  unfold wordsOf
  rw [List.mem_filter, List.mem_range]
  show _ ∧ (lessTops n F x == 0) = true ↔ _
  rw [h.less, beq_iff_eq, h.rdc_zero]
  exact ⟨fun q => q.2, fun q => ⟨q.lt h.lt, q⟩⟩
theorem sorted_wordsOf (c : Code) : (wordsOf c).Pairwise fun a b => a < b := List.Pairwise.filter _ List.pairwise_lt_range
theorem nodup_wordsOf (c : Code) : (wordsOf c).Nodup := (sorted_wordsOf c).imp fun q => Nat.ne_of_lt q
theorem wds_perm {n : Nat} {F : List Nat} (h : IsForm n F) : (wds F).Perm (wordsOf ⟨n, F⟩) :=
  (List.perm_ext_iff_of_nodup (nodup_wds h) (nodup_wordsOf _)).mpr fun x => by rw [mem_wds, mem_wordsOf h]
theorem holds_iff {n : Nat} {F : List Nat} (h : IsForm n F) {x : Nat} : holds ⟨n, F⟩ x = true ↔ Sp F x := by
  show (lessTops n F x == 0) = true ↔ _
  rw [h.less, beq_iff_eq, h.rdc_zero]
theorem sorted_unique : ∀ {a b : List Nat}, a.Pairwise (· < ·) → b.Pairwise (· < ·) → (∀ x, x ∈ a ↔ x ∈ b) → a = b
  | [], [], _, _, _ => rfl
  | [], y :: b, _, _, e => absurd ((e y).mpr List.mem_cons_self) (by simp)
  | x :: a, [], _, _, e => absurd ((e x).mp List.mem_cons_self) (by simp)
  | x :: a, y :: b, ha, hb, e => by
    have ha' := List.pairwise_cons.mp ha
    have hb' := List.pairwise_cons.mp hb
    have exy : x = y := by
      rcases List.mem_cons.mp ((e x).mp List.mem_cons_self) with q | q
      · exact q
      · rcases List.mem_cons.mp ((e y).mpr List.mem_cons_self) with z | z
        · exact z.symm
        · have := hb'.1 x q
          have := ha'.1 y z
          omega
    subst exy
    have : a = b := sorted_unique ha'.2 hb'.2 fun z => by
      constructor
      · intro hz
        rcases List.mem_cons.mp ((e z).mp (List.mem_cons_of_mem _ hz)) with q | q
        · have := ha'.1 z hz; omega
        · exact q
      · intro hz
        rcases List.mem_cons.mp ((e z).mpr (List.mem_cons_of_mem _ hz)) with q | q
        · have := hb'.1 z hz; omega
        · exact q
    rw [this]
theorem weight_succ (n x : Nat) : weight (n + 1) x = weight n x + bit x n := by
  unfold weight
  rw [List.range_succ, List.foldl_append]; rfl
theorem weight_zero (x : Nat) : weight 0 x = 0 := rfl
theorem weight_of_zero (n : Nat) : weight n 0 = 0 := by
  induction n with
  | zero => rfl
  | succ n ih => rw [weight_succ, ih, bit_zero.mpr (by simp)]
theorem bit_half (x i : Nat) : bit x (i + 1) = bit (x / 2) i := by
  unfold bit
  rw [Nat.div_div_eq_div_mul, Nat.pow_succ, Nat.mul_comm 2]
theorem weight_low (n : Nat) : ∀ x, weight (n + 1) x = x % 2 + weight n (x / 2) := by
  induction n with
  | zero =>
    intro x
    rw [weight_succ, weight_zero, weight_zero]
    unfold bit
    simp
  | succ n ih =>
    intro x
    rw [weight_succ, ih, weight_succ, bit_half, Nat.add_assoc]
theorem weight_more {n x : Nat} (h : x < 2 ^ n) : ∀ m, n ≤ m → weight m x = weight n x := by
  intro m hm
  induction m with
  | zero => rw [show n = 0 by omega]
  | succ m ih =>
    rcases Nat.lt_or_eq_of_le hm with q | q
    · rw [weight_succ, ih (by omega), bit_zero.mpr (Nat.testBit_lt_two_pow (Nat.lt_of_lt_of_le h (Nat.pow_le_pow_right (by decide) (by omega))))]
      rfl
    · rw [q]
theorem weight_le (n x : Nat) : weight n x ≤ n := by
  induction n with
  | zero => exact Nat.le_refl _
  | succ n ih => rw [weight_succ]; have := bit_le x n; omega
theorem weight_eq_zero {n x : Nat} (h : x < 2 ^ n) : weight n x = 0 ↔ x = 0 := by
  constructor
  · intro e
    refine Nat.eq_of_testBit_eq fun i => ?_
    rw [Nat.zero_testBit]
    have aux : ∀ m, weight m x = 0 → ∀ i, i < m → x.testBit i = false := by
      intro m
      induction m with
      | zero => intro _ i hi; omega
      | succ m ih =>
        intro q i hi
        rw [weight_succ] at q
        rcases Nat.lt_or_eq_of_le (Nat.le_of_lt_succ hi) with z | z
        · exact ih (by omega) i z
        · subst z; exact bit_zero.mp (by omega)
    by_cases hi : i < n
    · exact aux n e i hi
    · exact Nat.testBit_lt_two_pow (Nat.lt_of_lt_of_le h (Nat.pow_le_pow_right (by decide) (by omega)))
  · rintro rfl; exact weight_of_zero n
theorem spread_perm {n : Nat} {a b : List Nat} (h : a.Perm b) : spread n a = spread n b := by
  unfold spread
  refine List.map_congr_left fun d _ => ?_
  exact (h.filter _).length_eq
theorem weights_wds {n : Nat} {F : List Nat} (h : IsForm n F) : weights ⟨n, F⟩ = spread n (wds F) := (spread_perm (wds_perm h)).symm
theorem spread_snoc {n : Nat} (a : List Nat) (x : Nat) (hx : weight n x ≤ n) : ∃ v, (spread n a)[weight n x]? = some v ∧ spread n (a ++ [x]) = (spread n a).set (weight n x) (v + 1) := by
  unfold spread
  refine ⟨(a.filter fun y => weight n y == weight n x).length, ?_, ?_⟩
  · rw [List.getElem?_map, List.getElem?_range (by omega)]; rfl
  · refine List.ext_getElem? fun i => ?_
    rw [List.getElem?_set]
    by_cases hi : i < n + 1
    · rw [List.getElem?_map, List.getElem?_range hi]
      simp only [Option.map_some, List.filter_append, List.length_append]
      by_cases e : weight n x = i
      · subst e
        rw [if_pos rfl, if_pos (by simp; omega)]
        simp
      · rw [if_neg e, List.getElem?_map, List.getElem?_range hi]
        simp [e]
    · rw [List.getElem?_eq_none (by simp; omega), if_neg (by omega), List.getElem?_eq_none (by simp; omega)]
theorem spread_nil (n : Nat) : spread n [] = (List.range (n + 1)).map fun _ => 0 := rfl
def par (n x : Nat) : Nat := weight n x % 2
theorem par_xor (n x y : Nat) : par n (x ^^^ y) = (par n x + par n y) % 2 := by
  unfold par
  induction n with
  | zero => rfl
  | succ n ih =>
    rw [weight_succ, weight_succ, weight_succ, bit_tb, bit_tb, bit_tb, Nat.testBit_xor]
    cases x.testBit n <;> cases y.testBit n <;> simp <;> omega
theorem odd_xor (n r x y : Nat) : odd n r (x ^^^ y) = (odd n r x + odd n r y) % 2 := by
  unfold odd
  rw [show r &&& (x ^^^ y) = (r &&& x) ^^^ (r &&& y) from Nat.and_xor_distrib_left .., ← par, par_xor]
  rfl
theorem odd_comm (n x y : Nat) : odd n x y = odd n y x := by
  unfold odd
  rw [Nat.and_comm]
theorem odd_zero (n r : Nat) : odd n r 0 = 0 := by
  unfold odd
  rw [Nat.and_zero, weight_of_zero]
end CM
end
section
namespace CM
open Cb
structure Good (c : Code) : Prop where
  lo : 1 ≤ c.n
  hi : c.n ≤ 10
  form : IsForm c.n c.rows
theorem Good.mk' {n : Nat} {rows : List Nat} (h1 : 1 ≤ n) (h2 : n ≤ 10) (h : ∀ r ∈ rows, r < 2 ^ n) : Good ⟨n, formOf n rows⟩ := ⟨h1, h2, formOf_ok h⟩
theorem Good.zero : Good ⟨1, []⟩ := ⟨Nat.le_refl 1, by decide, .nil 1⟩
theorem two_le {n m x : Nat} (h : x < 2 ^ n) (hm : n ≤ m) : x < 2 ^ m := Nat.lt_of_lt_of_le h (Nat.pow_le_pow_right (by decide) hm)
theorem tb_two (i j : Nat) : (2 ^ i).testBit j = decide (i = j) := Nat.testBit_two_pow
def drow (F : List Nat) (i : Nat) : Nat := F.foldl (fun w r => if r.testBit i = true then w ||| 2 ^ r.log2 else w) (2 ^ i)
theorem tb_fold (i : Nat) : ∀ (F : List Nat) (w j : Nat), (F.foldl (fun w r => if r.testBit i = true then w ||| 2 ^ r.log2 else w) w).testBit j = true ↔ w.testBit j = true ∨ ∃ r ∈ F, r.testBit i = true ∧ r.log2 = j
  | [], w, j => by simp
  | r :: F, w, j => by
    rw [List.foldl_cons, tb_fold i F]
    split
    · rename_i q
      rw [Nat.testBit_or, tb_two]
      simp only [Bool.or_eq_true, decide_eq_true_eq, List.mem_cons, exists_eq_or_imp, q, true_and]
      exact or_assoc
    · rename_i q
      simp only [List.mem_cons, exists_eq_or_imp, q, false_and, false_or, Bool.false_eq_true]
theorem tb_drow {F : List Nat} {i j : Nat} : (drow F i).testBit j = true ↔ i = j ∨ ∃ r ∈ F, r.testBit i = true ∧ r.log2 = j := by
  unfold drow
  rw [tb_fold, tb_two, decide_eq_true_eq]
theorem par_two {n i : Nat} (h : i < n) : par n (2 ^ i) = 1 := by
  unfold par
  have : ∀ m, weight m (2 ^ i) = if i < m then 1 else 0 := by
    intro m
    induction m with
    | zero => rfl
    | succ m ih =>
      rw [weight_succ, ih, bit_tb, tb_two]
      by_cases e : i = m
      · subst e; simp
      · rw [decide_eq_false e]
        by_cases q : i < m
        · rw [if_pos q, if_pos (by omega)]; rfl
        · rw [if_neg q, if_neg (by omega)]; rfl
  rw [this, if_pos h]
def InDual (n : Nat) (F : List Nat) (y : Nat) : Prop := y < 2 ^ n ∧ ∀ r ∈ F, odd n r y = 0
theorem InDual.zero (n : Nat) (F : List Nat) : InDual n F 0 := ⟨Nat.two_pow_pos n, fun _ _ => odd_zero _ _⟩
theorem InDual.xor {n : Nat} {F : List Nat} {a b : Nat} (ha : InDual n F a) (hb : InDual n F b) : InDual n F (a ^^^ b) :=
  ⟨Nat.xor_lt_two_pow ha.1 hb.1, fun r hr => by rw [odd_xor, ha.2 r hr, hb.2 r hr]⟩
def Np (F : List Nat) (i : Nat) : Prop := ∀ r ∈ F, r.log2 ≠ i
theorem IsForm.eq_of_hi {n : Nat} : ∀ {F : List Nat}, IsForm n F → ∀ {r s : Nat}, r ∈ F → s ∈ F → r.log2 = s.log2 → r = s
  | t :: F, h, r, s, hr, hs, e => by
    have hd := (List.pairwise_cons.mp h.dec).1
    rcases List.mem_cons.mp hr with rfl | hr' <;> rcases List.mem_cons.mp hs with rfl | hs'
    · rfl
    · have := hd s hs'; omega
    · have := hd r hr'; omega
    · exact h.tail.eq_of_hi hr' hs' e
theorem drow_dual {n i : Nat} {F : List Nat} (h : IsForm n F) (hi : i < n) (hn : Np F i) : InDual n F (drow F i) := by
  refine ⟨Nat.lt_pow_two_of_testBit _ fun j hj => ?_, fun r hr => ?_⟩
  · refine Bool.eq_false_iff.mpr fun q => ?_
    rcases tb_drow.mp q with e | ⟨r, hr, _, e⟩
    · omega
    · have := hi_lt (h.lt r hr) (h.nz r hr); omega
  · by_cases q : r.testBit i = true
    · have e : r &&& drow F i = 2 ^ i ^^^ 2 ^ r.log2 := by
        refine Nat.eq_of_testBit_eq fun j => ?_
        have hne := hn r hr
        rw [Bool.eq_iff_iff, Nat.testBit_and, Bool.and_eq_true, tb_drow, Nat.testBit_xor, tb_two, tb_two]
        constructor
        · rintro ⟨hj, rfl | ⟨s, hs, hsi, rfl⟩⟩
          · rw [decide_eq_true rfl, decide_eq_false hne]; rfl
          · have el : r.log2 = s.log2 := by
              refine Decidable.byContradiction fun z => ?_
              rw [h.red s hs r hr (fun y => z y.symm)] at hj; cases hj
            rw [el, decide_eq_true rfl, decide_eq_false (fun z => hn s hs z.symm)]; rfl
        · intro z
          by_cases e1 : i = j
          · subst e1; exact ⟨q, .inl rfl⟩
          · rw [decide_eq_false e1] at z
            have e2 : r.log2 = j := by simpa using z
            subst e2
            exact ⟨tb_hi (h.nz r hr), .inr ⟨r, hr, q, rfl⟩⟩
      unfold odd
      rw [e, ← par, par_xor, par_two hi, par_two (hi_lt (h.lt r hr) (h.nz r hr))]
    · have e : r &&& drow F i = 0 := by
        refine Nat.eq_of_testBit_eq fun j => ?_
        rw [Nat.zero_testBit]
        refine Bool.eq_false_iff.mpr fun z => ?_
        rw [Nat.testBit_and, Bool.and_eq_true, tb_drow] at z
        obtain ⟨hj, rfl | ⟨s, hs, hsi, rfl⟩⟩ := z
        · exact q hj
        · by_cases el : s.log2 = r.log2
          · rw [h.eq_of_hi hs hr el] at hsi; exact q hsi
          · rw [h.red s hs r hr el] at hj; cases hj
      unfold odd
      rw [e, weight_of_zero]
def cmb (F : List Nat) (y : Nat) (l : List Nat) : Nat := l.foldl (fun a i => if y.testBit i = true then a ^^^ drow F i else a) 0
theorem cmb_snoc (F : List Nat) (y : Nat) (l : List Nat) (i : Nat) : cmb F y (l ++ [i]) = if y.testBit i = true then cmb F y l ^^^ drow F i else cmb F y l := by
  unfold cmb
  rw [List.foldl_append]; rfl
theorem snoc_ind {p : List Nat → Prop} (h0 : p []) (hs : ∀ l i, p l → p (l ++ [i])) (l : List Nat) : p l := by
  have : ∀ k : List Nat, p k.reverse := by
    intro k
    induction k with
    | nil => exact h0
    | cons a k ih => rw [List.reverse_cons]; exact hs _ _ ih
  have q := this l.reverse
  rwa [List.reverse_reverse] at q
theorem cmb_sp' (F : List Nat) (y : Nat) : ∀ (l L : List Nat), (∀ i ∈ l, i ∈ L) → Sp (L.map (drow F)) (cmb F y l) := by
  intro l
  refine snoc_ind (p := fun l => ∀ L : List Nat, (∀ i ∈ l, i ∈ L) → Sp (L.map (drow F)) (cmb F y l)) ?_ ?_ l
  · intro L _; exact .zero
  · intro l i ih L hL
    rw [cmb_snoc]
    split
    · exact .add (List.mem_map.mpr ⟨i, hL i (by simp), rfl⟩) (ih L fun j hj => hL j (by simp [hj]))
    · exact ih L fun j hj => hL j (by simp [hj])
theorem cmb_tb {F : List Nat} {y j : Nat} (hj : Np F j) : ∀ (l : List Nat), l.Nodup → (cmb F y l).testBit j = (decide (j ∈ l) && y.testBit j) := by
  intro l
  refine snoc_ind (p := fun l => l.Nodup → (cmb F y l).testBit j = (decide (j ∈ l) && y.testBit j)) ?_ ?_ l
  · intro _; simp [cmb]
  · intro l i ih hl
    have hl' := List.nodup_append.mp hl
    have ih' := ih hl'.1
    have ni : i ∉ l := fun q => hl'.2.2 i q i (by simp) rfl
    rw [cmb_snoc]
    have td : (drow F i).testBit j = decide (i = j) := by
      rw [Bool.eq_iff_iff, tb_drow, decide_eq_true_eq]
      constructor
      · rintro (e | ⟨r, hr, _, e⟩)
        · exact e
        · exact absurd e (hj r hr)
      · exact .inl
    by_cases e : i = j
    · subst e
      split
      · rename_i q
        rw [Nat.testBit_xor, ih', td, decide_eq_false ni, decide_eq_true rfl, q]; simp
      · rename_i q
        rw [ih', decide_eq_false ni]
        have : y.testBit i = false := by simpa using q
        rw [this]; simp
    · have m1 : decide (j ∈ l ++ [i]) = decide (j ∈ l) := by
        rw [Bool.eq_iff_iff, decide_eq_true_eq, decide_eq_true_eq, List.mem_append, List.mem_singleton]
        exact ⟨fun z => z.elim id fun z => absurd z.symm e, .inl⟩
      rw [m1]
      split
      · rw [Nat.testBit_xor, ih', td, decide_eq_false e]; simp
      · exact ih'
def nps (n : Nat) (F : List Nat) : List Nat := (List.range n).filter fun i => !(F.map Nat.log2).contains i
theorem mem_nps {n i : Nat} {F : List Nat} : i ∈ nps n F ↔ i < n ∧ Np F i := by
  unfold nps Np
  rw [List.mem_filter, List.mem_range]
  simp
theorem dual_span {n : Nat} {F : List Nat} (h : IsForm n F) (y : Nat) : Sp ((nps n F).map (drow F)) y ↔ InDual n F y := by
  constructor
  · intro q
    refine q.ind (.zero n F) (fun r hr => ?_) fun a b ha hb => ha.xor hb
    obtain ⟨i, hi, rfl⟩ := List.mem_map.mp hr
    exact drow_dual h (mem_nps.mp hi).1 (mem_nps.mp hi).2
  · intro hy
    have hs := cmb_sp' F y (nps n F) (nps n F) fun _ q => q
    have hc : InDual n F (cmb F y (nps n F)) := by
      refine hs.ind (.zero n F) (fun r hr => ?_) fun a b ha hb => ha.xor hb
      obtain ⟨i, hi, rfl⟩ := List.mem_map.mp hr
      exact drow_dual h (mem_nps.mp hi).1 (mem_nps.mp hi).2
    have hz := hy.xor hc
    have nd : (nps n F).Nodup := List.Pairwise.filter _ List.nodup_range
    have z1 : ∀ j, Np F j → (y ^^^ cmb F y (nps n F)).testBit j = false := fun j hj => by
      by_cases hjn : j < n
      · rw [Nat.testBit_xor, cmb_tb hj _ nd, decide_eq_true (mem_nps.mpr ⟨hjn, hj⟩)]; simp
      · exact Nat.testBit_lt_two_pow (two_le hz.1 (by omega))
    have z2 : ∀ r ∈ F, (y ^^^ cmb F y (nps n F)).testBit r.log2 = false := fun r hr => by
      refine Bool.eq_false_iff.mpr fun q => ?_
      have e : r &&& (y ^^^ cmb F y (nps n F)) = 2 ^ r.log2 := by
        refine Nat.eq_of_testBit_eq fun j => ?_
        rw [Bool.eq_iff_iff, Nat.testBit_and, Bool.and_eq_true, tb_two, decide_eq_true_eq]
        constructor
        · rintro ⟨a, b⟩
          refine Decidable.byContradiction fun ne => ?_
          by_cases hj : Np F j
          · rw [z1 j hj] at b; cases b
          · have : ∃ s ∈ F, s.log2 = j := by
              refine Decidable.byContradiction fun no => hj fun s hs e => no ⟨s, hs, e⟩
            obtain ⟨s, hs, rfl⟩ := this
            rw [h.red s hs r hr (fun z => ne z.symm)] at a; cases a
        · rintro rfl
          exact ⟨tb_hi (h.nz r hr), q⟩
      have o := hz.2 r hr
      unfold odd at o
      rw [e, ← par, par_two (hi_lt (h.lt r hr) (h.nz r hr))] at o
      cases o
    have : y ^^^ cmb F y (nps n F) = 0 := by
      refine Nat.eq_of_testBit_eq fun j => ?_
      rw [Nat.zero_testBit]
      by_cases hj : Np F j
      · exact z1 j hj
      · have : ∃ s ∈ F, s.log2 = j := by
          refine Decidable.byContradiction fun no => hj fun s hs e => no ⟨s, hs, e⟩
        obtain ⟨s, hs, rfl⟩ := this
        exact z2 s hs
    rw [xor_eq_zero this]; exact hs
theorem mem_dualList {c : Code} {y : Nat} : y ∈ ((List.range (2 ^ c.n)).filter fun (y : Nat) => c.rows.all fun (r : Nat) => odd c.n r y == 0) ↔ InDual c.n c.rows y := by
  rw [List.mem_filter, List.mem_range, List.all_eq_true]
  unfold InDual
  simp
theorem drow_lt {c : Code} (g : IsForm c.n c.rows) : ∀ r ∈ (nps c.n c.rows).map (drow c.rows), r < 2 ^ c.n := fun r hr => by
  obtain ⟨i, hi, rfl⟩ := List.mem_map.mp hr
  exact (drow_dual g (mem_nps.mp hi).1 (mem_nps.mp hi).2).1
theorem dual_eq {c : Code} (g : IsForm c.n c.rows) : dual c = ⟨c.n, formOf c.n ((nps c.n c.rows).map (drow c.rows))⟩ := by
  unfold dual ofWords
  refine congrArg (Code.mk c.n) (formOf_congr (fun r hr => (mem_dualList.mp hr).1) (drow_lt g) fun z => ?_)
  rw [dual_span g]
  constructor
  · intro q
    exact q.ind (.zero _ _) (fun r hr => mem_dualList.mp hr) fun a b ha hb => ha.xor hb
  · intro q
    exact .mem (mem_dualList.mpr q)
theorem dual_form {c : Code} (g : IsForm c.n c.rows) : IsForm c.n (dual c).rows := by
  rw [dual_eq g]; exact formOf_ok (drow_lt g)
theorem dual_sp {c : Code} (g : IsForm c.n c.rows) (y : Nat) : Sp (dual c).rows y ↔ InDual c.n c.rows y := by
  rw [dual_eq g]
  show Sp (formOf _ _) y ↔ _
  rw [formOf_sp (drow_lt g), dual_span g]
theorem Good.dual {c : Code} (g : Good c) : Good (dual c) := ⟨g.lo, g.hi, dual_form g.form⟩
theorem Good.both {c d : Code} (g : Good c) (k : Good d) (e : c.n = d.n) : Good (both c d) := by
  refine .mk' g.lo g.hi fun r hr => ?_
  rcases List.mem_append.mp hr with q | q
  · exact g.form.lt r q
  · rw [e]; exact k.form.lt r q
theorem both_lt {c d : Code} (g : Good c) (k : Good d) (e : c.n = d.n) : ∀ r ∈ c.rows ++ d.rows, r < 2 ^ c.n := fun r hr => by
  rcases List.mem_append.mp hr with q | q
  · exact g.form.lt r q
  · rw [e]; exact k.form.lt r q
theorem meet_eq {c d : Code} (g : Good c) (k : Good d) (e : c.n = d.n) : meet c d = ⟨c.n, formOf c.n ((wds c.rows).filter fun x => rdc d.rows x == 0)⟩ := by
  unfold meet ofWords
  have hl : ∀ x, x ∈ (wordsOf c).filter (holds d) ↔ x ∈ (wds c.rows).filter fun x => rdc d.rows x == 0 := fun x => by
    rw [List.mem_filter, List.mem_filter, mem_wds, mem_wordsOf (n := c.n) (F := c.rows) g.form, holds_iff (n := d.n) (F := d.rows) k.form, beq_iff_eq, k.form.rdc_zero]
  exact congrArg (Code.mk c.n) (formOf_mem (fun r hr => ((mem_wordsOf (n := c.n) (F := c.rows) g.form).mp (List.mem_filter.mp hr).1).lt g.form.lt) hl)
theorem meet_lt {c d : Code} (g : Good c) : ∀ r ∈ (wds c.rows).filter fun x => rdc d.rows x == 0, r < 2 ^ c.n := fun r hr =>
  (mem_wds.mp (List.mem_filter.mp hr).1).lt g.form.lt
theorem Good.meet {c d : Code} (g : Good c) (k : Good d) (e : c.n = d.n) : Good (meet c d) := by
  rw [meet_eq g k e]; exact .mk' g.lo g.hi (meet_lt g)
theorem without_lt {n i x : Nat} (hi : i < n) (hx : x < 2 ^ n) : without i x < 2 ^ (n - 1) := by
  unfold without
  have e1 : 2 ^ n = 2 ^ (i + 1) * 2 ^ (n - 1 - i) := by rw [← Nat.pow_add]; congr 1; omega
  have e2 : 2 ^ (n - 1) = 2 ^ (n - 1 - i) * 2 ^ i := by rw [← Nat.pow_add]; congr 1; omega
  have a := Nat.mod_lt x (Nat.two_pow_pos i)
  have b : x / 2 ^ (i + 1) < 2 ^ (n - 1 - i) := by
    rw [Nat.div_lt_iff_lt_mul (Nat.two_pow_pos _), Nat.mul_comm, ← e1]; exact hx
  have c : (x / 2 ^ (i + 1) + 1) * 2 ^ i ≤ 2 ^ (n - 1 - i) * 2 ^ i := Nat.mul_le_mul_right _ b
  rw [Nat.add_mul, Nat.one_mul] at c
  omega
theorem punct_lt {c : Code} (g : Good c) {i : Nat} (hi : i < c.n) : ∀ r ∈ c.rows.map (without i), r < 2 ^ (c.n - 1) := fun r hr => by
  obtain ⟨s, hs, rfl⟩ := List.mem_map.mp hr
  exact without_lt hi (g.form.lt s hs)
theorem Good.punctured {c : Code} (g : Good c) {i : Nat} (h2 : 2 ≤ c.n) (hi : i < c.n) : Good (punctured c i) :=
  .mk' (by omega) (by have := g.hi; omega) (punct_lt g hi)
theorem short_lt {c : Code} (g : Good c) {i : Nat} (hi : i < c.n) : ∀ r ∈ ((wds c.rows).filter fun x => !x.testBit i).map (without i), r < 2 ^ (c.n - 1) := fun r hr => by
  obtain ⟨s, hs, rfl⟩ := List.mem_map.mp hr
  exact without_lt hi ((mem_wds.mp (List.mem_filter.mp hs).1).lt g.form.lt)
theorem shortened_eq {c : Code} (g : Good c) {i : Nat} (hi : i < c.n) : shortened c i = ⟨c.n - 1, formOf (c.n - 1) (((wds c.rows).filter fun x => !x.testBit i).map (without i))⟩ := by
  unfold shortened ofWords
  refine congrArg (Code.mk (c.n - 1)) (Eq.symm (formOf_mem (short_lt g hi) fun z => ?_))
  rw [List.mem_map, List.mem_map]
  have : ∀ x, x ∈ (wds c.rows).filter (fun x => !x.testBit i) ↔ x ∈ (wordsOf c).filter fun x => bit x i == 0 := fun x => by
    rw [List.mem_filter, List.mem_filter, mem_wds, mem_wordsOf (n := c.n) (F := c.rows) g.form, beq_iff_eq, bit_zero]
    simp
  simp only [this]
theorem Good.shortened {c : Code} (g : Good c) {i : Nat} (h2 : 2 ≤ c.n) (hi : i < c.n) : Good (shortened c i) := by
  rw [shortened_eq g hi]; exact .mk' (by omega) (by have := g.hi; omega) (short_lt g hi)
theorem ext_lt {c : Code} (g : Good c) : ∀ r ∈ c.rows.map (fun (r : Nat) => r + weight c.n r % 2 * 2 ^ c.n), r < 2 ^ (c.n + 1) := fun r hr => by
  obtain ⟨s, hs, rfl⟩ := List.mem_map.mp hr
  have a := g.form.lt s hs
  have b := Nat.mod_lt (weight c.n s) (show 0 < 2 by decide)
  rw [Nat.pow_succ]
  rcases (show weight c.n s % 2 = 0 ∨ weight c.n s % 2 = 1 by omega) with e | e <;> rw [e] <;> omega
theorem Good.extended {c : Code} (g : Good c) (h : c.n < 10) : Good (extended c) := .mk' (by omega) (by omega) (ext_lt g)
theorem mul_pow_lt {r n m : Nat} (h : r < 2 ^ m) : r * 2 ^ n < 2 ^ (n + m) := by
  rw [Nat.pow_add, Nat.mul_comm (2 ^ n)]
  exact Nat.mul_lt_mul_of_pos_right h (Nat.two_pow_pos n)
theorem beside_lt {c d : Code} (g : Good c) (k : Good d) : ∀ r ∈ c.rows ++ d.rows.map (fun (r : Nat) => r * 2 ^ c.n), r < 2 ^ (c.n + d.n) := fun r hr => by
  rcases List.mem_append.mp hr with q | q
  · exact two_le (g.form.lt r q) (by omega)
  · obtain ⟨s, hs, rfl⟩ := List.mem_map.mp q
    exact mul_pow_lt (k.form.lt s hs)
theorem Good.beside {c d : Code} (g : Good c) (k : Good d) (h : c.n + d.n ≤ 10) : Good (beside c d) := .mk' (by have := g.lo; omega) h (beside_lt g k)
theorem double_lt {c d : Code} (g : Good c) (k : Good d) (e : c.n = d.n) : ∀ r ∈ c.rows.map (fun (r : Nat) => r + r * 2 ^ c.n) ++ d.rows.map (fun (r : Nat) => r * 2 ^ c.n), r < 2 ^ (2 * c.n) := fun r hr => by
  rcases List.mem_append.mp hr with q | q
  · obtain ⟨s, hs, rfl⟩ := List.mem_map.mp q
    have a := g.form.lt s hs
    have b : (s + 1) * 2 ^ c.n ≤ 2 ^ c.n * 2 ^ c.n := Nat.mul_le_mul_right _ a
    rw [Nat.two_mul, Nat.pow_add]
    rw [Nat.add_mul, Nat.one_mul] at b
    omega
  · obtain ⟨s, hs, rfl⟩ := List.mem_map.mp q
    rw [Nat.two_mul]
    exact mul_pow_lt (by rw [e]; exact k.form.lt s hs)
theorem Good.doubled {c d : Code} (g : Good c) (k : Good d) (e : c.n = d.n) (h : 2 * c.n ≤ 10) : Good (doubled c d) := .mk' (by have := g.lo; omega) h (double_lt g k e)
def Lx (f : Nat → Nat) (x y : Nat) : Prop := f x < f y ∨ (f x = f y ∧ x ≤ y)
theorem Lx.refl {f : Nat → Nat} (x : Nat) : Lx f x x := .inr ⟨rfl, Nat.le_refl x⟩
theorem Lx.trans {f : Nat → Nat} {x y z : Nat} (a : Lx f x y) (b : Lx f y z) : Lx f x z := by
  unfold Lx at *; omega
theorem Lx.antisymm {f : Nat → Nat} {x y : Nat} (a : Lx f x y) (b : Lx f y x) : x = y := by
  unfold Lx at *; omega
theorem Lx.total (f : Nat → Nat) (x y : Nat) : Lx f x y ∨ Lx f y x := by
  unfold Lx; omega
theorem leastBy_some {f : Nat → Nat} : ∀ {l : List Nat} {m : Nat}, l.Pairwise (· < ·) → leastBy f l = some m → m ∈ l ∧ ∀ y ∈ l, Lx f m y
  | [], _, _, e => by cases e
  | x :: l, m, hd, e => by
    have hd' := List.pairwise_cons.mp hd
    unfold leastBy at e
    split at e
    · rename_i q
      have : l = [] := by
        cases l with
        | nil => rfl
        | cons y l' =>
          unfold leastBy at q
          split at q
          · cases q
          · split at q <;> cases q
      subst this
      cases e
      exact ⟨List.mem_cons_self, fun y hy => by rw [List.mem_singleton.mp hy]; exact .refl _⟩
    · rename_i z q
      obtain ⟨i1, i2⟩ := leastBy_some hd'.2 q
      split at e
      · rename_i c
        cases e
        refine ⟨List.mem_cons_of_mem _ i1, fun y hy => ?_⟩
        rcases List.mem_cons.mp hy with rfl | hy
        · exact .inl c
        · exact i2 y hy
      · rename_i c
        cases e
        refine ⟨List.mem_cons_self, fun y hy => ?_⟩
        rcases List.mem_cons.mp hy with rfl | hy
        · exact .refl _
        · refine Lx.trans ?_ (i2 y hy)
          have := hd'.1 z i1
          unfold Lx; omega
theorem leastBy_none {f : Nat → Nat} : ∀ {l : List Nat}, leastBy f l = none ↔ l = []
  | [] => ⟨fun _ => rfl, fun _ => rfl⟩
  | x :: l => by
    constructor
    · intro e
      unfold leastBy at e
      split at e
      · cases e
      · split at e <;> cases e
    · intro e; cases e
theorem leastBy_eq {f : Nat → Nat} {l : List Nat} {m : Nat} (hl : l.Pairwise (· < ·)) (hm : m ∈ l) (h : ∀ y ∈ l, Lx f m y) : leastBy f l = some m := by
  cases e : leastBy f l with
  | none => rw [leastBy_none.mp e] at hm; cases hm
  | some k =>
    obtain ⟨a, b⟩ := leastBy_some hl e
    rw [(b m hm).antisymm (h k a)]
theorem least_eq {c : Code} (g : IsForm c.n c.rows) {m : Nat} (hm : Sp c.rows m) (h0 : m ≠ 0) (h : ∀ y, Sp c.rows y → y ≠ 0 → Lx (weight c.n) m y) : least c = some m := by
  unfold least
  refine leastBy_eq (List.Pairwise.filter _ (sorted_wordsOf c)) (List.mem_filter.mpr ⟨(mem_wordsOf (n := c.n) (F := c.rows) g).mpr hm, by simpa using h0⟩) fun y hy => ?_
  obtain ⟨a, b⟩ := List.mem_filter.mp hy
  exact h y ((mem_wordsOf (n := c.n) (F := c.rows) g).mp a) (by simpa using b)
theorem least_none {c : Code} (g : IsForm c.n c.rows) (h : ∀ y, Sp c.rows y → y = 0) : least c = none := by
  unfold least
  rw [leastBy_none]
  refine List.filter_eq_nil_iff.mpr fun y hy => ?_
  rw [h y ((mem_wordsOf (n := c.n) (F := c.rows) g).mp hy)]
  simp
end CM
end
section
namespace CM
open Cs
def flat : Call → List Nat
  | .put o n rows => [1, o, n, rows.length] ++ rows
  | .form o => [2, o]
  | .dual o q => [3, o, q]
  | .both o p q => [4, o, p, q]
  | .meet o p q => [5, o, p, q]
  | .puncture o i q => [6, o, i, q]
  | .shorten o i q => [7, o, i, q]
  | .extend o q => [8, o, q]
  | .beside o p q => [9, o, p, q]
  | .double o p q => [10, o, p, q]
  | .weights o => [11, o]
  | .least o => [12, o]
  | .holds o x => [13, o, x]
  | .near o y => [14, o, y]
  | .radius o => [15, o]
  | .leader o y => [16, o, y]
  | .leaders o => [17, o]
  | .syndrome o y => [18, o, y]
  | .encode o m => [19, o, m]
  | .decode o y => [20, o, y]
  | .same o p => [21, o, p]
  | .within o p => [22, o, p]
  | .kind o => [23, o]
  | .word o k => [24, o, k]
def up (l : List Nat) : List Int := l.map fun (n : Nat) => (n : Int)
def cell (c : Call) : List (List Int) := match c with
  | .put o n rows => [[1, (o : Int), (n : Int)], up rows]
  | c => [up (flat c)]
theorem whole_id (c : List (List Int)) : PyWqaycb.whole c = c := by
  unfold PyWqaycb.whole
  split <;> rfl
theorem up_nats {l : List Int} (h : l.all (fun (z : Int) => decide (0 ≤ z)) = true) : l = up (CsNeutral.nats l) := by
  unfold up CsNeutral.nats
  rw [List.map_map]
  refine (List.map_id l).symm.trans (List.map_congr_left fun z hz => ?_)
  have := of_decide_eq_true (List.all_eq_true.mp h z hz)
  show z = ((z.toNat : Nat) : Int)
  omega
theorem nats_up (l : List Nat) : CsNeutral.nats (up l) = l := by
  unfold up CsNeutral.nats
  rw [List.map_map]
  exact List.map_id l
theorem c1 {k o : Int} (h : 0 ≤ o) : ([[k, o]] : List (List Int)) = [[k, ((o.toNat : Nat) : Int)]] := by rw [Int.toNat_of_nonneg h]
theorem c2 {k o p : Int} (h : 0 ≤ o ∧ 0 ≤ p) : ([[k, o, p]] : List (List Int)) = [[k, ((o.toNat : Nat) : Int), ((p.toNat : Nat) : Int)]] := by rw [Int.toNat_of_nonneg h.1, Int.toNat_of_nonneg h.2]
theorem c3 {k o p q : Int} (h : (0 ≤ o ∧ 0 ≤ p) ∧ 0 ≤ q) : ([[k, o, p, q]] : List (List Int)) = [[k, ((o.toNat : Nat) : Int), ((p.toNat : Nat) : Int), ((q.toNat : Nat) : Int)]] := by
  rw [Int.toNat_of_nonneg h.1.1, Int.toNat_of_nonneg h.1.2, Int.toNat_of_nonneg h.2]
theorem cell_of {d : List (List Int)} (h : CsNeutral.asked1 d = true) : ∃ c, d = cell c := by
  unfold CsNeutral.asked1 at h
  split at h
  all_goals try simp only [Bool.and_eq_true, decide_eq_true_eq] at h
  · rename_i o n l
    refine ⟨.put o.toNat n.toNat (CsNeutral.nats l), ?_⟩
    show _ = [[1, ((o.toNat : Nat) : Int), ((n.toNat : Nat) : Int)], up (CsNeutral.nats l)]
    rw [← up_nats h.2, Int.toNat_of_nonneg h.1.1, Int.toNat_of_nonneg h.1.2]
  · exact ⟨.form _, c1 h⟩
  · exact ⟨.dual _ _, c2 h⟩
  · exact ⟨.both _ _ _, c3 h⟩
  · exact ⟨.meet _ _ _, c3 h⟩
  · exact ⟨.puncture _ _ _, c3 h⟩
  · exact ⟨.shorten _ _ _, c3 h⟩
  · exact ⟨.extend _ _, c2 h⟩
  · exact ⟨.beside _ _ _, c3 h⟩
  · exact ⟨.double _ _ _, c3 h⟩
  · exact ⟨.weights _, c1 h⟩
  · exact ⟨.least _, c1 h⟩
  · exact ⟨.holds _ _, c2 h⟩
  · exact ⟨.near _ _, c2 h⟩
  · exact ⟨.radius _, c1 h⟩
  · exact ⟨.leader _ _, c2 h⟩
  · exact ⟨.leaders _, c1 h⟩
  · exact ⟨.syndrome _ _, c2 h⟩
  · exact ⟨.encode _ _, c2 h⟩
  · exact ⟨.decode _ _, c2 h⟩
  · exact ⟨.same _ _, c2 h⟩
  · exact ⟨.within _ _, c2 h⟩
  · exact ⟨.kind _, c1 h⟩
  · exact ⟨.word _ _, c2 h⟩
  · cases h
theorem callOf_cell (c : Call) : CsNeutral.callOf (cell c) = some c := by
  cases c
  case put o n rows =>
    show some (Call.put _ _ (CsNeutral.nats (up rows))) = _
    rw [nats_up]; rfl
  all_goals rfl
theorem put1_cell (c : Call) : PyFlat.put1 (cell c) = up (flat c) := by
  cases c
  case put o n rows =>
    show [1, (o : Int), (n : Int)] ++ (((up rows).length : Int) :: (up rows) ++ []) = up ([1, o, n, rows.length] ++ rows)
    unfold up
    rw [List.map_append, List.append_nil, List.length_map]; rfl
  all_goals exact List.append_nil _
def run (s : State) : List Call → List (List Int)
  | [] => []
  | c :: r => CsNeutral.told (Cs.step s c).2 :: run (Cs.step s c).1 r
theorem played_run : ∀ (cs : List Call) (s : State), PyFlat.played CsNeutral.step s (cs.map cell) = run s cs
  | [], _ => rfl
  | c :: r, s => by
    have e : CsNeutral.step s (cell c) = ((Cs.step s c).1, CsNeutral.told (Cs.step s c).2) := by
      unfold CsNeutral.step
      rw [callOf_cell]
    show (CsNeutral.step s (cell c)).2 :: PyFlat.played CsNeutral.step (CsNeutral.step s (cell c)).1 (r.map cell) = _
    rw [e]
    exact congrArg _ (played_run r _)
theorem put_cells : ∀ cs : List Call, PyFlat.put (cs.map cell) = up (cs.flatMap flat)
  | [] => rfl
  | c :: r => by
    show PyFlat.put1 (cell c) ++ PyFlat.put (r.map cell) = up (flat c ++ r.flatMap flat)
    rw [put1_cell, put_cells r]
    unfold up
    rw [List.map_append]
theorem cells_of : ∀ {ds : List (List (List Int))}, ds.all CsNeutral.asked1 = true → ∃ cs : List Call, ds = cs.map cell
  | [], _ => ⟨[], rfl⟩
  | d :: ds, h => by
    rw [List.all_cons, Bool.and_eq_true] at h
    obtain ⟨c, rfl⟩ := cell_of h.1
    obtain ⟨cs, rfl⟩ := cells_of h.2
    exact ⟨c :: cs, rfl⟩
theorem parsed {ns : List Int} (h : PyWqaycb.answers_asked ns = true) : ∃ cs : List Call, cs.length ≤ 60 ∧ ns = up (cs.flatMap flat) ∧ PyWqaycb.answers ns = PyFlat.told (run Cs.start cs) := by
  unfold PyWqaycb.answers_asked at h
  unfold PyWqaycb.answers
  cases e : PyWqaycb.calls ns with
  | none => rw [e] at h; cases h
  | some ds =>
    rw [e] at h
    simp only [Bool.and_eq_true] at h
    have ha : ds.all CsNeutral.asked1 = true := by
      have := h.2
      unfold CsNeutral.asked at this
      rw [Bool.and_eq_true] at this
      exact this.1
    have hl : ds.length ≤ 60 := of_decide_eq_true h.1
    obtain ⟨cs, rfl⟩ := cells_of ha
    unfold PyWqaycb.calls at e
    cases e2 : PyFlat.calls PyWqaycb.shape ns.length ns with
    | none => rw [e2] at e; cases e
    | some ds2 =>
      rw [e2] at e
      have e3 : ds2 = cs.map cell := by
        have : ds2.map PyWqaycb.whole = cs.map cell := Option.some.inj e
        rwa [show PyWqaycb.whole = id from funext whole_id, List.map_id] at this
      subst e3
      refine ⟨cs, by rwa [List.length_map] at hl, ?_, ?_⟩
      · rw [(PyFlat.put_calls _ _ _ e2).1, put_cells]
      · show PyFlat.told (PyFlat.played CsNeutral.step CsNeutral.start (cs.map cell)) = _
        rw [played_run]; rfl
end CM
end
section
set_option Elab.async false
set_option linter.all false
set_option maxRecDepth 100000
set_option maxHeartbeats 4000000
namespace Sc
open PySem PySem.Spec PyProof.Rows L2 CM
open PySem.W (Codec)
abbrev nv (x : Nat) : V := .int (x : Int)
abbrev nl (l : List Nat) : List V := l.map nv
theorem and_nat (x y : Nat) : Builtin.bitAnd (x : Int) (y : Int) = ((x &&& y : Nat) : Int) := by
  rw [bitAnd_pp (by omega) (by omega)]; rfl
theorem or_nat (x y : Nat) : Builtin.bitOr (x : Int) (y : Int) = ((x ||| y : Nat) : Int) := by
  rw [Bits.bitOr_pp (by omega) (by omega)]; rfl
theorem xor_nat (x y : Nat) : Builtin.bitXor (x : Int) (y : Int) = ((x ^^^ y : Nat) : Int) := by
  rw [Bits.bitXor_pp (by omega) (by omega)]; rfl
theorem shr_nat (x i : Nat) : (x : Int) / 2 ^ (i : Int).toNat = ((x / 2 ^ i : Nat) : Int) := by
  rw [Int.toNat_natCast, two_pow_cast]; exact (Int.natCast_ediv _ _).symm
theorem shl_nat (x i : Nat) : (x : Int) * 2 ^ (i : Int).toNat = ((x * 2 ^ i : Nat) : Int) := by
  rw [Int.toNat_natCast, two_pow_cast]; exact (Int.natCast_mul _ _).symm
theorem add_nat (x y : Nat) : (x : Int) + (y : Int) = ((x + y : Nat) : Int) := (Int.natCast_add _ _).symm
theorem nl_at {l : List Nat} {i : Nat} {y : V} (h : (nl l)[i]? = some y) : ∃ r, l[i]? = some r ∧ y = nv r := by
  rw [List.getElem?_map] at h
  cases e : l[i]? with
  | none => rw [e] at h; cases h
  | some r => rw [e] at h; exact ⟨r, rfl, (Option.some.inj h).symm⟩
theorem nl_inj : ∀ {a b : List Nat}, nl a = nl b → a = b
  | [], [], _ => rfl
  | [], _ :: _, h => by cases h
  | _ :: _, [], h => by cases h
  | x :: a, y :: b, h => by
    obtain ⟨h1, h2⟩ := List.cons.inj h
    have h1 : (x : Int) = (y : Int) := V.int.inj h1
    rw [nl_inj h2, show x = y by omega]
theorem nl_append (a b : List Nat) : nl (a ++ b) = nl a ++ nl b := List.map_append
theorem nl_snoc (a : List Nat) (x : Nat) : nl (a ++ [x]) = nl a ++ [nv x] := List.map_append
theorem nl_length (a : List Nat) : (nl a).length = a.length := List.length_map ..
theorem nl_ints (l : List Nat) : nl l = (l.map fun (x : Nat) => (x : Int)).map V.int := by rw [List.map_map]; rfl
theorem small {n : Nat} (h : n ≤ 16000000) : n ≤ sizeLine := by rw [sizeLine_eq]; omega
theorem small' {n : Nat} (h : n < 16000000) : n < sizeLine := by rw [sizeLine_eq]; omega
structure Cal (P : Program) (w : World) (K : PySem.W.Frag) (mg : Str → Option Value) (base : Heap) (k : Nat) (x : Str) (ps : List Str) (sp : L2.Sp) : Prop where
  ex : ∃ (f : Addr) (fd : FuncData), FnOk P w K mg base CX0 k f fd ps sp ∧ mg x = some (.ref f) ∧ PySem.W.keepIn K (.ref f) = true ∧ L2.Binds K fd ps []
structure Df (K : PySem.W.Frag) (mg : Str → Option Value) (x : Str) (st : Stmt) (ps : List Str) : Prop where
  ex : ∃ (f : Addr) (fd : FuncData), Fun K x x st f fd ∧ L2.Binds K fd ps [] ∧ mg x = some (.ref f)
section
variable {P : Program} {w : World} {K : PySem.W.Frag} {mg : Str → Option Value} {base : Heap}
theorem Cal.mono {j k : Nat} {x : Str} {ps : List Str} {sp : L2.Sp} (C : Cal P w K mg base j x ps sp) (h : j ≤ k) : Cal P w K mg base k x ps sp := by
  obtain ⟨f, fd, a, b, c, d⟩ := C.ex
  exact ⟨f, fd, a.mono h, b, c, d⟩
theorem Df.cal {k : Nat} {x : Str} {st : Stmt} {ps : List Str} {sp : L2.Sp} (D : Df K mg x st ps) (h : ∀ f fd, Fun K x x st f fd → FnOk P w K mg base CX0 k f fd ps sp) : Cal P w K mg base k x ps sp := by
  obtain ⟨f, fd, a, b, c⟩ := D.ex
  exact ⟨f, fd, h f fd a, c, a.kp, b⟩
theorem Df.mk' {x : Str} {st : Stmt} {ps : List Str} {f : Addr} {fd : FuncData} (F : Fun K x x st f fd) (b : L2.Binds K fd ps []) (m : mg x = some (.ref f)) : Df K mg x st ps := ⟨f, fd, F, b, m⟩
end
section
variable {X : Cx} {k m : Nat} {x : Str} {ps : List Str} {sp : L2.Sp} {e : Expr} {es : List Expr} {t : TA} {p pos : Pos}
def tCal (sp : L2.Sp) (t : TA) : TE := fun σ H Q => t σ H fun vs H1 => sp vs H1 Q E0
theorem pe_cal (C : Cal X.prog X.w X.K X.mg X.base k x ps sp) (hr : Room m X.A) (hx : X.xe = fun _ _ => False) (ha : PA X (e :: es) t) (hk : k ≤ m := by decide) (hg : Gl X x := by rfl) (hdb : (x == ("__debug__" : Str)) = false := by decide)
    (he : starEach (e :: es) X.env = (false, eval e X.env) :: starEach es X.env := by rfl) (hpl : (backTo pos (starEach es X.env)).any (·.1) = false := by rfl) :
    PE X (.Call (.Name x p) (e :: es) [] pos) (tCal sp t) := by
  obtain ⟨f, fd, F, hm, kp, b⟩ := C.ex
  intro pins s σ H Q I h
  refine pe_call (dvs := []) (E := E0) F (hr.mono hk) hg hm kp b .nil (fun _ _ _ _ _ _ _ h => h.elim) ha hdb he hpl pins s σ H Q I ?_
  show t σ H fun vs H1 => sp (vs ++ []) H1 Q E0
  simpa only [tCal, List.append_nil] using h
end
section
variable {X : Cx} {x : Str} {p pos kpos : Pos} {e ke : Expr} {t : TA} {tk : TE} {id : String} {kw : Str}
def CallKR (X : Cx) (id : String) (kw : Str) (r : List V → V → Hp → VK → Prop) : Prop :=
  ∀ (pins : List (Addr × Obj)) (s : Shared) (σ : L2.St) (H : Hp) (xs : List V) (y : V) (us : List Value) (u : Value) (Q : VK), Inv X pins σ H s → Vals xs us → RelV y u → r xs y H Q →
    wpAny (model X.prog X.w) X.A (call (.builtin id) us [(kw, u)]) (EP X pins σ Q) X.xe s
def tCBK (r : List V → V → Hp → VK → Prop) (t : TA) (tk : TE) : TE := fun σ H Q => t σ H fun vs H1 => tk σ H1 fun y H2 => r vs y H2 Q
theorem pe_callBK {r : List V → V → Hp → VK → Prop} {es : List Expr} (hc : CallKR X id kw r) (hg : Gl X x) (hm : X.mg x = none) (hv : bootBuiltins x = some (.builtin id)) (ha : PA X (e :: es) t) (hk : PE X ke tk) (hn : x ≠ "__name__" := by decide) (hdb : (x == ("__debug__" : Str)) = false := by decide)
    (he : starEach (e :: es) X.env = (false, eval e X.env) :: starEach es X.env := by rfl) (hpl : (backTo pos (starEach (e :: es) X.env)).any (·.1) = false := by rfl) :
    PE X (.Call (.Name x p) (e :: es) [⟨some kw, ke, kpos⟩] pos) (tCBK r t tk) := by
  intro pins s σ H Q I h
  refine wpAny_Call_Name_kw (ld_blt I hg hm hv ?_ hn hdb)
  refine callWith_kw (thn (ha pos pins s σ H _ I h) fun us s1 ⟨vs, H1, I1, r1, q1⟩ => kws_cons (thn (hk pins s1 σ H1 _ I1 q1) fun u s2 ⟨y, H2, I2, r2, q2⟩ => kws_nil ?_)) (by rw [he]; rfl) hpl
  exact hc pins s2 σ H2 vs y us u Q I2 r1 r2 q2
def rSortedRev (K : PySem.W.Frag) : List V → V → Hp → VK → Prop := fun vs y H Q => ∃ (a : Addr) (ns : List Int), vs = [V.ref a] ∧ y = .bl true ∧ SqL K H a (ns.map V.int) ∧ ns.length < 64 ∧
  ∀ (ns' : List Int) (p : Addr), ns'.Perm ns → ns'.Pairwise (· ≥ ·) → H p = none → Q (.ref p) (upd H p (.lst (ns'.map V.int)))
theorem ckr_sorted : CallKR X "sorted" "reverse" (rSortedRev X.K) := by
  intro pins s σ H vs y us u Q I r ry h
  obtain ⟨a, ns, rfl, rfl, hs, h64, q⟩ := h
  obtain ⟨its, rv, hl, _⟩ := I.list hs
  rw [Vals.ref1 r]
  cases ry
  have hi := rv.ints
  refine PyProof.Rows.sorted_ints_rev hl.isList hi (by rw [hi.length]; exact h64) fun out ns' h1 h2 h3 => ?_
  obtain ⟨ep, he'⟩ := PyProof.Rows.sortedAll_at s.heap its out
  have hlen : (ns'.map V.int).length ≤ sizeLine := by rw [List.length_map, h2.length_eq]; exact small64 h64
  exact ⟨.ref _, upd H (s.heap.objs.size + 1) (.lst (ns'.map V.int)), I.laid (t' := s.toks) (fun _ _ => PyProof.Rows.sortedAll_old) (Nat.le_succ _) ⟨hlen, out.toList, ep, vals_of_ints h1, he'⟩, rfl, q ns' _ h2 h3 (I.hok.fresh (Nat.le_succ _))⟩
end
section
variable {X : Cx}
theorem mt_bitlen : MtR X "int.bit_length" (fun x xs H Q => ∃ i, x = .int i ∧ xs = [] ∧ Q (.int (Builtin.Int.intBits i)) H) := by
  intro pins s σ H x xs v us Q I rx rxs h
  obtain ⟨i, rfl, rfl, q⟩ := h
  cases rxs
  obtain ⟨t, rfl⟩ := rx
  exact call_int_bit_length ⟨.int _, H, I.tok _, ⟨_, rfl⟩, q⟩
theorem bits_nat {x : Nat} (h : x ≠ 0) : ((Builtin.Int.intBits (x : Int) : Nat) : Int) - 1 = ((x.log2 : Nat) : Int) := by
  unfold Builtin.Int.intBits
  rw [if_neg (by simpa using h), Int.natAbs_natCast]
  omega
theorem call_max3 (hc : X.calm = true) : CallR X (.builtin "max") (fun xs H Q => ∃ i j k : Int, xs = [.int i, .int j, .int k] ∧ Q (.int (max (max i j) k)) H) := by
  intro pins s σ H xs us Q I r h
  obtain ⟨i, j, k, rfl, q⟩ := h
  cases r with
  | cons r1 r =>
    cases r with
    | cons r2 r =>
      cases r with
      | cons r3 r =>
        cases r
        obtain ⟨t, rfl⟩ := r1
        obtain ⟨t2, rfl⟩ := r2
        obtain ⟨t3, rfl⟩ := r3
        refine PySem.max_three_ints (I.ok.hd hc) fun h' tk hk => ?_
        by_cases a : j > i
        · by_cases b : k > j
          · rw [if_pos a, if_pos b]
            exact ⟨.int k, H, I.kept hk, ⟨_, rfl⟩, by rwa [show max (max i j) k = k by omega] at q⟩
          · rw [if_pos a, if_neg b]
            exact ⟨.int j, H, I.kept hk, ⟨_, rfl⟩, by rwa [show max (max i j) k = j by omega] at q⟩
        · by_cases b : k > i
          · rw [if_neg a, if_pos b]
            exact ⟨.int k, H, I.kept hk, ⟨_, rfl⟩, by rwa [show max (max i j) k = k by omega] at q⟩
          · rw [if_neg a, if_neg b]
            exact ⟨.int i, H, I.kept hk, ⟨_, rfl⟩, by rwa [show max (max i j) k = i by omega] at q⟩
end
theorem same_new {H : Hp} {p : Addr} {o : HO} (h : H p = none) : Same H (upd H p o) := fun b u e => by
  rw [upd_ne (ne_of_none e h)]; exact e
theorem same_upd {H H' : Hp} {p : Addr} {o : HO} (h : H p = none) (s : Same H H') : Same H (upd H' p o) := fun b u e => by
  rw [upd_ne (ne_of_none e h)]; exact s b u e
theorem take_snoc' {α : Type} {l : List α} {i : Nat} {x : α} (h : l[i]? = some x) : l.take (i + 1) = l.take i ++ [x] := by
  rw [List.take_add_one, h]; rfl
theorem filter_map_snoc {l : List Nat} {p : Nat → Bool} {f : Nat → Nat} {x : Nat} : ((l ++ [x]).filter p).map f = if p x = true then (l.filter p).map f ++ [f x] else (l.filter p).map f := by
  rw [List.filter_append, List.map_append, List.filter_cons, List.filter_nil]
  split
  · rfl
  · rw [List.map_nil, List.append_nil]
theorem lc_nats {K : PySem.W.Frag} {a : Addr} {l : List Nat} {p : Nat → Bool} {f : Nat → Nat} {g : TG} {tt : TT} {te : TE} {vs : List Nat} {σ : L2.St} {H1 : Hp} {D : Addr} {Qd : Hp → Prop} (hD : H1 D = none) (hl : ∀ H', Same H1 H' → SqL K H' a (nl l)) (hz : l.length < 16000000)
    (step : ∀ x, x ∈ l → ∀ H', Same H1 H' → ∀ (Y : V → Hp → Prop) (N : Hp → Prop), (p x = true → ∀ H4, Same H' H4 → Y (nv (f x)) H4) → (p x = false → ∀ H4, Same H' H4 → N H4) →
      g (nv x) (wipe σ vs) H' fun σ2 H2 => wipe σ2 vs = wipe σ vs ∧ tt σ2 H2 fun b H3 => if b = true then te σ2 H3 Y else N H3)
    (hd : ∀ H', Same H1 H' → H' D = some (.lst (nl ((l.filter p).map f))) → Qd H') :
    ∃ W : Nat → Nat → Hp → Prop, (∃ m, W 0 m (upd H1 D (.lst []))) ∧ ∀ i m H, W i m H →
      ((Itl K a).stop i H ∧ Qd H) ∨ ((Itl K a).go i H ∧ ∃ Nx : Hp → Prop, (∀ H', Nx H' → ∃ m', m' < m ∧ W (i + 1) m' H') ∧ ∀ x H', (Itl K a).yld i H x H' → g x (wipe σ vs) H' fun σ2 H2 => wipe σ2 vs = wipe σ vs ∧ tt σ2 H2 fun b H3 =>
        if b = true then te σ2 H3 fun y H4 => ∃ acc, H4 D = some (.lst acc) ∧ acc.length < sizeLine ∧ Nx (upd H4 D (.lst (acc ++ [y]))) else Nx H3) := by
  refine lc_list (K := K) (a := a) (xs := nl l) (fun i H' => H' D = some (.lst (nl (((l.take i).filter p).map f))) ∧ Same H1 H') ⟨upd_same, same_new hD⟩ (fun i H' _ q => hl H' q.2) ?_ ?_
  · rintro i y H' hi ⟨hD', sm⟩
    obtain ⟨x, hx, rfl⟩ := nl_at hi
    refine step x (List.mem_of_getElem? hx) H' sm _ _ (fun hp H4 s4 => ?_) fun hp H4 s4 => ?_
    · refine ⟨_, s4 _ _ hD', ?_, ?_, same_upd hD (sm.trans s4)⟩
      · rw [nl_length, List.length_map]
        refine small' (Nat.lt_of_le_of_lt (List.length_filter_le _ _) ?_)
        rw [List.length_take]; omega
      · rw [upd_same, take_snoc' hx, filter_map_snoc, if_pos hp, nl_snoc]
    · refine ⟨?_, sm.trans s4⟩
      rw [s4 _ _ hD', take_snoc' hx, filter_map_snoc, if_neg (by rw [hp]; decide)]
  · rintro H' ⟨hD', sm⟩
    rw [nl_length, List.take_length] at hD'
    exact hd H' sm hD'
theorem lc_rangeN {n : Nat} {p : Nat → Bool} {f : Nat → Nat} {g : TG} {tt : TT} {te : TE} {vs : List Nat} {σ : L2.St} {H1 : Hp} {D : Addr} {Qd : Hp → Prop} (hD : H1 D = none) (hz : n < 16000000)
    (step : ∀ x, x < n → ∀ H', Same H1 H' → ∀ (Y : V → Hp → Prop) (N : Hp → Prop), (p x = true → ∀ H4, Same H' H4 → Y (nv (f x)) H4) → (p x = false → ∀ H4, Same H' H4 → N H4) →
      g (nv x) (wipe σ vs) H' fun σ2 H2 => wipe σ2 vs = wipe σ vs ∧ tt σ2 H2 fun b H3 => if b = true then te σ2 H3 Y else N H3)
    (hd : ∀ H', Same H1 H' → H' D = some (.lst (nl (((List.range n).filter p).map f))) → Qd H') :
    ∃ W : Nat → Nat → Hp → Prop, (∃ m, W 0 m (upd H1 D (.lst []))) ∧ ∀ i m H, W i m H →
      ((Itr 0 n).stop i H ∧ Qd H) ∨ ((Itr 0 n).go i H ∧ ∃ Nx : Hp → Prop, (∀ H', Nx H' → ∃ m', m' < m ∧ W (i + 1) m' H') ∧ ∀ x H', (Itr 0 n).yld i H x H' → g x (wipe σ vs) H' fun σ2 H2 => wipe σ2 vs = wipe σ vs ∧ tt σ2 H2 fun b H3 =>
        if b = true then te σ2 H3 fun y H4 => ∃ acc, H4 D = some (.lst acc) ∧ acc.length < sizeLine ∧ Nx (upd H4 D (.lst (acc ++ [y]))) else Nx H3) := by
  refine lc_range (lo := 0) (fun i H' => H' D = some (.lst (nl (((List.range i).filter p).map f))) ∧ Same H1 H') ⟨upd_same, same_new hD⟩ ?_ ?_
  · rintro i H' hi ⟨hD', sm⟩
    rw [show (0 : Int) + (i : Int) = (i : Int) by omega]
    refine step i hi H' sm _ _ (fun hp H4 s4 => ?_) fun hp H4 s4 => ?_
    · refine ⟨_, s4 _ _ hD', ?_, ?_, same_upd hD (sm.trans s4)⟩
      · rw [nl_length, List.length_map]
        refine small' (Nat.lt_of_le_of_lt (List.length_filter_le _ _) ?_)
        rw [List.length_range]; omega
      · rw [upd_same, List.range_succ, filter_map_snoc, if_pos hp, nl_snoc]
    · refine ⟨?_, sm.trans s4⟩
      rw [s4 _ _ hD', List.range_succ, filter_map_snoc, if_neg (by rw [hp]; decide)]
  · rintro H' ⟨hD', sm⟩
    exact hd H' sm hD'
theorem filter_yes {l : List Nat} : (l.filter fun _ => true) = l := List.filter_eq_self.mpr (by simp)
end Sc
end
section
set_option Elab.async false
set_option linter.all false
set_option maxRecDepth 100000
set_option maxHeartbeats 4000000
namespace Sc
open PySem PySem.Spec PyProof.Rows L2 CM
open PySem.W (Codec)
def top (i : Nat) : Stmt := PySem.Challenge.pw_shortcodes_s01_answers.main.body.getD i (.Pass ⟨0, 0, 0, 0⟩)
abbrev sInit : Stmt := inClass (top 1) 0
abbrev sWeight : Stmt := top 2
abbrev sByWeight : Stmt := top 3
abbrev sHasBit : Stmt := top 4
abbrev sWithout : Stmt := top 5
abbrev sHighest : Stmt := top 6
abbrev sReduced : Stmt := top 7
abbrev sFormWith : Stmt := top 8
abbrev sFormOf : Stmt := top 9
abbrev sWords : Stmt := top 10
abbrev sHasWord : Stmt := top 11
abbrev sSameCodes : Stmt := top 12
abbrev sIsWithin : Stmt := top 13
abbrev sSumPicked : Stmt := top 14
abbrev sPicksOf : Stmt := top 15
abbrev sDualOf : Stmt := top 16
abbrev sDualRow : Stmt := top 17
abbrev sBothOf : Stmt := top 18
abbrev sMeetOf : Stmt := top 19
abbrev sPunctured : Stmt := top 20
abbrev sShortened : Stmt := top 21
abbrev sExtended : Stmt := top 22
abbrev sBesideOf : Stmt := top 23
abbrev sDoubled : Stmt := top 24
abbrev sCounts : Stmt := top 25
abbrev sLeaderOf : Stmt := top 27
abbrev sNearestWords : Stmt := top 28
abbrev sLeadersOf : Stmt := top 29
abbrev sFarthestOf : Stmt := top 30
abbrev sNeverTie : Stmt := top 31
abbrev sSyndromeOf : Stmt := top 32
abbrev sMultiples : Stmt := top 34
abbrev sTurned : Stmt := top 35
abbrev sStaysTurned : Stmt := top 36
abbrev sKindOf : Stmt := top 37
abbrev sPlaced : Stmt := top 43
abbrev sPut : Stmt := top 44
abbrev sForm : Stmt := top 45
abbrev sDual : Stmt := top 46
abbrev sBoth : Stmt := top 47
abbrev sMeet : Stmt := top 48
abbrev sCanLose : Stmt := top 49
abbrev sPuncture : Stmt := top 50
abbrev sShorten : Stmt := top 51
abbrev sExtend : Stmt := top 52
abbrev sBeside : Stmt := top 53
abbrev sDouble : Stmt := top 54
abbrev sWeights : Stmt := top 55
abbrev sLeast : Stmt := top 56
abbrev sLacksWord : Stmt := top 57
abbrev sLacksPlace : Stmt := top 58
abbrev sHolds : Stmt := top 59
abbrev sNear : Stmt := top 60
abbrev sRadius : Stmt := top 61
abbrev sLeader : Stmt := top 62
abbrev sLeaders : Stmt := top 63
abbrev sSyndrome : Stmt := top 64
abbrev sEncode : Stmt := top 65
abbrev sDecode : Stmt := top 66
abbrev sSame : Stmt := top 67
abbrev sWithin : Stmt := top 68
abbrev sKind : Stmt := top 69
abbrev sWord : Stmt := top 70
abbrev sEndOf : Stmt := top 74
abbrev sCall : Stmt := top 75
abbrev sAnswers : Stmt := top 76
def spWeight : L2.Sp := fun vs H Q _ => ∃ x n : Nat, vs = [nv x] ∧ x < 2 ^ n ∧ Q (nv (Cb.weight n x)) H
def spHasBit : L2.Sp := fun vs H Q _ => ∃ x i : Nat, vs = [nv x, nv i] ∧ Q (.bl (x.testBit i)) H
def spWithout : L2.Sp := fun vs H Q _ => ∃ x i : Nat, vs = [nv x, nv i] ∧ i ≤ 1000 ∧ x < 2 ^ 63 ∧ Q (nv (Cb.without i x)) H
def spHighest : L2.Sp := fun vs H Q _ => ∃ x : Nat, vs = [nv x] ∧ x ≠ 0 ∧ Q (nv x.log2) H
def spReduced (K : PySem.W.Frag) : L2.Sp := fun vs H Q _ => ∃ (a : Addr) (F : List Nat) (x : Nat), vs = [.ref a, nv x] ∧ SqL K H a (nl F) ∧ (∀ r ∈ F, r ≠ 0) ∧ Q (nv (rdc F x)) H
section
variable {P : Program} {w : World} {K : PySem.W.Frag} {mg : Str → Option Value} {base : Heap}
theorem scWeight : FnScope ["word", "ones"] ["word"] (defScope sWeight) := ⟨rfl, rfl, rfl, by decide +kernel, rfl, by decide +kernel, by decide +kernel⟩
theorem ok_weight {f : Addr} {fd : FuncData} (F : Fun K "weight" "weight" sWeight f fd) : FnOk P w K mg base CX0 1 f fd ["word"] spWeight := by
  refine F.ok scWeight (fun vs H Q E h => ?_) (fun cdv A outer s H vs Q E hr h => ?_)
  · obtain ⟨x, n, rfl, _⟩ := h; rfl
  · obtain ⟨x, n, rfl, hx, k⟩ := h
    refine ⟨_, pss_cons (ps_set (i := 1) scWeight.nd rfl (Or.inl rfl) pe_int)
      (pss_cons (ps_while PassesOwn.never (pt_cmpR op_gt (pv 0) pe_int (nomark _))
        (pss_cons (ps_aug (i := 1) scWeight.nd rfl (Or.inl rfl) (pe_op op_and (pv 0) pe_int) iop_add)
        (pss_one (ps_aug (i := 0) scWeight.nd rfl (Or.inl rfl) pe_int iop_shr))))
      (pss_one (ps_ret (pv 1)))), ?_⟩
    refine ⟨fun y σ H' => H' = H ∧ ∃ o m : Nat, σ = [some (nv y), some (nv o)] ∧ y < 2 ^ m ∧ o + Cb.weight m y = Cb.weight n x, ⟨x, rfl, 0, n, rfl, hx, by omega⟩, ?_⟩
    rintro y σ H' ⟨rfl, o, m, rfl, hy, e⟩
    refine ⟨_, rfl, _, _, rfl, rfl, _, rfl, ite2 (fun c => ?_) fun c => ?_⟩
    · have hy0 : 0 < y := by simpa using c
      refine ⟨_, fun _ _ h => h, _, rfl, _, rfl, _, _, rfl, rfl, _, _, rfl, rfl, _, rfl, _, _, rfl, rfl, (show (0 : Int) ≤ 1 by decide), y / 2, by omega, rfl, o + y % 2, m - 1, ?_, ?_, ?_⟩
      · have e1 := shr_nat y 1
        have e2 := and_nat y 1
        rw [Nat.and_one_is_mod] at e2
        show [some (V.int ((y : Int) / 2 ^ ((1 : Nat) : Int).toNat)), some (V.int ((o : Int) + Builtin.bitAnd (y : Int) ((1 : Nat) : Int)))] = _
        rw [e1, e2, add_nat, Nat.pow_one]
      · cases m with
        | zero => omega
        | succ m => rw [Nat.pow_succ] at hy; show y / 2 < 2 ^ m; omega
      · cases m with
        | zero => omega
        | succ m =>
          rw [weight_low] at e
          show o + y % 2 + Cb.weight m (y / 2) = _
          omega
    · have hy0 : y = 0 := by
        have : ¬ 0 < y := by simpa using c
        omega
      subst hy0
      rw [weight_of_zero] at e
      refine ⟨_, rfl, ?_⟩
      show Q (nv o) H'
      rw [show o = Cb.weight n x by omega]; exact k
theorem scHasBit : FnScope ["word", "i"] ["word", "i"] (defScope sHasBit) := ⟨rfl, rfl, rfl, by decide +kernel, rfl, by decide +kernel, by decide +kernel⟩
theorem tb_int (x i : Nat) : decide (V.int (Builtin.bitAnd ((x : Int) / 2 ^ (i : Int).toNat) 1) = V.int 1) = x.testBit i := by
  have e := and_nat (x / 2 ^ i) 1
  rw [shr_nat, show (1 : Int) = ((1 : Nat) : Int) from rfl, e, Nat.and_one_is_mod]
  rw [Nat.testBit_eq_decide_div_mod_eq, Bool.eq_iff_iff, decide_eq_true_eq, decide_eq_true_eq, V.int.injEq]
  omega
theorem ok_hasBit {f : Addr} {fd : FuncData} (F : Fun K "has_bit" "has_bit" sHasBit f fd) : FnOk P w K mg base CX0 1 f fd ["word", "i"] spHasBit := by
  refine F.ok scHasBit (fun vs H Q E h => ?_) (fun cdv A outer s H vs Q E hr h => ?_)
  · obtain ⟨x, i, rfl, _⟩ := h; rfl
  · obtain ⟨x, i, rfl, k⟩ := h
    refine ⟨_, pss_one (ps_ret (pe_cmpR op_eq (pe_op op_and (pe_op op_shr (pv 0) (pv 1)) pe_int) pe_int (nomark _))), ?_⟩
    refine ⟨_, rfl, _, rfl, _, _, rfl, rfl, (show (0 : Int) ≤ (i : Int) by omega), _, _, rfl, rfl, rfl, ?_⟩
    rw [tb_int]; exact k
theorem scWithout : FnScope ["word", "i", "lower", "upper"] ["word", "i"] (defScope sWithout) := ⟨rfl, rfl, rfl, by decide +kernel, rfl, by decide +kernel, by decide +kernel⟩
theorem ok_without {f : Addr} {fd : FuncData} (F : Fun K "without_bit" "without_bit" sWithout f fd) : FnOk P w K mg base CX0 1 f fd ["word", "i"] spWithout := by
  refine F.ok scWithout (fun vs H Q E h => ?_) (fun cdv A outer s H vs Q E hr h => ?_)
  · obtain ⟨x, i, rfl, _⟩ := h; rfl
  · obtain ⟨x, i, rfl, hi, hx, k⟩ := h
    refine ⟨_, pss_cons (ps_set (i := 2) scWithout.nd rfl (Or.inl rfl) (pe_op op_and (pv 0) (pe_op op_sub (pe_op op_shl pe_int (pv 1)) pe_int)))
      (pss_cons (ps_set (i := 3) scWithout.nd rfl (Or.inl rfl) (pe_op op_shr (pv 0) (pe_op op_add (pv 1) pe_int)))
      (pss_one (ps_ret (pe_op op_or (pv 2) (pe_op op_shl (pv 3) (pv 1)))))), ?_⟩
    refine ⟨_, rfl, _, rfl, _, _, rfl, rfl, ⟨by omega, by omega, by decide⟩, _, _, rfl, rfl, _, _, rfl, rfl, ?_⟩
    refine ⟨_, rfl, _, rfl, _, _, rfl, rfl, _, _, rfl, rfl, (show (0 : Int) ≤ (i : Int) + 1 by omega), ?_⟩
    have e3 : (x : Int) / 2 ^ ((i : Int) + 1).toNat = ((x / 2 ^ (i + 1) : Nat) : Int) := shr_nat x (i + 1)
    refine ⟨_, rfl, _, rfl, _, rfl, _, _, rfl, rfl, ⟨by omega, by omega, ?_⟩, _, _, rfl, rfl, ?_⟩
    · rw [e3, Int.natAbs_natCast]
      have := Nat.div_le_self x (2 ^ (i + 1))
      omega
    · have e1 : (1 : Int) * 2 ^ (i : Int).toNat - 1 = ((2 ^ i - 1 : Nat) : Int) := by
        rw [Int.one_mul, Int.toNat_natCast, two_pow_cast]
        have := Nat.two_pow_pos i
        omega
      have e2 : Builtin.bitAnd (x : Int) (1 * 2 ^ (i : Int).toNat - 1) = ((x % 2 ^ i : Nat) : Int) := by
        rw [e1, and_nat, Nat.and_two_pow_sub_one_eq_mod]
      show Q (V.int (Builtin.bitOr (Builtin.bitAnd (x : Int) (1 * 2 ^ (i : Int).toNat - 1)) ((x : Int) / 2 ^ ((i : Int) + 1).toNat * 2 ^ (i : Int).toNat))) H
      rw [e2, e3, shl_nat, or_nat]
      have e4 : x % 2 ^ i ||| x / 2 ^ (i + 1) * 2 ^ i = Cb.without i x := by
        have := Nat.two_pow_add_eq_or_of_lt (Nat.mod_lt x (Nat.two_pow_pos i)) (x / 2 ^ (i + 1))
        unfold Cb.without
        rw [Nat.or_comm, Nat.mul_comm, ← this, Nat.add_comm]
      rw [e4]; exact k
theorem scHighest : FnScope ["word"] ["word"] (defScope sHighest) := ⟨rfl, rfl, rfl, by decide +kernel, rfl, by decide +kernel, by decide +kernel⟩
theorem ok_highest {f : Addr} {fd : FuncData} (F : Fun K "highest_place" "highest_place" sHighest f fd) : FnOk P w K mg base CX0 1 f fd ["word"] spHighest := by
  refine F.ok scHighest (fun vs H Q E h => ?_) (fun cdv A outer s H vs Q E hr h => ?_)
  · obtain ⟨x, rfl, _⟩ := h; rfl
  · obtain ⟨x, rfl, h0, k⟩ := h
    refine ⟨_, pss_one (ps_ret (pe_op op_sub (pe_bm0 PySem.F.plainAttrs_int slot_int_bit_length type_int_bit_length mt_bitlen (pv 0)) pe_int)), ?_⟩
    refine ⟨_, rfl, rfl, _, rfl, rfl, _, _, rfl, rfl, ?_⟩
    show Q (V.int (((Builtin.Int.intBits (x : Int) : Nat) : Int) - 1)) H
    rw [bits_nat h0]; exact k
theorem scReduced : FnScope ["form", "word", "row"] ["form", "word"] (defScope sReduced) := ⟨rfl, rfl, rfl, by decide +kernel, rfl, by decide +kernel, by decide +kernel⟩
theorem rdc_take {F : List Nat} {i r : Nat} (h : F[i]? = some r) (x : Nat) : rdc (F.take (i + 1)) x = if (rdc (F.take i) x).testBit r.log2 = true then rdc (F.take i) x ^^^ r else rdc (F.take i) x := by
  rw [List.take_add_one, h]
  unfold rdc
  rw [Option.toList_some, List.foldl_append]; rfl
theorem ok_reduced {f : Addr} {fd : FuncData} (F : Fun K "reduced" "reduced" sReduced f fd)
    (CB : Cal P w K mg base 1 "has_bit" ["word", "i"] spHasBit) (CH : Cal P w K mg base 1 "highest_place" ["word"] spHighest) :
    FnOk P w K mg base CX0 2 f fd ["form", "word"] (spReduced K) := by
  refine F.ok scReduced (fun vs H Q E h => ?_) (fun cdv A outer s H vs Q E hr h => ?_)
  · obtain ⟨a, F, x, rfl, _⟩ := h; rfl
  · obtain ⟨a, F, x, rfl, hF, hz, k⟩ := h
    refine ⟨_, pss_cons (ps_for PassesOwn.never rfl (pi_list (pv 0)) (pg_name (i := 2) scReduced.nd rfl (Or.inl rfl))
        (pss_one (ps_if (pt_val (pe_cal CB hr rfl (pa_cons (pv 1) (pa_cons (pe_cal CH hr rfl (pa_cons (pv 2) pa_nil)) pa_nil))))
          (pss_one (ps_aug (i := 1) scReduced.nd rfl (Or.inl rfl) (pv 2) iop_xor)) pss_nil)))
      (pss_one (ps_ret (pv 1))), ?_⟩
    refine ⟨_, rfl, a, rfl, ⟨_, hF⟩, for_list (K := K) (a := a) (xs := nl F) (fun i σ H' => H' = H ∧ ∃ v, σ = [some (.ref a), some (nv (rdc (F.take i) x)), v]) ⟨rfl, _, rfl⟩ (fun i σ H' _ ⟨e, _⟩ => e ▸ hF) ?_ ?_⟩
    · rintro i y σ H' hi ⟨rfl, v, rfl⟩
      obtain ⟨r, hr', rfl⟩ := nl_at hi
      refine ⟨_, rfl, _, rfl, r, rfl, hz r (List.mem_of_getElem? hr'), _, _, rfl, ?_⟩
      refine ⟨_, rfl, ite2 (fun c => ?_) fun c => ?_⟩
      · refine ⟨_, rfl, _, rfl, _, _, rfl, rfl, rfl, some (nv r), ?_⟩
        have e := xor_nat (rdc (F.take i) x) r
        rw [rdc_take hr', if_pos c]
        show [some (V.ref a), some (V.int (Builtin.bitXor ((rdc (F.take i) x : Nat) : Int) (r : Int))), some (nv r)] = _
        rw [e]
      · refine ⟨rfl, some (nv r), ?_⟩
        rw [rdc_take hr', if_neg c]; rfl
    · rintro σ H' ⟨rfl, v, rfl⟩
      rw [List.length_map, List.take_length]
      exact ⟨_, rfl, k⟩
end
end Sc
end
section
set_option Elab.async false
set_option linter.all false
set_option maxRecDepth 100000
set_option maxHeartbeats 4000000
namespace Sc
open PySem PySem.Spec PyProof.Rows L2 CM
open PySem.W (Codec)
theorem perm_nats {l : List Nat} {ns : List Int} (h : ns.Perm (l.map fun (z : Nat) => (z : Int))) : ∃ G : List Nat, ns = G.map (fun (z : Nat) => (z : Int)) ∧ G.Perm l := by
  refine ⟨ns.map Int.toNat, ?_, ?_⟩
  · rw [List.map_map]
    refine (List.map_id ns).symm.trans (List.map_congr_left fun z hz => ?_)
    obtain ⟨y, _, rfl⟩ := List.mem_map.mp (h.mem_iff.mp hz)
    rfl
  · have := h.map Int.toNat
    rw [List.map_map] at this
    exact this.trans (by rw [show (Int.toNat ∘ fun (z : Nat) => (z : Int)) = id from rfl, List.map_id])
theorem pair_nats {G : List Nat} (h : (G.map fun (z : Nat) => (z : Int)).Pairwise (· ≥ ·)) : G.Pairwise fun r s => s ≤ r := by
  rw [List.pairwise_map] at h
  exact h.imp fun q => by omega
def spFormWith : L2.Sp := fun vs H Q _ => ∃ (a : Addr) (n : Nat) (F : List Nat) (x : Nat), vs = [.ref a, nv x] ∧ H a = some (.lst (nl F)) ∧ IsForm n F ∧ n ≤ 10 ∧ x < 2 ^ n ∧
  ∀ (H' : Hp) (p : Addr), Same H H' → H' p = some (.lst (nl (Cb.addRow n F x))) → Q (.ref p) H'
section
variable {P : Program} {w : World} {K : PySem.W.Frag} {mg : Str → Option Value} {base : Heap}
theorem scFormWith : FnScope ["form", "row", "rest", "rows", "older"] ["form", "row"] (defScope sFormWith) := ⟨rfl, rfl, rfl, by decide +kernel, rfl, by decide +kernel, by decide +kernel⟩
theorem ok_formWith {f : Addr} {fd : FuncData} (F : Fun K "form_with" "form_with" sFormWith f fd) (CR : Cal P w K mg base 2 "reduced" ["form", "word"] (spReduced K)) (ms : mg "sorted" = none) :
    FnOk P w K mg base CX0 3 f fd ["form", "row"] spFormWith := by
  refine F.ok scFormWith (fun vs H Q E h => ?_) (fun cdv A outer s H vs Q E hr h => ?_)
  · obtain ⟨a, n, F, x, rfl, _⟩ := h; rfl
  · obtain ⟨a, n, F, x, rfl, hF, hf, hn, hx, k⟩ := h
    refine ⟨_, pss_cons (ps_set (i := 2) scFormWith.nd rfl (Or.inr rfl) (pe_cal CR hr rfl (pa_cons (pv 0) (pa_cons (pv 1) pa_nil))))
      (pss_cons (ps_if (pt_cmpR op_eq (pv 2) pe_int (nomark _)) (pss_one (ps_ret (pv 0))) pss_nil)
      (pss_cons (ps_setLc (i := 3) (own := [("older", 4)]) rfl scFormWith.nd rfl rfl (sw_true rfl rfl rfl rfl) (pi_list (pv 0)) (blkOk_by (by show blkC ["form", "row", "rest", "rows", "older"] (defScope sFormWith) _ _ = true; decide +kernel)) (fun _ _ _ _ _ => pg_name (i := 4) scFormWith.nd rfl (Or.inl rfl)) (fun _ _ _ _ _ => pts_nil)
        (fun _ _ _ _ _ => pe_cal CR hr rfl (pa_cons (pe_lst (pa_cons (pv 2) pa_nil)) (pa_cons (pv 4) pa_nil))))
      (pss_one (ps_ret (pe_callBK ckr_sorted rfl ms boot_sorted (pa_cons (pe_op op_cat (pv 3) (pe_lst (pa_cons (pv 2) pa_nil))) pa_nil) pe_bl))))), ?_⟩
    refine ⟨_, rfl, _, rfl, a, F, x, rfl, SqL.of hF, hf.nz, ?_⟩
    refine ⟨_, rfl, rfl, _, rfl, ite2 (fun c => ?_) fun c => ?_⟩
    · have c0 : rdc F x = 0 := by simpa using c
      refine ⟨_, rfl, k H a (Same.refl H) ?_⟩
      rw [form_with_same hf c0]; exact hF
    · have c0 : rdc F x ≠ 0 := by simpa using c
      have hlen := hf.length_le
      refine ⟨_, rfl, a, rfl, ⟨_, SqL.of hF⟩, fun D hD => lc_nats (K := K) (a := a) (l := F) (p := fun _ => true) (f := clr (rdc F x)) hD (fun H' q => SqL.of (q _ _ hF)) (by omega) ?_ ?_⟩
      · intro r hr' H' sm Y N hY _
        refine ⟨rfl, _, rfl, (by show 1 ≤ sizeLine; decide), fun p hp => ⟨_, rfl, p, [rdc F x], r, rfl, SqL.of upd_same, ?_, ?_⟩⟩
        · intro z hz; rw [List.mem_singleton.mp hz]; exact c0
        · exact hY rfl _ (same_new hp)
      · intro H2 sm hD'
        rw [filter_yes] at hD'
        refine ⟨_, rfl, _, rfl, (by show 1 ≤ sizeLine; decide), fun p hp => ?_⟩
        have nDp : D ≠ p := ne_of_none hD' hp
        refine ⟨D, p, _, _, rfl, rfl, (upd_ne nDp).trans hD', upd_same, ?_, fun q hq => ?_⟩
        · rw [List.length_map, List.length_map]
          have := hf.length_le
          exact small (by simp; omega)
        · refine ⟨q, ((F.map (clr (rdc F x))) ++ [rdc F x]).map fun (z : Nat) => (z : Int), rfl, rfl, ?_, ?_, fun ns' b hp1 hp2 hb => ?_⟩
          · refine SqL.of (upd_same.trans ?_)
            rw [← nl_ints, nl_snoc]
          · rw [List.length_map, List.length_append, List.length_map]
            have := hf.length_le
            simp; omega
          · obtain ⟨G, rfl, hG⟩ := perm_nats hp1
            refine k _ b (same_upd ?_ ((sm.trans (same_new hp)).trans (same_new hq))) (upd_same.trans ?_)
            · exact ((sm.trans (same_new hp)).trans (same_new hq)).free hb
            · rw [← form_with_eq hf hx c0 hG (pair_nats hp2), nl_ints]
end
end Sc
end
section
set_option Elab.async false
set_option linter.all false
set_option maxRecDepth 100000
set_option maxHeartbeats 4000000
namespace Sc
open PySem PySem.Spec PyProof.Rows L2 CM
open PySem.W (Codec)
def cf (n : Nat) (l : Addr) : List (Str × V) := putF "rows" (.ref l) (putF "n" (nv n) [])
theorem cf_n (n : Nat) (l : Addr) : (cf n l).lookup ("n" : Str) = some (nv n) := by
  unfold cf
  rw [lookup_putF, if_neg (by decide +kernel), lookup_putF, if_pos rfl]
theorem cf_rows (n : Nat) (l : Addr) : (cf n l).lookup ("rows" : Str) = some (.ref l) := by
  unfold cf
  rw [lookup_putF, if_pos rfl]
def CodeAt (C : Addr) (H : Hp) (a : Addr) (c : Cb.Code) : Prop := ∃ dx l, H a = some (.ins C dx (cf c.n l)) ∧ H l = some (.lst (nl c.rows))
theorem CodeAt.same {C : Addr} {H H' : Hp} {a : Addr} {c : Cb.Code} (h : CodeAt C H a c) (s : Same H H') : CodeAt C H' a c := by
  obtain ⟨dx, l, h1, h2⟩ := h
  exact ⟨dx, l, s _ _ h1, s _ _ h2⟩
structure Tx (K : PySem.W.Frag) (mg : Str → Option Value) (C : Addr) : Prop where
  cl : Cls K C
  nN : NoAttr K C "n"
  nR : NoAttr K C "rows"
  mC : mg "Code" = some (.ref C)
def spFormOf (K : PySem.W.Frag) : L2.Sp := fun vs H Q _ => ∃ (a : Addr) (n : Nat) (rows : List Nat), vs = [.ref a] ∧ SqL K H a (nl rows) ∧ n ≤ 10 ∧ (∀ r ∈ rows, r < 2 ^ n) ∧
  ∀ (H' : Hp) (p : Addr), Same H H' → H' p = some (.lst (nl (Cb.formOf n rows))) → Q (.ref p) H'
def spInit (K : PySem.W.Frag) (C : Addr) : L2.Sp := fun vs H Q _ => ∃ (p dx a : Addr) (n : Nat) (rows : List Nat), vs = [.ref p, nv n, .ref a] ∧ H p = some (.ins C dx []) ∧ SqL K H a (nl rows) ∧ n ≤ 10 ∧ (∀ r ∈ rows, r < 2 ^ n) ∧
  ∀ H' : Hp, CodeAt C H' p ⟨n, Cb.formOf n rows⟩ → (∀ b o, H b = some o → b ≠ p → H' b = some o) → Q .non H'
def spWords (C : Addr) : L2.Sp := fun vs H Q _ => ∃ (a : Addr) (c : Cb.Code), vs = [.ref a] ∧ CodeAt C H a c ∧ c.rows.length ≤ 10 ∧
  ∀ (H' : Hp) (p : Addr), Same H H' → H p = none → H' p = some (.lst (nl (wds c.rows))) → Q (.ref p) H'
structure MkC (P : Program) (w : World) (K : PySem.W.Frag) (mg : Str → Option Value) (base : Heap) (k : Nat) (C : Addr) : Prop where
  ex : ∃ (f : Addr) (fd : FuncData), Mk K C f ∧ FnOk P w K mg base CX0 k f fd ["self", "n", "rows"] (spInit K C) ∧ L2.Binds K fd ["self", "n", "rows"] []
def tCode (K : PySem.W.Frag) (C : Addr) (t : TA) : TE := fun σ H Q => t σ H fun vs H1 => ∀ x dx, H1 x = none → H1 dx = none → dx ≠ x →
  spInit K C (.ref x :: vs) (upd (upd H1 dx (.own x)) x (.ins C dx [])) (fun v H2 => v = .non ∧ Q (.ref x) H2) E0
section
variable {X : Cx} {k m : Nat} {C : Addr} {e : Expr} {es : List Expr} {t : TA} {p pos : Pos}
theorem pe_code (M : MkC X.prog X.w X.K X.mg X.base k C) (T : Tx X.K X.mg C) (hr : Room m X.A) (hx : X.xe = fun _ _ => False) (ha : PA X (e :: es) t) (hk : k + 1 ≤ m := by decide) (hg : Gl X "Code" := by rfl)
    (he : starEach (e :: es) X.env = (false, eval e X.env) :: starEach es X.env := by rfl) (hpl : (backTo pos (starEach es X.env)).any (·.1) = false := by rfl) :
    PE X (.Call (.Name "Code" p) (e :: es) [] pos) (tCode X.K C t) := by
  obtain ⟨f, fd, mk, F, b⟩ := M.ex
  intro pins s σ H Q I h
  refine pe_make (dvs := []) (E := E0) mk F (hr.mono hk) hg T.mC b .nil (fun _ _ _ _ _ _ _ h => h.elim) ha (by decide) he hpl pins s σ H Q I ?_
  show t σ H fun vs H1 => ∀ x dx, H1 x = none → H1 dx = none → dx ≠ x → spInit X.K C (.ref x :: (vs ++ [])) (upd (upd H1 dx (.own x)) x (.ins C dx [])) (fun v H2 => v = .non ∧ Q (.ref x) H2) E0
  simpa only [tCode, List.append_nil] using h
theorem code_read {K : PySem.W.Frag} {C : Addr} {H1 : Hp} {Q : VK} {n : Nat} {rows : List Nat} {a : Addr} (hS : SqL K H1 a (nl rows)) (hn : n ≤ 10) (hl : ∀ r ∈ rows, r < 2 ^ n)
    (q : ∀ (H' : Hp) (p : Addr), Same H1 H' → H1 p = none → CodeAt C H' p ⟨n, Cb.formOf n rows⟩ → Q (.ref p) H') :
    ∀ x dx, H1 x = none → H1 dx = none → dx ≠ x → spInit K C (.ref x :: [nv n, .ref a]) (upd (upd H1 dx (.own x)) x (.ins C dx [])) (fun v H2 => v = .non ∧ Q (.ref x) H2) E0 := by
  intro x dx nx nd ne
  have s0 : Same H1 (upd (upd H1 dx (.own x)) x (.ins C dx [])) := same_upd nx (same_new nd)
  refine ⟨x, dx, a, n, rows, rfl, upd_same, s0.seq hS, hn, hl, fun H' hc kp => ⟨rfl, q H' x ?_ nx hc⟩⟩
  exact fun b o e => kp b o (s0 _ _ e) (ne_of_none e nx)
theorem code_readZ {K : PySem.W.Frag} {C : Addr} {H1 : Hp} {Q : VK} {n : Nat} {z : Int} {rows : List Nat} {a : Addr} (hz : z = (n : Int)) (hS : SqL K H1 a (nl rows)) (hn : n ≤ 10) (hl : ∀ r ∈ rows, r < 2 ^ n)
    (q : ∀ (H' : Hp) (p : Addr), Same H1 H' → H1 p = none → CodeAt C H' p ⟨n, Cb.formOf n rows⟩ → Q (.ref p) H') :
    ∀ x dx, H1 x = none → H1 dx = none → dx ≠ x → spInit K C (.ref x :: [.int z, .ref a]) (upd (upd H1 dx (.own x)) x (.ins C dx [])) (fun v H2 => v = .non ∧ Q (.ref x) H2) E0 := by
  subst hz
  exact code_read hS hn hl q
end
section
variable {P : Program} {w : World} {K : PySem.W.Frag} {mg : Str → Option Value} {base : Heap} {C : Addr}
theorem scFormOf : FnScope ["rows", "form", "row"] ["rows"] (defScope sFormOf) := ⟨rfl, rfl, rfl, by decide +kernel, rfl, by decide +kernel, by decide +kernel⟩
theorem ok_formOf {f : Addr} {fd : FuncData} (F : Fun K "form_of" "form_of" sFormOf f fd) (CW : Cal P w K mg base 3 "form_with" ["form", "row"] spFormWith) :
    FnOk P w K mg base CX0 4 f fd ["rows"] (spFormOf K) := by
  refine F.ok scFormOf (fun vs H Q E h => ?_) (fun cdv A outer s H vs Q E hr h => ?_)
  · obtain ⟨a, n, rows, rfl, _⟩ := h; rfl
  · obtain ⟨a, n, rows, rfl, hS, hn, hl, k⟩ := h
    refine ⟨_, pss_cons (ps_set (i := 1) scFormOf.nd rfl (Or.inl rfl) (pe_lst pa_nil))
      (pss_cons (ps_for PassesOwn.never rfl (pi_list (pv 0)) (pg_name (i := 2) scFormOf.nd rfl (Or.inl rfl))
        (pss_one (ps_set (i := 1) scFormOf.nd rfl (Or.inl rfl) (pe_cal CW hr rfl (pa_cons (pv 1) (pa_cons (pv 2) pa_nil))))))
      (pss_one (ps_ret (pv 1)))), ?_⟩
    refine ⟨Nat.zero_le _, fun p0 hp0 => ?_⟩
    refine ⟨_, rfl, a, rfl, ⟨_, (same_new hp0).seq hS⟩, for_list (K := K) (a := a) (xs := nl rows) (fun i σ H' => ∃ p v, σ = [some (.ref a), some (.ref p), v] ∧ Same H H' ∧ H' p = some (.lst (nl (Cb.formOf n (rows.take i)))))
      ⟨p0, none, rfl, same_new hp0, upd_same⟩ (fun i σ H' _ ⟨_, _, _, q, _⟩ => q.seq hS) ?_ ?_⟩
    · rintro i y σ H' hi ⟨p, v, rfl, sm, hp⟩
      obtain ⟨r, hr', rfl⟩ := nl_at hi
      have hlt : ∀ z ∈ rows.take i, z < 2 ^ n := fun z q => hl z (List.mem_of_mem_take q)
      refine ⟨_, rfl, _, rfl, p, n, _, r, rfl, hp, formOf_ok hlt, hn, hl r (List.mem_of_getElem? hr'), fun H2 q s2 hq => ?_⟩
      refine ⟨q, some (nv r), rfl, sm.trans s2, ?_⟩
      rw [formOf_take i hr']; exact hq
    · rintro σ H' ⟨p, v, rfl, sm, hp⟩
      rw [nl_length, List.take_length] at hp
      exact ⟨_, rfl, k H' p sm hp⟩
theorem scInit : FnScope ["self", "n", "rows"] ["self", "n", "rows"] (defScope sInit) := ⟨rfl, rfl, rfl, by decide +kernel, rfl, by decide +kernel, by decide +kernel⟩
theorem ok_init {f : Addr} {fd : FuncData} (F : Fun K "__init__" "Code.__init__" sInit f fd) (T : Tx K mg C) (CF : Cal P w K mg base 4 "form_of" ["rows"] (spFormOf K)) :
    FnOk P w K mg base CX0 5 f fd ["self", "n", "rows"] (spInit K C) := by
  refine F.ok scInit (fun vs H Q E h => ?_) (fun cdv A outer s H vs Q E hr h => ?_)
  · obtain ⟨p, dx, a, n, rows, rfl, _⟩ := h; rfl
  · obtain ⟨p, dx, a, n, rows, rfl, hp, hS, hn, hl, k⟩ := h
    refine ⟨_, pss_cons (ps_fld (pv 0) (pv 1) rfl) (pss_one (ps_fld (pv 0) (pe_cal CF hr rfl (pa_cons (pv 2) pa_nil)) rfl)), ?_⟩
    refine ⟨_, rfl, _, rfl, p, C, dx, _, rfl, hp, T.cl, T.nN, (by show 0 < 1000; decide), ?_⟩
    have hS1 : SqL K (upd H p (.ins C dx (putF "n" (nv n) []))) a (nl rows) := by
      have na : a ≠ p ∨ ¬ Rd H a (.lst (nl rows)) := by
        by_cases e : a = p
        · subst e
          refine .inr fun z => ?_
          rcases z with z | ⟨o, z⟩ <;> (rw [hp] at z; cases z)
        · exact .inl e
      rcases hS with h | h
      · rcases na with e | e
        · rcases h with h | ⟨o, h⟩
          · exact .inl (.inl ((upd_ne e).trans h))
          · exact .inl (.inr ⟨o, (upd_ne e).trans h⟩)
        · exact absurd h e
      · exact .inr h
    refine ⟨_, rfl, a, n, rows, rfl, hS1, hn, hl, fun H2 q s2 hq => ?_⟩
    have hp2 := s2 _ _ (upd_same (H := H) (a := p) (o := .ins C dx (putF "n" (nv n) [])))
    have hqp : q ≠ p := ne_of hq hp2 (by intro z; cases z)
    refine ⟨_, rfl, p, C, dx, _, rfl, hp2, T.cl, T.nR, (by show 1 < 1000; decide), ?_⟩
    refine k _ ⟨dx, q, upd_same, (upd_ne hqp).trans hq⟩ fun b o e hb => ?_
    rw [upd_ne hb]
    exact s2 _ _ ((upd_ne hb).trans e)
theorem scWords : FnScope ["code", "words", "row", "word"] ["code"] (defScope sWords) := ⟨rfl, rfl, rfl, by decide +kernel, rfl, by decide +kernel, by decide +kernel⟩
theorem ok_words {f : Addr} {fd : FuncData} (F : Fun K "words_of" "words_of" sWords f fd) (T : Tx K mg C) : FnOk P w K mg base CX0 1 f fd ["code"] (spWords C) := by
  refine F.ok scWords (fun vs H Q E h => ?_) (fun cdv A outer s H vs Q E hr h => ?_)
  · obtain ⟨a, c, rfl, _⟩ := h; rfl
  · obtain ⟨a, c, rfl, ⟨dx, l, ha, hl⟩, hlen, k⟩ := h
    refine ⟨_, pss_cons (ps_set (i := 1) scWords.nd rfl (Or.inl rfl) (pe_lst (pa_cons pe_int pa_nil)))
      (pss_cons (ps_for PassesOwn.never rfl (pi_list (pe_fld (pv 0) rfl)) (pg_name (i := 2) scWords.nd rfl (Or.inr rfl))
        (pss_one (ps_set (i := 1) scWords.nd rfl (Or.inl rfl) (pe_op op_cat (pv 1)
          (pe_lc (own := [("word", 3)]) rfl scWords.nd (pi_list (pv 1)) (blkOk_by (by show blkC ["code", "words", "row", "word"] (defScope sWords) _ _ = true; decide +kernel)) (fun _ _ _ _ _ => pg_name (i := 3) scWords.nd rfl (Or.inl rfl)) (fun _ _ _ _ _ => pts_nil)
            (fun _ _ _ _ _ => pe_op op_xor (pv 3) (pv 2)))))))
      (pss_one (ps_ret (pv 1)))), ?_⟩
    refine ⟨(by show 1 ≤ sizeLine; decide), fun p0 hp0 => ?_⟩
    refine ⟨_, rfl, a, C, dx, _, _, rfl, same_new hp0 _ _ ha, T.cl, T.nR, cf_rows _ _, l, rfl, ⟨_, SqL.of (same_new hp0 _ _ hl)⟩,
      for_list (K := K) (a := l) (xs := nl c.rows) (fun i σ H' => ∃ p v, σ = [some (.ref a), some (.ref p), v, none] ∧ Same H H' ∧ H p = none ∧ H' p = some (.lst (nl (wds (c.rows.take i)))))
      ⟨p0, none, rfl, same_new hp0, hp0, upd_same⟩ (fun i σ H' _ ⟨_, _, _, q, _⟩ => SqL.of (q _ _ hl)) ?_ ?_⟩
    · rintro i y σ H' hi ⟨p, v, rfl, sm, hf, hp⟩
      obtain ⟨r, hr', rfl⟩ := nl_at hi
      have hi' : i < 10 := by have := (List.getElem?_eq_some_iff.mp hr').1; omega
      have hpow : (wds (c.rows.take i)).length ≤ 1024 := by
        rw [length_wds, List.length_take]
        exact show 2 ^ _ ≤ 2 ^ 10 from Nat.pow_le_pow_right (by decide) (by omega)
      refine ⟨_, rfl, _, rfl, p, rfl, ⟨_, SqL.of hp⟩, fun D hD => lc_nats (K := K) (a := p) (l := wds (c.rows.take i)) (p := fun _ => true) (f := fun x => x ^^^ r) hD (fun H2 q => SqL.of (q _ _ hp)) (by omega) ?_ ?_⟩
      · intro x hx H2 s2 Y N hY _
        refine ⟨rfl, _, rfl, _, rfl, _, _, rfl, rfl, ?_⟩
        show Y (V.int (Builtin.bitXor (x : Int) (r : Int))) H2
        rw [xor_nat]
        exact hY rfl H2 (Same.refl _)
      · intro H2 s2 hD2
        rw [filter_yes] at hD2
        refine ⟨p, D, _, _, rfl, rfl, s2 _ _ hp, hD2, ?_, fun q hq => ?_⟩
        · rw [nl_length, nl_length, List.length_map]
          exact small (by omega)
        · refine ⟨q, some (nv r), rfl, sm.trans (s2.trans (same_new hq)), (sm.trans s2).free hq, ?_⟩
          rw [upd_same, wds_take i hr', nl_append]
    · rintro σ H' ⟨p, v, rfl, sm, hf, hp⟩
      rw [nl_length, List.take_length] at hp
      exact ⟨_, rfl, k H' p sm hf hp⟩
end
end Sc
end
section
set_option Elab.async false
set_option linter.all false
set_option maxRecDepth 100000
set_option maxHeartbeats 4000000
namespace Sc
open PySem PySem.Spec PyProof.Rows L2 CM
open PySem.W (Codec)
def spDualRow (C : Addr) : L2.Sp := fun vs H Q _ => ∃ (a : Addr) (c : Cb.Code) (i : Nat), vs = [.ref a, nv i] ∧ CodeAt C H a c ∧ Good c ∧ i ≤ 1000 ∧ Q (nv (drow c.rows i)) H
def spMake1 (C : Addr) (F : Cb.Code → Cb.Code) : L2.Sp := fun vs H Q _ => ∃ (a : Addr) (c : Cb.Code), vs = [.ref a] ∧ CodeAt C H a c ∧ Good c ∧
  ∀ (H' : Hp) (p : Addr), Same H H' → H p = none → CodeAt C H' p (F c) → Q (.ref p) H'
def spMakeI (C : Addr) (F : Cb.Code → Nat → Cb.Code) : L2.Sp := fun vs H Q _ => ∃ (a : Addr) (c : Cb.Code) (i : Nat), vs = [.ref a, nv i] ∧ CodeAt C H a c ∧ Good c ∧ 2 ≤ c.n ∧ i < c.n ∧
  ∀ (H' : Hp) (p : Addr), Same H H' → H p = none → CodeAt C H' p (F c i) → Q (.ref p) H'
def spMake2 (C : Addr) (ok : Cb.Code → Cb.Code → Prop) (F : Cb.Code → Cb.Code → Cb.Code) : L2.Sp := fun vs H Q _ => ∃ (a b : Addr) (c d : Cb.Code), vs = [.ref a, .ref b] ∧ CodeAt C H a c ∧ CodeAt C H b d ∧ Good c ∧ Good d ∧ ok c d ∧
  ∀ (H' : Hp) (p : Addr), Same H H' → H p = none → CodeAt C H' p (F c d) → Q (.ref p) H'
theorem log_small {c : Cb.Code} (g : Good c) {r : Nat} (h : r ∈ c.rows) : r.log2 ≤ 10 := by
  have := hi_lt (g.form.lt r h) (g.form.nz r h)
  have := g.hi
  omega
theorem row_small {c : Cb.Code} (g : Good c) {r : Nat} (h : r ∈ c.rows) : r < 1024 := two_le (m := 10) (g.form.lt r h) g.hi
theorem notin_nats {x : Nat} {l : List Nat} : (!inV (nv x) (nl l)) = !l.contains x := by
  congr 1
  unfold inV
  rw [List.any_map, List.contains_eq_any_beq]
  congr 1
  funext y
  show ((y : Int) == (x : Int)) = (x == y)
  rw [Bool.eq_iff_iff, beq_iff_eq, beq_iff_eq]
  omega
theorem flat_nats (l : List Nat) : (nl l).all flatV = true := by
  rw [List.all_map]
  exact List.all_eq_true.mpr fun _ _ => rfl
section
variable {P : Program} {w : World} {K : PySem.W.Frag} {mg : Str → Option Value} {base : Heap} {C : Addr}
theorem scDualRow : FnScope ["code", "i", "word", "row"] ["code", "i"] (defScope sDualRow) := ⟨rfl, rfl, rfl, by decide +kernel, rfl, by decide +kernel, by decide +kernel⟩
theorem ok_dualRow {f : Addr} {fd : FuncData} (F : Fun K "dual_row" "dual_row" sDualRow f fd) (T : Tx K mg C) (CB : Cal P w K mg base 1 "has_bit" ["word", "i"] spHasBit) (CH : Cal P w K mg base 1 "highest_place" ["word"] spHighest) :
    FnOk P w K mg base CX0 2 f fd ["code", "i"] (spDualRow C) := by
  refine F.ok scDualRow (fun vs H Q E h => ?_) (fun cdv A outer s H vs Q E hr h => ?_)
  · obtain ⟨a, c, i, rfl, _⟩ := h; rfl
  · obtain ⟨a, c, i, rfl, ⟨dx, l, ha, hl⟩, g, hi, k⟩ := h
    refine ⟨_, pss_cons (ps_set (i := 2) scDualRow.nd rfl (Or.inl rfl) (pe_op op_shl pe_int (pv 1)))
      (pss_cons (ps_for PassesOwn.never rfl (pi_list (pe_fld (pv 0) rfl)) (pg_name (i := 3) scDualRow.nd rfl (Or.inl rfl))
        (pss_one (ps_if (pt_val (pe_cal CB hr rfl (pa_cons (pv 3) (pa_cons (pv 1) pa_nil))))
          (pss_one (ps_aug (i := 2) scDualRow.nd rfl (Or.inl rfl) (pe_op op_shl pe_int (pe_cal CH hr rfl (pa_cons (pv 3) pa_nil))) iop_or)) pss_nil)))
      (pss_one (ps_ret (pv 2)))), ?_⟩
    refine ⟨_, rfl, _, _, rfl, rfl, ⟨by omega, by omega, by decide⟩, ?_⟩
    refine ⟨_, rfl, a, C, dx, _, _, rfl, ha, T.cl, T.nR, cf_rows _ _, l, rfl, ⟨_, SqL.of hl⟩,
      for_list (K := K) (a := l) (xs := nl c.rows) (fun j σ H' => H' = H ∧ ∃ v, σ = [some (.ref a), some (nv i), some (nv (drow (c.rows.take j) i)), v])
      ⟨rfl, none, ?_⟩ (fun j σ H' _ ⟨e, _⟩ => e ▸ SqL.of hl) ?_ ?_⟩
    · have e := shl_nat 1 i
      show [some (V.ref a), some (nv i), some (V.int ((1 : Nat) * 2 ^ (i : Int).toNat)), none] = _
      rw [e, Nat.one_mul]; rfl
    · rintro j y σ H' hj ⟨rfl, v, rfl⟩
      obtain ⟨r, hr', rfl⟩ := nl_at hj
      have hm := List.mem_of_getElem? hr'
      have step : drow (c.rows.take (j + 1)) i = if r.testBit i = true then drow (c.rows.take j) i ||| 2 ^ r.log2 else drow (c.rows.take j) i := by
        rw [take_snoc' hr']
        unfold drow
        rw [List.foldl_append]; rfl
      refine ⟨_, rfl, _, rfl, r, i, rfl, ?_⟩
      refine ⟨_, rfl, ite2 (fun q => ?_) fun q => ?_⟩
      · refine ⟨_, rfl, _, rfl, r, rfl, g.form.nz r hm, _, _, rfl, rfl, ⟨by omega, ?_, by decide⟩, _, _, rfl, rfl, rfl, some (nv r), ?_⟩
        · have := log_small g hm
          omega
        · have e := shl_nat 1 r.log2
          have e2 := or_nat (drow (c.rows.take j) i) (2 ^ r.log2)
          rw [step, if_pos q]
          show [some (V.ref a), some (nv i), some (V.int (Builtin.bitOr ((drow (c.rows.take j) i : Nat) : Int) (((1 : Nat) : Int) * 2 ^ ((r.log2 : Nat) : Int).toNat))), some (nv r)] = _
          rw [e, Nat.one_mul, e2]
      · refine ⟨rfl, some (nv r), ?_⟩
        rw [step, if_neg q]; rfl
    · rintro σ H' ⟨rfl, v, rfl⟩
      rw [nl_length, List.take_length]
      exact ⟨_, rfl, k⟩
theorem scDualOf : FnScope ["code", "highest", "row", "i"] ["code"] (defScope sDualOf) := ⟨rfl, rfl, rfl, by decide +kernel, rfl, by decide +kernel, by decide +kernel⟩
theorem ok_dualOf {f : Addr} {fd : FuncData} (F : Fun K "dual_of" "dual_of" sDualOf f fd) (T : Tx K mg C) (M : MkC P w K mg base 5 C) (CH : Cal P w K mg base 1 "highest_place" ["word"] spHighest) (CD : Cal P w K mg base 2 "dual_row" ["code", "i"] (spDualRow C)) (mr : mg "range" = none) :
    FnOk P w K mg base CX0 7 f fd ["code"] (spMake1 C Cb.dual) := by
  refine F.ok scDualOf (fun vs H Q E h => ?_) (fun cdv A outer s H vs Q E hr h => ?_)
  · obtain ⟨a, c, rfl, _⟩ := h; rfl
  · obtain ⟨a, c, rfl, hc, g, k⟩ := h
    obtain ⟨dx, l, ha, hl⟩ := id hc
    refine ⟨_, pss_cons (ps_set (i := 1) scDualOf.nd rfl (Or.inr rfl)
        (pe_lc (own := [("row", 2)]) rfl scDualOf.nd (pi_list (pe_fld (pv 0) rfl)) (blkOk_by (by show blkC ["code", "highest", "row", "i"] (defScope sDualOf) _ _ = true; decide +kernel)) (fun _ _ _ _ _ => pg_name (i := 2) scDualOf.nd rfl (Or.inl rfl)) (fun _ _ _ _ _ => pts_nil)
          (fun _ _ _ _ _ => pe_cal CH hr rfl (pa_cons (pv 2) pa_nil))))
      (pss_one (ps_ret (pe_code M T hr rfl (pa_cons (pe_fld (pv 0) rfl) (pa_cons
        (pe_lc (own := [("i", 3)]) rfl scDualOf.nd (pi_range1 rfl mr (pa_cons (pe_fld (pv 0) rfl) pa_nil)) (blkOk_by (by show blkC ["code", "highest", "row", "i"] (defScope sDualOf) _ _ = true; decide +kernel)) (fun _ _ _ _ _ => pg_name (i := 3) scDualOf.nd rfl (Or.inl rfl))
          (fun _ _ _ _ _ => pts_one (pt_cmpR (r := rIn K true) op_notIn_seq (pv 3) (pv 1) rfl)) (fun _ _ _ _ _ => pe_cal CD hr rfl (pa_cons (pv 0) (pa_cons (pv 3) pa_nil)))) pa_nil))))), ?_⟩
    have hlen := g.form.length_le
    have hn := g.hi
    refine ⟨_, rfl, a, C, dx, _, _, rfl, ha, T.cl, T.nR, cf_rows _ _, l, rfl, ⟨_, SqL.of hl⟩, fun D hD => lc_nats (K := K) (a := l) (l := c.rows) (p := fun _ => true) (f := Nat.log2) hD (fun H' q => SqL.of (q _ _ hl)) (by omega) ?_ ?_⟩
    · intro r hr' H' sm Y N hY _
      exact ⟨rfl, _, rfl, r, rfl, g.form.nz r hr', hY rfl H' (Same.refl _)⟩
    · intro H2 s2 hD2
      rw [filter_yes] at hD2
      refine ⟨_, rfl, a, C, dx, _, _, rfl, s2 _ _ ha, T.cl, T.nN, cf_n _ _, _, rfl, a, C, dx, _, _, rfl, s2 _ _ ha, T.cl, T.nN, cf_n _ _, (c.n : Int), rfl, by omega, by omega, fun D3 hD3 => ?_⟩
      rw [show ((c.n : Int)).toNat = c.n from Int.toNat_natCast _]
      refine lc_rangeN (n := c.n) (p := fun i => !(c.rows.map Nat.log2).contains i) (f := drow c.rows) hD3 (by omega) ?_ ?_
      · intro i hi H' sm Y N hY hN
        refine ⟨rfl, _, rfl, _, rfl, D, _, rfl, .inl (SqL.of (sm _ _ hD2)), rfl, flat_nats _, _, rfl, ?_⟩
        show if (!inV (nv i) (nl (c.rows.map Nat.log2))) = true then _ else _
        rw [notin_nats]
        refine ite2 (fun q => ?_) fun q => ?_
        · exact ⟨_, rfl, _, rfl, a, c, i, rfl, (hc.same s2).same sm, g, by omega, hY q H' (Same.refl _)⟩
        · exact hN (by simpa using q) H' (Same.refl _)
      · intro H3 s3 hD3'
        refine code_read (SqL.of hD3') hn (drow_lt g.form) fun H4 p s4 hp hcd => k H4 p ((s2.trans s3).trans s4) ((s2.trans s3).free hp) ?_
        rw [dual_eq g.form]; exact hcd
end
end Sc
end
section
set_option Elab.async false
set_option linter.all false
set_option maxRecDepth 100000
set_option maxHeartbeats 4000000
namespace Sc
open PySem PySem.Spec PyProof.Rows L2 CM
open PySem.W (Codec)
theorem pe_fldK {X : Cx} {K : PySem.W.Frag} {e : Expr} {f : Str} {pos : Pos} {ta : TE} (he : PE X e ta) (hK : X.K = K := by rfl) (hb : attributeBase e f X.env (eval e X.env) = eval e X.env := by rfl) : PE X (.Attribute e f pos) (tFld K ta f) := hK ▸ pe_fld he hb
def rGetN (K : PySem.W.Frag) : V → V → Hp → VK → Prop := fun x y H Q => ∃ (p : Addr) (xs : List V) (j : Nat) (v : V), x = .ref p ∧ y = nv j ∧ SqL K H p xs ∧ xs[j]? = some v ∧ Q v H
theorem get_listN {X : Cx} : PGet X (rGetN X.K) := by
  intro pins s σ H o i ov iv Q I ro ri h
  obtain ⟨p, xs, j, v, rfl, rfl, hq, he, q⟩ := h
  cases ro
  obtain ⟨t, rfl⟩ := ri
  obtain ⟨its, r, pl, hz⟩ := I.list hq
  obtain ⟨u, ew, ru⟩ := r.get he
  have hl := (List.getElem?_eq_some_iff.mp he).1
  have hn := line63
  exact wpAny_getItem_list pl.isList (by omega) (by omega) (by rw [Int.toNat_natCast]; simpa using ew) ⟨v, H, I, ru, q⟩
theorem ixN_nat {n j : Nat} (h : j < n) : ixN n (j : Int) = some j := by
  unfold ixN
  rw [if_pos (by omega), if_pos (by omega), Int.toNat_natCast]
theorem good_small {c : Cb.Code} (g : Good c) : c.rows.length ≤ 10 := Nat.le_trans g.form.length_le g.hi
def spHasWord (C : Addr) : L2.Sp := fun vs H Q _ => ∃ (a : Addr) (c : Cb.Code) (x : Nat), vs = [.ref a, nv x] ∧ CodeAt C H a c ∧ Good c ∧ Q (.bl (rdc c.rows x == 0)) H
theorem int_zero (x : Nat) : decide (nv x = V.int 0) = (x == 0) := by
  rw [Bool.eq_iff_iff, decide_eq_true_eq, beq_iff_eq, V.int.injEq]
  omega
section
variable {P : Program} {w : World} {K : PySem.W.Frag} {mg : Str → Option Value} {base : Heap} {C : Addr}
theorem scHasWord : FnScope ["code", "word"] ["code", "word"] (defScope sHasWord) := ⟨rfl, rfl, rfl, by decide +kernel, rfl, by decide +kernel, by decide +kernel⟩
theorem ok_hasWord {f : Addr} {fd : FuncData} (F : Fun K "has_word" "has_word" sHasWord f fd) (T : Tx K mg C) (CR : Cal P w K mg base 2 "reduced" ["form", "word"] (spReduced K)) :
    FnOk P w K mg base CX0 3 f fd ["code", "word"] (spHasWord C) := by
  refine F.ok scHasWord (fun vs H Q E h => ?_) (fun cdv A outer s H vs Q E hr h => ?_)
  · obtain ⟨a, c, x, rfl, _⟩ := h; rfl
  · obtain ⟨a, c, x, rfl, ⟨dx, l, ha, hl⟩, g, k⟩ := h
    refine ⟨_, pss_one (ps_ret (pe_cmpR op_eq (pe_cal CR hr rfl (pa_cons (pe_fld (pv 0) rfl) (pa_cons (pv 1) pa_nil))) pe_int (nomark _))), ?_⟩
    refine ⟨_, rfl, a, C, dx, _, _, rfl, ha, T.cl, T.nR, cf_rows _ _, _, rfl, l, c.rows, x, rfl, SqL.of hl, g.form.nz, rfl, ?_⟩
    rw [int_zero]; exact k
theorem scBothOf : FnScope ["first", "second"] ["first", "second"] (defScope sBothOf) := ⟨rfl, rfl, rfl, by decide +kernel, rfl, by decide +kernel, by decide +kernel⟩
theorem ok_bothOf {f : Addr} {fd : FuncData} (F : Fun K "both_of" "both_of" sBothOf f fd) (T : Tx K mg C) (M : MkC P w K mg base 5 C) :
    FnOk P w K mg base CX0 7 f fd ["first", "second"] (spMake2 C (fun c d => c.n = d.n) Cb.both) := by
  refine F.ok scBothOf (fun vs H Q E h => ?_) (fun cdv A outer s H vs Q E hr h => ?_)
  · obtain ⟨a, b, c, d, rfl, _⟩ := h; rfl
  · obtain ⟨a, b, c, d, rfl, ⟨dx, l, ha, hl⟩, ⟨dy, m, hb, hm⟩, g, g', e, k⟩ := h
    refine ⟨_, pss_one (ps_ret (pe_code M T hr rfl (pa_cons (pe_fld (pv 0) rfl) (pa_cons (pe_op op_cat (pe_fld (pv 0) rfl) (pe_fld (pv 1) rfl)) pa_nil)))), ?_⟩
    refine ⟨_, rfl, a, C, dx, _, _, rfl, ha, T.cl, T.nN, cf_n _ _, _, rfl, a, C, dx, _, _, rfl, ha, T.cl, T.nR, cf_rows _ _, _, rfl, b, C, dy, _, _, rfl, hb, T.cl, T.nR, cf_rows _ _,
      l, m, _, _, rfl, rfl, hl, hm, ?_, fun q hq => ?_⟩
    · rw [nl_length, nl_length]
      have := good_small g
      have := good_small g'
      exact small (by omega)
    · refine code_read (rows := c.rows ++ d.rows) (SqL.of (upd_same.trans (by rw [nl_append]))) g.hi (both_lt g g' e) fun H' p s' hp hc => ?_
      exact k H' p ((same_new hq).trans s') ((same_new hq).free hp) hc
theorem scMeetOf : FnScope ["first", "second", "word"] ["first", "second"] (defScope sMeetOf) := ⟨rfl, rfl, rfl, by decide +kernel, rfl, by decide +kernel, by decide +kernel⟩
theorem ok_meetOf {f : Addr} {fd : FuncData} (F : Fun K "meet_of" "meet_of" sMeetOf f fd) (T : Tx K mg C) (M : MkC P w K mg base 5 C) (CW : Cal P w K mg base 1 "words_of" ["code"] (spWords C)) (CR : Cal P w K mg base 3 "has_word" ["code", "word"] (spHasWord C)) :
    FnOk P w K mg base CX0 7 f fd ["first", "second"] (spMake2 C (fun c d => c.n = d.n) Cb.meet) := by
  refine F.ok scMeetOf (fun vs H Q E h => ?_) (fun cdv A outer s H vs Q E hr h => ?_)
  · obtain ⟨a, b, c, d, rfl, _⟩ := h; rfl
  · obtain ⟨a, b, c, d, rfl, hc, hd, g, g', e, k⟩ := h
    obtain ⟨dx, l, ha, hl⟩ := id hc
    obtain ⟨dy, m, hb, hm⟩ := id hd
    refine ⟨_, pss_one (ps_ret (pe_code M T hr rfl (pa_cons (pe_fld (pv 0) rfl) (pa_cons
      (pe_lc (own := [("word", 2)]) rfl scMeetOf.nd (pi_list (pe_cal CW hr rfl (pa_cons (pv 0) pa_nil))) (blkOk_by (by show blkC ["first", "second", "word"] (defScope sMeetOf) _ _ = true; decide +kernel)) (fun _ _ _ _ _ => pg_name (i := 2) scMeetOf.nd rfl (Or.inl rfl))
          (fun _ _ _ _ _ => pts_one (pt_val (pe_cal CR hr rfl (pa_cons (pv 1) (pa_cons (pv 2) pa_nil))))) (fun _ _ _ _ _ => pv 2)) pa_nil)))), ?_⟩
    refine ⟨_, rfl, a, C, dx, _, _, rfl, ha, T.cl, T.nN, cf_n _ _, _, rfl, a, c, rfl, hc, good_small g, fun H1 pw s1 _ hpw => ?_⟩
    refine ⟨pw, rfl, ⟨_, SqL.of hpw⟩, fun D hD => lc_nats (K := K) (a := pw) (l := wds c.rows) (p := fun x => rdc d.rows x == 0) (f := id) hD (fun H' q => SqL.of (q _ _ hpw)) ?_ ?_ ?_⟩
    · rw [length_wds]
      exact Nat.lt_of_le_of_lt (show 2 ^ _ ≤ 2 ^ 10 from Nat.pow_le_pow_right (by decide) (good_small g)) (by decide)
    · intro x hx H' sm Y N hY hN
      refine ⟨rfl, _, rfl, _, rfl, b, d, x, rfl, (hd.same s1).same sm, g', _, rfl, ite2 (fun q => ?_) fun q => ?_⟩
      · exact ⟨_, rfl, hY (by simpa using q) H' (Same.refl _)⟩
      · exact hN (by simpa using q) H' (Same.refl _)
    · intro H2 s2 hD2
      rw [List.map_id] at hD2
      refine code_read (SqL.of hD2) g.hi (meet_lt g) fun H' p s' hp hcd => ?_
      refine k H' p ((s1.trans s2).trans s') ((s1.trans s2).free hp) ?_
      rw [meet_eq g g' e]; exact hcd
theorem scPunctured : FnScope ["code", "i", "row"] ["code", "i"] (defScope sPunctured) := ⟨rfl, rfl, rfl, by decide +kernel, rfl, by decide +kernel, by decide +kernel⟩
theorem ok_punctured {f : Addr} {fd : FuncData} (F : Fun K "punctured" "punctured" sPunctured f fd) (T : Tx K mg C) (M : MkC P w K mg base 5 C) (CO : Cal P w K mg base 1 "without_bit" ["word", "i"] spWithout) :
    FnOk P w K mg base CX0 7 f fd ["code", "i"] (spMakeI C Cb.punctured) := by
  refine F.ok scPunctured (fun vs H Q E h => ?_) (fun cdv A outer s H vs Q E hr h => ?_)
  · obtain ⟨a, c, i, rfl, _⟩ := h; rfl
  · obtain ⟨a, c, i, rfl, hc, g, h2, hi, k⟩ := h
    obtain ⟨dx, l, ha, hl⟩ := id hc
    have hn := g.hi
    have hlen := good_small g
    refine ⟨_, pss_one (ps_ret (pe_code M T hr rfl (pa_cons (pe_op op_sub (pe_fld (pv 0) rfl) pe_int) (pa_cons
      (pe_lc (own := [("row", 2)]) rfl scPunctured.nd (pi_list (pe_fld (pv 0) rfl)) (blkOk_by (by show blkC ["code", "i", "row"] (defScope sPunctured) _ _ = true; decide +kernel)) (fun _ _ _ _ _ => pg_name (i := 2) scPunctured.nd rfl (Or.inl rfl))
          (fun _ _ _ _ _ => pts_nil) (fun _ _ _ _ _ => pe_cal CO hr rfl (pa_cons (pv 2) (pa_cons (pv 1) pa_nil)))) pa_nil)))), ?_⟩
    refine ⟨_, rfl, a, C, dx, _, _, rfl, ha, T.cl, T.nN, cf_n _ _, _, _, rfl, rfl, _, rfl, a, C, dx, _, _, rfl, ha, T.cl, T.nR, cf_rows _ _, l, rfl, ⟨_, SqL.of hl⟩,
      fun D hD => lc_nats (K := K) (a := l) (l := c.rows) (p := fun _ => true) (f := Cb.without i) hD (fun H' q => SqL.of (q _ _ hl)) (by omega) ?_ ?_⟩
    · intro r hr' H' sm Y N hY _
      have := row_small g hr'
      exact ⟨rfl, _, rfl, _, rfl, r, i, rfl, by omega, by omega, hY rfl H' (Same.refl _)⟩
    · intro H2 s2 hD2
      rw [filter_yes] at hD2
      have e1 : (c.n : Int) - 1 = ((c.n - 1 : Nat) : Int) := by omega
      refine code_readZ e1 (SqL.of hD2) (by omega) (punct_lt g hi) fun H' p s' hp hcd => ?_
      exact k H' p (s2.trans s') (s2.free hp) hcd
theorem scShortened : FnScope ["code", "i", "word"] ["code", "i"] (defScope sShortened) := ⟨rfl, rfl, rfl, by decide +kernel, rfl, by decide +kernel, by decide +kernel⟩
theorem ok_shortened {f : Addr} {fd : FuncData} (F : Fun K "shortened" "shortened" sShortened f fd) (T : Tx K mg C) (M : MkC P w K mg base 5 C) (CW : Cal P w K mg base 1 "words_of" ["code"] (spWords C)) (CO : Cal P w K mg base 1 "without_bit" ["word", "i"] spWithout)
    (CB : Cal P w K mg base 1 "has_bit" ["word", "i"] spHasBit) : FnOk P w K mg base CX0 7 f fd ["code", "i"] (spMakeI C Cb.shortened) := by
  refine F.ok scShortened (fun vs H Q E h => ?_) (fun cdv A outer s H vs Q E hr h => ?_)
  · obtain ⟨a, c, i, rfl, _⟩ := h; rfl
  · obtain ⟨a, c, i, rfl, hc, g, h2, hi, k⟩ := h
    obtain ⟨dx, l, ha, hl⟩ := id hc
    have hn := g.hi
    refine ⟨_, pss_one (ps_ret (pe_code M T hr rfl (pa_cons (pe_op op_sub (pe_fld (pv 0) rfl) pe_int) (pa_cons
      (pe_lc (own := [("word", 2)]) rfl scShortened.nd (pi_list (pe_cal CW hr rfl (pa_cons (pv 0) pa_nil))) (blkOk_by (by show blkC ["code", "i", "word"] (defScope sShortened) _ _ = true; decide +kernel)) (fun _ _ _ _ _ => pg_name (i := 2) scShortened.nd rfl (Or.inl rfl))
          (fun _ _ _ _ _ => pts_one (pt_not (pt_val (pe_cal CB hr rfl (pa_cons (pv 2) (pa_cons (pv 1) pa_nil)))))) (fun _ _ _ _ _ => pe_cal CO hr rfl (pa_cons (pv 2) (pa_cons (pv 1) pa_nil)))) pa_nil)))), ?_⟩
    refine ⟨_, rfl, a, C, dx, _, _, rfl, ha, T.cl, T.nN, cf_n _ _, _, _, rfl, rfl, _, rfl, a, c, rfl, hc, good_small g, fun H1 pw s1 _ hpw => ?_⟩
    refine ⟨pw, rfl, ⟨_, SqL.of hpw⟩, fun D hD => lc_nats (K := K) (a := pw) (l := wds c.rows) (p := fun x => !x.testBit i) (f := Cb.without i) hD (fun H' q => SqL.of (q _ _ hpw)) ?_ ?_ ?_⟩
    · rw [length_wds]
      exact Nat.lt_of_le_of_lt (show 2 ^ _ ≤ 2 ^ 10 from Nat.pow_le_pow_right (by decide) (good_small g)) (by decide)
    · intro x hx H' sm Y N hY hN
      have hx' : x < 2 ^ 10 := two_le ((mem_wds.mp hx).lt g.form.lt) hn
      refine ⟨rfl, _, rfl, _, rfl, x, i, rfl, _, rfl, ite2 (fun q => ?_) fun q => ?_⟩
      · exact ⟨_, rfl, _, rfl, x, i, rfl, by omega, by omega, hY q H' (Same.refl _)⟩
      · exact hN (by simpa using q) H' (Same.refl _)
    · intro H2 s2 hD2
      have e1 : (c.n : Int) - 1 = ((c.n - 1 : Nat) : Int) := by omega
      refine code_readZ e1 (SqL.of hD2) (by omega) (short_lt g hi) fun H' p s' hp hcd => ?_
      refine k H' p ((s1.trans s2).trans s') ((s1.trans s2).free hp) ?_
      rw [shortened_eq g hi]; exact hcd
theorem scExtended : FnScope ["code", "row"] ["code"] (defScope sExtended) := ⟨rfl, rfl, rfl, by decide +kernel, rfl, by decide +kernel, by decide +kernel⟩
theorem ok_extended {f : Addr} {fd : FuncData} (F : Fun K "extended" "extended" sExtended f fd) (T : Tx K mg C) (M : MkC P w K mg base 5 C) (CG : Cal P w K mg base 1 "weight" ["word"] spWeight) :
    FnOk P w K mg base CX0 7 f fd ["code"] (fun vs H Q E => ∃ (a : Addr) (c : Cb.Code), vs = [.ref a] ∧ CodeAt C H a c ∧ Good c ∧ c.n < 10 ∧ ∀ (H' : Hp) (p : Addr), Same H H' → H p = none → CodeAt C H' p (Cb.extended c) → Q (.ref p) H') := by
  refine F.ok scExtended (fun vs H Q E h => ?_) (fun cdv A outer s H vs Q E hr h => ?_)
  · obtain ⟨a, c, rfl, _⟩ := h; rfl
  · obtain ⟨a, c, rfl, hc, g, hn, k⟩ := h
    obtain ⟨dx, l, ha, hl⟩ := id hc
    have hlen := good_small g
    refine ⟨_, pss_one (ps_ret (pe_code M T hr rfl (pa_cons (pe_op op_add (pe_fld (pv 0) rfl) pe_int) (pa_cons
      (pe_lc (own := [("row", 1)]) rfl scExtended.nd (pi_list (pe_fld (pv 0) rfl)) (blkOk_by (by show blkC ["code", "row"] (defScope sExtended) _ _ = true; decide +kernel)) (fun _ _ _ _ _ => pg_name (i := 1) scExtended.nd rfl (Or.inl rfl))
          (fun _ _ _ _ _ => pts_nil) (fun _ _ _ _ _ => pe_op op_or (pv 1) (pe_op op_shl (pe_op op_mod (pe_cal CG hr rfl (pa_cons (pv 1) pa_nil)) pe_int) (pe_fldK (K := K) (pv 0))))) pa_nil)))), ?_⟩
    refine ⟨_, rfl, a, C, dx, _, _, rfl, ha, T.cl, T.nN, cf_n _ _, _, _, rfl, rfl, _, rfl, a, C, dx, _, _, rfl, ha, T.cl, T.nR, cf_rows _ _, l, rfl, ⟨_, SqL.of hl⟩,
      fun D hD => lc_nats (K := K) (a := l) (l := c.rows) (p := fun _ => true) (f := fun r => r + Cb.weight c.n r % 2 * 2 ^ c.n) hD (fun H' q => SqL.of (q _ _ hl)) (by omega) ?_ ?_⟩
    · intro r hr' H' sm Y N hY _
      have hlt := g.form.lt r hr'
      refine ⟨rfl, _, rfl, _, rfl, r, c.n, rfl, hlt, _, _, rfl, rfl, (show (0 : Int) < 2 by decide), _, rfl, a, C, dx, _, _, rfl, sm _ _ ha, T.cl, T.nN, cf_n _ _, _, _, rfl, rfl, ⟨by omega, by omega, ?_⟩, _, _, rfl, rfl, ?_⟩
      · omega
      · have e1 : ((Cb.weight c.n r : Nat) : Int) % 2 = ((Cb.weight c.n r % 2 : Nat) : Int) := by omega
        show Y (V.int (Builtin.bitOr (r : Int) (((Cb.weight c.n r : Nat) : Int) % 2 * 2 ^ ((c.n : Nat) : Int).toNat))) H'
        rw [e1, shl_nat, or_nat]
        have e2 : r ||| Cb.weight c.n r % 2 * 2 ^ c.n = r + Cb.weight c.n r % 2 * 2 ^ c.n := by
          have := Nat.two_pow_add_eq_or_of_lt hlt (Cb.weight c.n r % 2)
          rw [Nat.or_comm, Nat.mul_comm, ← this, Nat.add_comm]
        rw [e2]
        exact hY rfl H' (Same.refl _)
    · intro H2 s2 hD2
      rw [filter_yes] at hD2
      refine code_readZ (n := c.n + 1) rfl (SqL.of hD2) (by omega) (ext_lt g) fun H' p s' hp hcd => ?_
      exact k H' p (s2.trans s') (s2.free hp) hcd
theorem scBesideOf : FnScope ["first", "second", "row"] ["first", "second"] (defScope sBesideOf) := ⟨rfl, rfl, rfl, by decide +kernel, rfl, by decide +kernel, by decide +kernel⟩
theorem ok_besideOf {f : Addr} {fd : FuncData} (F : Fun K "beside_of" "beside_of" sBesideOf f fd) (T : Tx K mg C) (M : MkC P w K mg base 5 C) :
    FnOk P w K mg base CX0 7 f fd ["first", "second"] (spMake2 C (fun c d => c.n + d.n ≤ 10) Cb.beside) := by
  refine F.ok scBesideOf (fun vs H Q E h => ?_) (fun cdv A outer s H vs Q E hr h => ?_)
  · obtain ⟨a, b, c, d, rfl, _⟩ := h; rfl
  · obtain ⟨a, b, c, d, rfl, ⟨dx, l, ha, hl⟩, ⟨dy, m, hb, hm⟩, g, g', e, k⟩ := h
    have l1 := good_small g
    have l2 := good_small g'
    refine ⟨_, pss_one (ps_ret (pe_code M T hr rfl (pa_cons (pe_op op_add (pe_fld (pv 0) rfl) (pe_fld (pv 1) rfl)) (pa_cons (pe_op op_cat (pe_fld (pv 0) rfl)
      (pe_lc (own := [("row", 2)]) rfl scBesideOf.nd (pi_list (pe_fld (pv 1) rfl)) (blkOk_by (by show blkC ["first", "second", "row"] (defScope sBesideOf) _ _ = true; decide +kernel)) (fun _ _ _ _ _ => pg_name (i := 2) scBesideOf.nd rfl (Or.inl rfl))
          (fun _ _ _ _ _ => pts_nil) (fun _ _ _ _ _ => pe_op op_shl (pv 2) (pe_fldK (K := K) (pv 0))))) pa_nil)))), ?_⟩
    refine ⟨_, rfl, a, C, dx, _, _, rfl, ha, T.cl, T.nN, cf_n _ _, _, rfl, b, C, dy, _, _, rfl, hb, T.cl, T.nN, cf_n _ _, _, _, rfl, rfl, _, rfl, a, C, dx, _, _, rfl, ha, T.cl, T.nR, cf_rows _ _,
      _, rfl, b, C, dy, _, _, rfl, hb, T.cl, T.nR, cf_rows _ _, m, rfl, ⟨_, SqL.of hm⟩,
      fun D hD => lc_nats (K := K) (a := m) (l := d.rows) (p := fun _ => true) (f := fun r => r * 2 ^ c.n) hD (fun H' q => SqL.of (q _ _ hm)) (by omega) ?_ ?_⟩
    · intro r hr' H' sm Y N hY _
      have hlt := row_small g' hr'
      have hn := g.hi
      refine ⟨rfl, _, rfl, _, rfl, a, C, dx, _, _, rfl, sm _ _ ha, T.cl, T.nN, cf_n _ _, _, _, rfl, rfl, ⟨by omega, by omega, by omega⟩, ?_⟩
      show Y (V.int ((r : Int) * 2 ^ ((c.n : Nat) : Int).toNat)) H'
      rw [shl_nat]
      exact hY rfl H' (Same.refl _)
    · intro H2 s2 hD2
      rw [filter_yes] at hD2
      refine ⟨l, D, _, _, rfl, rfl, s2 _ _ hl, hD2, ?_, fun q hq => ?_⟩
      · rw [nl_length, nl_length, List.length_map]
        exact small (by omega)
      · refine code_read (n := c.n + d.n) (rows := c.rows ++ d.rows.map fun r => r * 2 ^ c.n) (SqL.of (upd_same.trans (by rw [nl_append]))) e (beside_lt g g') fun H' p s' hp hcd => ?_
        exact k H' p ((s2.trans (same_new hq)).trans s') ((s2.trans (same_new hq)).free hp) hcd
theorem scDoubled : FnScope ["first", "second", "n", "row"] ["first", "second"] (defScope sDoubled) := ⟨rfl, rfl, rfl, by decide +kernel, rfl, by decide +kernel, by decide +kernel⟩
theorem ok_doubled {f : Addr} {fd : FuncData} (F : Fun K "doubled" "doubled" sDoubled f fd) (T : Tx K mg C) (M : MkC P w K mg base 5 C) :
    FnOk P w K mg base CX0 7 f fd ["first", "second"] (spMake2 C (fun c d => c.n = d.n ∧ 2 * c.n ≤ 10) Cb.doubled) := by
  refine F.ok scDoubled (fun vs H Q E h => ?_) (fun cdv A outer s H vs Q E hr h => ?_)
  · obtain ⟨a, b, c, d, rfl, _⟩ := h; rfl
  · obtain ⟨a, b, c, d, rfl, ⟨dx, l, ha, hl⟩, ⟨dy, m, hb, hm⟩, g, g', ⟨e, e2⟩, k⟩ := h
    have l1 := good_small g
    have l2 := good_small g'
    refine ⟨_, pss_cons (ps_set (i := 2) scDoubled.nd rfl (Or.inr rfl) (pe_fld (pv 0) rfl)) (pss_one (ps_ret (pe_code M T hr rfl (pa_cons (pe_op op_add (pv 2) (pv 2)) (pa_cons (pe_op op_cat
      (pe_lc (own := [("row", 3)]) rfl scDoubled.nd (pi_list (pe_fld (pv 0) rfl)) (blkOk_by (by show blkC ["first", "second", "n", "row"] (defScope sDoubled) _ _ = true; decide +kernel)) (fun _ _ _ _ _ => pg_name (i := 3) scDoubled.nd rfl (Or.inl rfl))
          (fun _ _ _ _ _ => pts_nil) (fun _ _ _ _ _ => pe_op op_or (pv 3) (pe_op op_shl (pv 3) (pv 2))))
      (pe_lc (own := [("row", 3)]) rfl scDoubled.nd (pi_list (pe_fld (pv 1) rfl)) (blkOk_by (by show blkC ["first", "second", "n", "row"] (defScope sDoubled) _ _ = true; decide +kernel)) (fun _ _ _ _ _ => pg_name (i := 3) scDoubled.nd rfl (Or.inl rfl))
          (fun _ _ _ _ _ => pts_nil) (fun _ _ _ _ _ => pe_op op_shl (pv 3) (pv 2)))) pa_nil))))), ?_⟩
    refine ⟨_, rfl, a, C, dx, _, _, rfl, ha, T.cl, T.nN, cf_n _ _, _, rfl, _, rfl, _, _, rfl, rfl, _, rfl, a, C, dx, _, _, rfl, ha, T.cl, T.nR, cf_rows _ _, l, rfl, ⟨_, SqL.of hl⟩,
      fun D hD => lc_nats (K := K) (a := l) (l := c.rows) (p := fun _ => true) (f := fun r => r + r * 2 ^ c.n) hD (fun H' q => SqL.of (q _ _ hl)) (by omega) ?_ ?_⟩
    · intro r hr' H' sm Y N hY _
      have hlt := g.form.lt r hr'
      have hsm := row_small g hr'
      refine ⟨rfl, _, rfl, _, rfl, _, rfl, _, _, rfl, rfl, ⟨by omega, by omega, by omega⟩, _, _, rfl, rfl, ?_⟩
      show Y (V.int (Builtin.bitOr (r : Int) ((r : Int) * 2 ^ ((c.n : Nat) : Int).toNat))) H'
      rw [shl_nat, or_nat]
      have e3 : r ||| r * 2 ^ c.n = r + r * 2 ^ c.n := by
        have := Nat.two_pow_add_eq_or_of_lt hlt r
        rw [Nat.or_comm, Nat.mul_comm, ← this, Nat.add_comm]
      rw [e3]
      exact hY rfl H' (Same.refl _)
    · intro H2 s2 hD2
      rw [filter_yes] at hD2
      refine ⟨_, rfl, b, C, dy, _, _, rfl, s2 _ _ hb, T.cl, T.nR, cf_rows _ _, m, rfl, ⟨_, SqL.of (s2 _ _ hm)⟩,
        fun D3 hD3 => lc_nats (K := K) (a := m) (l := d.rows) (p := fun _ => true) (f := fun r => r * 2 ^ c.n) hD3 (fun H' q => SqL.of (q _ _ (s2 _ _ hm))) (by omega) ?_ ?_⟩
      · intro r hr' H' sm Y N hY _
        have hsm := row_small g' hr'
        refine ⟨rfl, _, rfl, _, rfl, _, _, rfl, rfl, ⟨by omega, by omega, by omega⟩, ?_⟩
        show Y (V.int ((r : Int) * 2 ^ ((c.n : Nat) : Int).toNat)) H'
        rw [shl_nat]
        exact hY rfl H' (Same.refl _)
      · intro H3 s3 hD3'
        rw [filter_yes] at hD3'
        refine ⟨D, D3, _, _, rfl, rfl, s3 _ _ hD2, hD3', ?_, fun q hq => ?_⟩
        · rw [nl_length, nl_length, List.length_map, List.length_map]
          exact small (by omega)
        · have en : (c.n : Int) + (c.n : Int) = ((2 * c.n : Nat) : Int) := by omega
          refine code_readZ (n := 2 * c.n) en (rows := c.rows.map (fun r => r + r * 2 ^ c.n) ++ d.rows.map fun r => r * 2 ^ c.n) (SqL.of (upd_same.trans (by rw [nl_append]))) e2 (double_lt g g' e) fun H' p s' hp hcd => ?_
          exact k H' p (((s2.trans s3).trans (same_new hq)).trans s') (((s2.trans s3).trans (same_new hq)).free hp) hcd
def spCounts (K : PySem.W.Frag) : L2.Sp := fun vs H Q _ => ∃ (a : Addr) (n : Nat) (ws : List Nat), vs = [nv n, .ref a] ∧ n ≤ 10 ∧ SqL K H a (nl ws) ∧ (∀ x ∈ ws, x < 2 ^ n) ∧
  ∀ (H' : Hp) (p : Addr), Same H H' → H p = none → H' p = some (.lst (nl (Cb.spread n ws))) → Q (.ref p) H'
theorem scCounts : FnScope ["n", "words", "counts", "word", "place"] ["n", "words"] (defScope sCounts) := ⟨rfl, rfl, rfl, by decide +kernel, rfl, by decide +kernel, by decide +kernel⟩
theorem ok_counts {f : Addr} {fd : FuncData} (F : Fun K "counts_by_weight" "counts_by_weight" sCounts f fd) (CG : Cal P w K mg base 1 "weight" ["word"] spWeight) (mr : mg "range" = none) :
    FnOk P w K mg base CX0 2 f fd ["n", "words"] (spCounts K) := by
  refine F.ok scCounts (fun vs H Q E h => ?_) (fun cdv A outer s H vs Q E hr h => ?_)
  · obtain ⟨a, n, ws, rfl, _⟩ := h; rfl
  · obtain ⟨a, n, ws, rfl, hn, hS, hlt, k⟩ := h
    refine ⟨_, pss_cons (ps_setLc (i := 2) (own := [("place", 4)]) rfl scCounts.nd rfl rfl (sw_true rfl rfl rfl rfl) (pi_range1 rfl mr (pa_cons (pe_op op_add (pv 0) pe_int) pa_nil)) (blkOk_by (by show blkC ["n", "words", "counts", "word", "place"] (defScope sCounts) _ _ = true; decide +kernel)) (fun _ _ _ _ _ => pg_name (i := 4) scCounts.nd rfl (Or.inl rfl)) (fun _ _ _ _ _ => pts_nil)
        (fun _ _ _ _ _ => pe_int))
      (pss_cons (ps_for PassesOwn.never rfl (pi_list (pv 1)) (pg_name (i := 3) scCounts.nd rfl (Or.inl rfl))
        (pss_one (ps_augS (pv 2) (pe_cal CG hr rfl (pa_cons (pv 3) pa_nil)) get_listN pe_int iop_add set_list)))
      (pss_one (ps_ret (pv 2)))), ?_⟩
    refine ⟨_, rfl, _, _, rfl, rfl, _, rfl, by omega, by omega, fun D hD => ?_⟩
    rw [show ((n : Int) + 1).toNat = n + 1 by omega]
    refine lc_rangeN (n := n + 1) (p := fun _ => true) (f := fun _ => 0) hD (by omega) ?_ ?_
    · intro x hx H' sm Y N hY _
      exact ⟨rfl, hY rfl H' (Same.refl _)⟩
    · intro H1 s1 hD1
      rw [filter_yes, ← spread_nil] at hD1
      refine ⟨_, rfl, a, rfl, ⟨_, s1.seq hS⟩, for_list (K := K) (a := a) (xs := nl ws) (fun i σ H' => ∃ v, σ = [some (nv n), some (.ref a), some (.ref D), v, none] ∧ Same H H' ∧ H' D = some (.lst (nl (Cb.spread n (ws.take i)))))
        ⟨none, rfl, s1, hD1⟩ (fun i σ H' _ ⟨_, _, q, _⟩ => q.seq hS) ?_ ?_⟩
      · rintro i y σ H' hi ⟨v, rfl, sm, hD'⟩
        obtain ⟨x, hx, rfl⟩ := nl_at hi
        have hxn : x < 2 ^ n := hlt x (List.mem_of_getElem? hx)
        obtain ⟨m, hm, em⟩ := spread_snoc (n := n) (ws.take i) x (weight_le _ _)
        have hmn : (nl (Cb.spread n (ws.take i)))[Cb.weight n x]? = some (nv m) := by
          rw [List.getElem?_map, hm]; rfl
        have hl' := (List.getElem?_eq_some_iff.mp hmn).1
        refine ⟨_, rfl, _, rfl, x, n, rfl, hxn, D, _, _, _, rfl, rfl, SqL.of hD', hmn, _, _, rfl, rfl, D, _, _, _, rfl, rfl, hD', ixN_nat hl', some (nv x), rfl, same_upd hD sm, ?_⟩
        rw [upd_same, take_snoc' hx, em]
        show _ = some (HO.lst (nl ((Cb.spread n (ws.take i)).set (Cb.weight n x) (m + 1))))
        unfold nl
        rw [List.map_set]; rfl
      · rintro σ H' ⟨v, rfl, sm, hD'⟩
        rw [nl_length, List.take_length] at hD'
        exact ⟨_, rfl, k H' D sm hD hD'⟩
end
end Sc
end
section
set_option Elab.async false
set_option linter.all false
set_option maxRecDepth 100000
set_option maxHeartbeats 4000000
namespace Sc
open PySem PySem.Spec PyProof.Rows L2 CM
open PySem.W (Codec)
def KeepBut (l : Addr) (H H' : Hp) : Prop := ∀ b o, H b = some o → b ≠ l → H' b = some o
theorem KeepBut.of {l : Addr} {H H' : Hp} (s : Same H H') : KeepBut l H H' := fun b o e _ => s b o e
theorem KeepBut.trans {l : Addr} {H H1 H2 : Hp} (a : KeepBut l H H1) (b : KeepBut l H1 H2) : KeepBut l H H2 := fun c o e n => b c o (a c o e n) n
structure SlotsAt (C : Addr) (H : Hp) (l : Addr) (as : List Addr) (s : Cs.State) : Prop where
  lst : H l = some (.lst (as.map V.ref))
  len : as.length = 8
  slen : s.length = 8
  at_ : ∀ (j : Nat) (a : Addr), as[j]? = some a → ∃ c, s[j]? = some c ∧ CodeAt C H a c ∧ Good c
theorem SlotsAt.same {C : Addr} {H H' : Hp} {l : Addr} {as : List Addr} {s : Cs.State} (h : SlotsAt C H l as s) (e : Same H H') : SlotsAt C H' l as s :=
  ⟨e _ _ h.lst, h.len, h.slen, fun j a ha => let ⟨c, h1, h2, h3⟩ := h.at_ j a ha; ⟨c, h1, h2.same e, h3⟩⟩
theorem CodeAt.keep {C : Addr} {H H' : Hp} {a l : Addr} {as : List Addr} {c : Cb.Code} (h : CodeAt C H a c) (hl : H l = some (.lst (as.map V.ref))) (h0 : as.length = 8) (k : KeepBut l H H') : CodeAt C H' a c := by
  obtain ⟨dx, m, h1, h2⟩ := h
  refine ⟨dx, m, k _ _ h1 (ne_of h1 hl (by intro z; cases z)), k _ _ h2 (ne_of h2 hl fun z => ?_)⟩
  have e : nl c.rows = as.map V.ref := HO.lst.inj z
  match as, h0 with
  | x :: as, _ =>
    cases hr : c.rows with
    | nil => rw [hr] at e; cases e
    | cons y r => rw [hr] at e; exact nomatch (List.cons.inj e).1
theorem SlotsAt.get {C : Addr} {H : Hp} {l : Addr} {as : List Addr} {s : Cs.State} (h : SlotsAt C H l as s) {o : Nat} (ho : o < 8) : ∃ a, (as.map V.ref)[o]? = some (.ref a) ∧ CodeAt C H a (Cs.codeAt s o) ∧ Good (Cs.codeAt s o) := by
  obtain ⟨a, ha⟩ : ∃ a, as[o]? = some a := ⟨_, List.getElem?_eq_getElem (by rw [h.len]; exact ho)⟩
  obtain ⟨c, h1, h2, h3⟩ := h.at_ o a ha
  have e : Cs.codeAt s o = c := by
    unfold Cs.codeAt
    rw [List.getD_eq_getElem?_getD, h1]; rfl
  exact ⟨a, by rw [List.getElem?_map, ha]; rfl, e ▸ h2, e ▸ h3⟩
abbrev toldV (a : Cs.Answer) : List V := (CsNeutral.told a).map V.int
theorem toldV_nums (l : List Nat) : toldV (.nums l) = V.int 0 :: nl l := by
  unfold toldV CsNeutral.told CsNeutral.ints
  rw [List.map_cons, List.map_map]; rfl
theorem toldV_no (n : Nat) : toldV (Cs.no n) = [V.int (-(n : Int))] := rfl
def AnsOk (C l : Addr) (H : Hp) (s : Cs.State) (Q : VK) (c : Cs.Call) : Prop :=
  ∀ (H' : Hp) (p : Addr) (as' : List Addr), SlotsAt C H' l as' (Cs.step s c).1 → KeepBut l H H' → H p = none → H' p = some (.lst (toldV (Cs.step s c).2)) → Q (.ref p) H'
def sp1 (C : Addr) (mk : Nat → Cs.Call) : L2.Sp := fun vs H Q _ => ∃ (l : Addr) (as : List Addr) (s : Cs.State) (o : Nat), vs = [.ref l, nv o] ∧ SlotsAt C H l as s ∧ AnsOk C l H s Q (mk o)
def sp2 (C : Addr) (mk : Nat → Nat → Cs.Call) : L2.Sp := fun vs H Q _ => ∃ (l : Addr) (as : List Addr) (s : Cs.State) (o p : Nat), vs = [.ref l, nv o, nv p] ∧ SlotsAt C H l as s ∧ AnsOk C l H s Q (mk o p)
def sp3 (C : Addr) (mk : Nat → Nat → Nat → Cs.Call) : L2.Sp := fun vs H Q _ => ∃ (l : Addr) (as : List Addr) (s : Cs.State) (o p q : Nat), vs = [.ref l, nv o, nv p, nv q] ∧ SlotsAt C H l as s ∧ AnsOk C l H s Q (mk o p q)
def spPlaced (C : Addr) : L2.Sp := fun vs H Q _ => ∃ (l a : Addr) (as : List Addr) (s : Cs.State) (q : Nat) (c : Cb.Code), vs = [.ref l, nv q, .ref a] ∧ SlotsAt C H l as s ∧ q < 8 ∧ CodeAt C H a c ∧ Good c ∧
  ∀ (H' : Hp) (p : Addr) (as' : List Addr), SlotsAt C H' l as' (s.set q c) → KeepBut l H H' → H p = none → H' p = some (.lst (toldV (.nums [c.n, c.rows.length]))) → Q (.ref p) H'
structure Gs (mg : Str → Option Value) : Prop where
  last : ∃ t, mg "LAST_SLOT" = some (.int 7 t)
  bits : ∃ t, mg "MOST_BITS" = some (.int 10 t)
  rows : ∃ t, mg "MOST_ROWS" = some (.int 64 t)
  put : ∃ t, mg "PUT" = some (.int 1 t)
  max : mg "max" = none
  min : mg "min" = none
  len : mg "len" = none
  range : mg "range" = none
  sorted : mg "sorted" = none
section
variable {P : Program} {w : World} {K : PySem.W.Frag} {mg : Str → Option Value} {base : Heap} {C : Addr}
theorem scPlaced : FnScope ["slots", "q", "code"] ["slots", "q", "code"] (defScope sPlaced) := ⟨rfl, rfl, rfl, by decide +kernel, rfl, by decide +kernel, by decide +kernel⟩
theorem ok_placed {f : Addr} {fd : FuncData} (F : Fun K "placed" "placed" sPlaced f fd) (T : Tx K mg C) (G : Gs mg) : FnOk P w K mg base CX0 1 f fd ["slots", "q", "code"] (spPlaced C) := by
  refine F.ok scPlaced (fun vs H Q E h => ?_) (fun cdv A outer s H vs Q E hr h => ?_)
  · obtain ⟨l, a, as, s, q, c, rfl, _⟩ := h; rfl
  · obtain ⟨l, a, as, s, q, c, rfl, hs, hq, hc, g, k⟩ := h
    refine ⟨_, pss_cons (ps_asg (pv 2) (pg_sub (pv 0) (pv 1) set_list)) (pss_one (ps_ret (pe_lst (pa_cons pe_int (pa_cons (pe_fld (pv 2) rfl) (pa_cons (pe_callB call_len_seq rfl G.len boot_len (pa_cons (pe_fld (pv 2) rfl) pa_nil)) pa_nil)))))), ?_⟩
    have hlen : q < (as.map V.ref).length := by rw [List.length_map, hs.len]; exact hq
    refine ⟨_, rfl, _, rfl, _, rfl, l, _, _, _, rfl, rfl, hs.lst, ixN_nat hlen, ?_⟩
    have kb : KeepBut l H (upd H l (.lst ((as.map V.ref).set q (.ref a)))) := fun b o e n => by rw [upd_ne n]; exact e
    have hc1 := hc.keep hs.lst hs.len kb
    obtain ⟨dx, m, h1, h2⟩ := id hc1
    refine ⟨_, rfl, a, C, dx, _, _, rfl, h1, T.cl, T.nN, cf_n _ _, _, rfl, a, C, dx, _, _, rfl, h1, T.cl, T.nR, cf_rows _ _, m, _, rfl, .inl (SqL.of h2), (by show 3 ≤ sizeLine; decide), fun p hp => ?_⟩
    have hpH : H p = none := by
      cases e : H p with
      | none => rfl
      | some o =>
        by_cases n : p = l
        · subst n; rw [upd_same] at hp; cases hp
        · rw [kb p o e n] at hp; cases hp
    refine k _ p (as.set q a) ?_ (kb.trans (.of (same_new hp))) hpH (upd_same.trans ?_)
    · refine SlotsAt.same (H := upd H l (.lst ((as.map V.ref).set q (.ref a)))) ⟨?_, by rw [List.length_set]; exact hs.len, by rw [List.length_set]; exact hs.slen, fun j b hb => ?_⟩ (same_new hp)
      · rw [upd_same, List.map_set]
      · rw [List.getElem?_set] at hb
        split at hb
        · rename_i e
          subst e
          rw [if_pos (by rw [hs.len]; exact hq)] at hb
          cases hb
          exact ⟨c, List.getElem?_set_self (by rw [hs.slen]; exact hq), hc1, g⟩
        · rename_i e
          obtain ⟨d, d1, d2, d3⟩ := hs.at_ j b hb
          exact ⟨d, by rw [List.getElem?_set_ne e]; exact d1, d2.keep hs.lst hs.len kb, d3⟩
    · rw [nl_length]; rfl
theorem scForm : FnScope ["slots", "o"] ["slots", "o"] (defScope sForm) := ⟨rfl, rfl, rfl, by decide +kernel, rfl, by decide +kernel, by decide +kernel⟩
theorem slots_le {o : Nat} : (7 : Int) < (o : Int) ↔ Cs.SLOTS ≤ o := by
  unfold Cs.SLOTS; omega
theorem ok_form {f : Addr} {fd : FuncData} (F : Fun K "answer_form" "answer_form" sForm f fd) (T : Tx K mg C) (G : Gs mg) : FnOk P w K mg base CX0 1 f fd ["slots", "o"] (sp1 C .form) := by
  obtain ⟨tl, hlast⟩ := G.last
  refine F.ok scForm (fun vs H Q E h => ?_) (fun cdv A outer s H vs Q E hr h => ?_)
  · obtain ⟨l, as, s, o, rfl, _⟩ := h; rfl
  · obtain ⟨l, as, s, o, rfl, hs, k⟩ := h
    refine ⟨_, pss_cons (ps_if (pt_cmpR op_gt (pv 1) (pe_glob (v := .int 7) rfl hlast ⟨_, rfl⟩) (nomark _)) (pss_one (ps_ret (pe_lst (pa_cons (pe_un un_neg pe_int) pa_nil)))) pss_nil)
      (pss_one (ps_ret (pe_op op_cat (pe_lst (pa_cons pe_int (pa_cons (pe_fld (pe_ix ix_list (pv 0) (pv 1) (fun _ _ => rfl)) rfl) pa_nil))) (pe_fld (pe_ix ix_list (pv 0) (pv 1) (fun _ _ => rfl)) rfl)))), ?_⟩
    refine ⟨_, rfl, _, _, rfl, rfl, _, rfl, ite2 (fun c => ?_) fun c => ?_⟩
    · have ho : Cs.SLOTS ≤ o := slots_le.mp (by simpa using c)
      have es : Cs.step s (.form o) = (s, Cs.no 1) := by
        show (s, Cs.ofOne s o _) = _
        unfold Cs.ofOne
        rw [if_pos ho]
      refine ⟨_, rfl, (by show 1 ≤ sizeLine; decide), fun p hp => k _ p as ?_ (.of (same_new hp)) hp (upd_same.trans ?_)⟩
      · rw [es]; exact hs.same (same_new hp)
      · rw [es]; rfl
    · have ho : ¬ Cs.SLOTS ≤ o := fun z => c (by simpa using slots_le.mpr z)
      have ho8 : o < 8 := by unfold Cs.SLOTS at ho; omega
      have es : Cs.step s (.form o) = (s, .nums ((Cs.codeAt s o).n :: (Cs.codeAt s o).rows)) := by
        show (s, Cs.ofOne s o _) = _
        unfold Cs.ofOne
        rw [if_neg ho]
      obtain ⟨a, ha, hc, g⟩ := hs.get ho8
      obtain ⟨dx, m, h1, h2⟩ := id hc
      refine ⟨_, rfl, _, rfl, l, _, _, _, rfl, rfl, SqL.of hs.lst, atI_nat ha, a, C, dx, _, _, rfl, h1, T.cl, T.nN, cf_n _ _, (by show 2 ≤ sizeLine; decide), fun p hp => ?_⟩
      have s1 := same_new (o := .lst [.int 0, nv (Cs.codeAt s o).n]) hp
      refine ⟨_, rfl, _, rfl, l, _, _, _, rfl, rfl, SqL.of (s1 _ _ hs.lst), atI_nat ha, a, C, dx, _, _, rfl, s1 _ _ h1, T.cl, T.nR, cf_rows _ _, p, m, _, _, rfl, rfl, upd_same, s1 _ _ h2, ?_, fun q hq => ?_⟩
      · rw [nl_length]
        have := good_small g
        exact small (by show 2 + _ ≤ _; omega)
      · refine k _ q as ?_ (.of (s1.trans (same_new hq))) (s1.free hq) (upd_same.trans ?_)
        · rw [es]; exact hs.same (s1.trans (same_new hq))
        · rw [es, toldV_nums]; rfl
end
end Sc
end
section
set_option Elab.async false
set_option linter.all false
set_option maxRecDepth 100000
set_option maxHeartbeats 4000000
namespace Sc
open PySem PySem.Spec PyProof.Rows L2 CM
open PySem.W (Codec)
theorem ans_no {C l : Addr} {H : Hp} {as : List Addr} {s : Cs.State} {Q : VK} {call : Cs.Call} {n : Nat} (k : AnsOk C l H s Q call) (hs : SlotsAt C H l as s) (es : Cs.step s call = (s, Cs.no n)) {p : Addr} (hp : H p = none) : Q (.ref p) (upd H p (.lst [V.int (-(n : Int))])) := by
  refine k _ p as ?_ (.of (same_new hp)) hp (upd_same.trans ?_)
  · rw [es]; exact hs.same (same_new hp)
  · rw [es]; rfl
theorem ans_nums {C l : Addr} {H H1 : Hp} {as : List Addr} {s : Cs.State} {Q : VK} {call : Cs.Call} {ns : List Nat} (k : AnsOk C l H s Q call) (hs : SlotsAt C H l as s) (es : Cs.step s call = (s, .nums ns)) (s1 : Same H H1) {p : Addr} (hf : H p = none) (hp : H1 p = some (.lst (V.int 0 :: nl ns))) : Q (.ref p) H1 := by
  refine k _ p as ?_ (.of s1) hf ?_
  · rw [es]; exact hs.same s1
  · rw [es, hp, toldV_nums]
theorem ans_goes {C l : Addr} {H H1 : Hp} {s : Cs.State} {Q : VK} {call : Cs.Call} {q : Nat} {c : Cb.Code} (k : AnsOk C l H s Q call) (es : Cs.step s call = Cs.goes s q c) (s1 : Same H H1) :
    ∀ (H' : Hp) (p : Addr) (as' : List Addr), SlotsAt C H' l as' (s.set q c) → KeepBut l H1 H' → H1 p = none → H' p = some (.lst (toldV (.nums [c.n, c.rows.length]))) → Q (.ref p) H' := by
  intro H' p as' h1 h2 h3 h4
  refine k H' p as' ?_ ((KeepBut.of s1).trans h2) (s1.free h3) ?_
  · rw [es]; exact h1
  · rw [es]; exact h4
theorem max2_lt {o q : Nat} : (7 : Int) < (if (q : Int) > (o : Int) then (q : Int) else (o : Int)) ↔ Cs.SLOTS ≤ o ∨ Cs.SLOTS ≤ q := by
  unfold Cs.SLOTS
  split <;> omega
theorem max3_lt {o p q : Nat} : (7 : Int) < max (max (o : Int) (p : Int)) (q : Int) ↔ Cs.SLOTS ≤ o ∨ Cs.SLOTS ≤ p ∨ Cs.SLOTS ≤ q := by
  unfold Cs.SLOTS
  omega
theorem makes_no1 {s : Cs.State} {o q : Nat} {ok : Cb.Code → Bool} {f : Cb.Code → Cb.Code} (h : Cs.SLOTS ≤ o ∨ Cs.SLOTS ≤ q) : Cs.makes s o q ok f = (s, Cs.no 1) := by
  unfold Cs.makes; rw [if_pos h]
theorem makes_no2 {s : Cs.State} {o q : Nat} {ok : Cb.Code → Bool} {f : Cb.Code → Cb.Code} (h : ¬ (Cs.SLOTS ≤ o ∨ Cs.SLOTS ≤ q)) (h2 : ok (Cs.codeAt s o) = false) : Cs.makes s o q ok f = (s, Cs.no 2) := by
  unfold Cs.makes; rw [if_neg h, if_pos h2]
theorem makes_goes {s : Cs.State} {o q : Nat} {ok : Cb.Code → Bool} {f : Cb.Code → Cb.Code} (h : ¬ (Cs.SLOTS ≤ o ∨ Cs.SLOTS ≤ q)) (h2 : ok (Cs.codeAt s o) = true) : Cs.makes s o q ok f = Cs.goes s q (f (Cs.codeAt s o)) := by
  unfold Cs.makes; rw [if_neg h, if_neg (by rw [h2]; decide)]
theorem makesTwo_no1 {s : Cs.State} {o p q : Nat} {ok : Cb.Code → Cb.Code → Bool} {f : Cb.Code → Cb.Code → Cb.Code} (h : Cs.SLOTS ≤ o ∨ Cs.SLOTS ≤ p ∨ Cs.SLOTS ≤ q) : Cs.makesTwo s o p q ok f = (s, Cs.no 1) := by
  unfold Cs.makesTwo; rw [if_pos h]
theorem makesTwo_no2 {s : Cs.State} {o p q : Nat} {ok : Cb.Code → Cb.Code → Bool} {f : Cb.Code → Cb.Code → Cb.Code} (h : ¬ (Cs.SLOTS ≤ o ∨ Cs.SLOTS ≤ p ∨ Cs.SLOTS ≤ q)) (h2 : ok (Cs.codeAt s o) (Cs.codeAt s p) = false) : Cs.makesTwo s o p q ok f = (s, Cs.no 2) := by
  unfold Cs.makesTwo; rw [if_neg h, if_pos h2]
theorem makesTwo_goes {s : Cs.State} {o p q : Nat} {ok : Cb.Code → Cb.Code → Bool} {f : Cb.Code → Cb.Code → Cb.Code} (h : ¬ (Cs.SLOTS ≤ o ∨ Cs.SLOTS ≤ p ∨ Cs.SLOTS ≤ q)) (h2 : ok (Cs.codeAt s o) (Cs.codeAt s p) = true) : Cs.makesTwo s o p q ok f = Cs.goes s q (f (Cs.codeAt s o) (Cs.codeAt s p)) := by
  unfold Cs.makesTwo; rw [if_neg h, if_neg (by rw [h2]; decide)]
theorem lt8 {o : Nat} (h : ¬ Cs.SLOTS ≤ o) : o < 8 := by unfold Cs.SLOTS at h; omega
section
variable {P : Program} {w : World} {K : PySem.W.Frag} {mg : Str → Option Value} {base : Heap} {C : Addr}
theorem scBoth : FnScope ["slots", "o", "p", "q"] ["slots", "o", "p", "q"] (defScope sBoth) := ⟨rfl, rfl, rfl, by decide +kernel, rfl, by decide +kernel, by decide +kernel⟩
theorem ok_both {f : Addr} {fd : FuncData} (F : Fun K "answer_both" "answer_both" sBoth f fd) (T : Tx K mg C) (G : Gs mg) (CP : Cal P w K mg base 1 "placed" ["slots", "q", "code"] (spPlaced C)) (CD : Cal P w K mg base 7 "both_of" ["first", "second"] (spMake2 C (fun c d => c.n = d.n) Cb.both)) :
    FnOk P w K mg base CX0 8 f fd ["slots", "o", "p", "q"] (sp3 C .both) := by
  obtain ⟨tl, hlast⟩ := G.last
  obtain ⟨tb, hbits⟩ := G.bits
  refine F.ok scBoth (fun vs H Q E h => ?_) (fun cdv A outer s H vs Q E hr h => ?_)
  · obtain ⟨l, as, s, o, p, q, rfl, _⟩ := h; rfl
  · obtain ⟨l, as, s, o, p, q, rfl, hs, k⟩ := h
    have es0 : Cs.step s (.both o p q) = Cs.makesTwo s o p q Cs.alike Cb.both := rfl
    refine ⟨_, pss_cons (ps_if (pt_cmpR op_gt (pe_callB (call_max3 rfl) rfl G.max boot_max (pa_cons (pv 1) (pa_cons (pv 2) (pa_cons (pv 3) pa_nil)))) (pe_glob (v := .int 7) rfl hlast ⟨_, rfl⟩) (nomark _)) (pss_one (ps_ret (pe_lst (pa_cons (pe_un un_neg pe_int) pa_nil)))) pss_nil)
      (pss_cons (ps_if (pt_cmpR op_ne (pe_fld (pe_ix ix_list (pv 0) (pv 1) (fun _ _ => rfl)) rfl) (pe_fld (pe_ix ix_list (pv 0) (pv 2) (fun _ _ => rfl)) rfl) (nomark _)) (pss_one (ps_ret (pe_lst (pa_cons (pe_un un_neg pe_int) pa_nil)))) pss_nil)
      (pss_one (ps_ret (pe_cal CP hr rfl (pa_cons (pv 0) (pa_cons (pv 3) (pa_cons (pe_cal CD hr rfl (pa_cons (pe_ix ix_list (pv 0) (pv 1) (fun _ _ => rfl)) (pa_cons (pe_ix ix_list (pv 0) (pv 2) (fun _ _ => rfl)) pa_nil))) pa_nil))))))), ?_⟩
    refine ⟨_, rfl, _, rfl, _, rfl, _, _, _, rfl, _, _, rfl, rfl, _, rfl, ite2 (fun c => ?_) fun c => ?_⟩
    · have ho := max3_lt.mp (by simpa using c)
      exact ⟨_, rfl, (by show 1 ≤ sizeLine; decide), fun p' hp => ans_no k hs (es0.trans (makesTwo_no1 ho)) hp⟩
    · have hno : ¬ (Cs.SLOTS ≤ o ∨ Cs.SLOTS ≤ p ∨ Cs.SLOTS ≤ q) := fun z => c (by simpa using max3_lt.mpr z)
      have ho8 : o < 8 := lt8 fun z => hno (.inl z)
      have hp8 : p < 8 := lt8 fun z => hno (.inr (.inl z))
      have hq8 : q < 8 := lt8 fun z => hno (.inr (.inr z))
      obtain ⟨a, ha, hc, g⟩ := hs.get ho8
      obtain ⟨b, hb, hd, g'⟩ := hs.get hp8
      obtain ⟨dx, m, h1, h2⟩ := id hc
      obtain ⟨dy, m', h3, h4⟩ := id hd
      refine ⟨_, rfl, _, rfl, l, _, _, _, rfl, rfl, SqL.of hs.lst, atI_nat ha, a, C, dx, _, _, rfl, h1, T.cl, T.nN, cf_n _ _, _, rfl, _, rfl, l, _, _, _, rfl, rfl, SqL.of hs.lst, atI_nat hb, b, C, dy, _, _, rfl, h3, T.cl, T.nN, cf_n _ _, rfl, _, rfl, ite2 (fun z => ?_) fun z => ?_⟩
      · have ne : Cs.alike (Cs.codeAt s o) (Cs.codeAt s p) = false := by
          have : ¬ ((Cs.codeAt s o).n = (Cs.codeAt s p).n) := fun e => by
            rw [e] at z; simp at z
          show ((Cs.codeAt s o).n == (Cs.codeAt s p).n) = false
          simpa using this
        exact ⟨_, rfl, (by show 1 ≤ sizeLine; decide), fun p' hp => ans_no k hs (es0.trans (makesTwo_no2 hno ne)) hp⟩
      · have e : (Cs.codeAt s o).n = (Cs.codeAt s p).n := by
          have : nv (Cs.codeAt s o).n = nv (Cs.codeAt s p).n := by simpa using z
          have := V.int.inj this
          omega
        have al : Cs.alike (Cs.codeAt s o) (Cs.codeAt s p) = true := by
          show ((Cs.codeAt s o).n == (Cs.codeAt s p).n) = true
          rw [e]; simp
        exact ⟨_, rfl, _, rfl, _, rfl, _, rfl, l, _, _, _, rfl, rfl, SqL.of hs.lst, atI_nat ha, _, rfl, _, rfl, l, _, _, _, rfl, rfl, SqL.of hs.lst, atI_nat hb, a, b, _, _, rfl, hc, hd, g, g', e, fun H1 p1 s1 f1 c1 => ⟨l, p1, as, s, q, _, rfl, hs.same s1, hq8, c1, g.both g' e, ans_goes k (es0.trans (makesTwo_goes hno al)) s1⟩⟩
theorem scMeet : FnScope ["slots", "o", "p", "q"] ["slots", "o", "p", "q"] (defScope sMeet) := ⟨rfl, rfl, rfl, by decide +kernel, rfl, by decide +kernel, by decide +kernel⟩
theorem ok_meet {f : Addr} {fd : FuncData} (F : Fun K "answer_meet" "answer_meet" sMeet f fd) (T : Tx K mg C) (G : Gs mg) (CP : Cal P w K mg base 1 "placed" ["slots", "q", "code"] (spPlaced C)) (CD : Cal P w K mg base 7 "meet_of" ["first", "second"] (spMake2 C (fun c d => c.n = d.n) Cb.meet)) :
    FnOk P w K mg base CX0 8 f fd ["slots", "o", "p", "q"] (sp3 C .meet) := by
  obtain ⟨tl, hlast⟩ := G.last
  obtain ⟨tb, hbits⟩ := G.bits
  refine F.ok scMeet (fun vs H Q E h => ?_) (fun cdv A outer s H vs Q E hr h => ?_)
  · obtain ⟨l, as, s, o, p, q, rfl, _⟩ := h; rfl
  · obtain ⟨l, as, s, o, p, q, rfl, hs, k⟩ := h
    have es0 : Cs.step s (.meet o p q) = Cs.makesTwo s o p q Cs.alike Cb.meet := rfl
    refine ⟨_, pss_cons (ps_if (pt_cmpR op_gt (pe_callB (call_max3 rfl) rfl G.max boot_max (pa_cons (pv 1) (pa_cons (pv 2) (pa_cons (pv 3) pa_nil)))) (pe_glob (v := .int 7) rfl hlast ⟨_, rfl⟩) (nomark _)) (pss_one (ps_ret (pe_lst (pa_cons (pe_un un_neg pe_int) pa_nil)))) pss_nil)
      (pss_cons (ps_if (pt_cmpR op_ne (pe_fld (pe_ix ix_list (pv 0) (pv 1) (fun _ _ => rfl)) rfl) (pe_fld (pe_ix ix_list (pv 0) (pv 2) (fun _ _ => rfl)) rfl) (nomark _)) (pss_one (ps_ret (pe_lst (pa_cons (pe_un un_neg pe_int) pa_nil)))) pss_nil)
      (pss_one (ps_ret (pe_cal CP hr rfl (pa_cons (pv 0) (pa_cons (pv 3) (pa_cons (pe_cal CD hr rfl (pa_cons (pe_ix ix_list (pv 0) (pv 1) (fun _ _ => rfl)) (pa_cons (pe_ix ix_list (pv 0) (pv 2) (fun _ _ => rfl)) pa_nil))) pa_nil))))))), ?_⟩
    refine ⟨_, rfl, _, rfl, _, rfl, _, _, _, rfl, _, _, rfl, rfl, _, rfl, ite2 (fun c => ?_) fun c => ?_⟩
    · have ho := max3_lt.mp (by simpa using c)
      exact ⟨_, rfl, (by show 1 ≤ sizeLine; decide), fun p' hp => ans_no k hs (es0.trans (makesTwo_no1 ho)) hp⟩
    · have hno : ¬ (Cs.SLOTS ≤ o ∨ Cs.SLOTS ≤ p ∨ Cs.SLOTS ≤ q) := fun z => c (by simpa using max3_lt.mpr z)
      have ho8 : o < 8 := lt8 fun z => hno (.inl z)
      have hp8 : p < 8 := lt8 fun z => hno (.inr (.inl z))
      have hq8 : q < 8 := lt8 fun z => hno (.inr (.inr z))
      obtain ⟨a, ha, hc, g⟩ := hs.get ho8
      obtain ⟨b, hb, hd, g'⟩ := hs.get hp8
      obtain ⟨dx, m, h1, h2⟩ := id hc
      obtain ⟨dy, m', h3, h4⟩ := id hd
      refine ⟨_, rfl, _, rfl, l, _, _, _, rfl, rfl, SqL.of hs.lst, atI_nat ha, a, C, dx, _, _, rfl, h1, T.cl, T.nN, cf_n _ _, _, rfl, _, rfl, l, _, _, _, rfl, rfl, SqL.of hs.lst, atI_nat hb, b, C, dy, _, _, rfl, h3, T.cl, T.nN, cf_n _ _, rfl, _, rfl, ite2 (fun z => ?_) fun z => ?_⟩
      · have ne : Cs.alike (Cs.codeAt s o) (Cs.codeAt s p) = false := by
          have : ¬ ((Cs.codeAt s o).n = (Cs.codeAt s p).n) := fun e => by
            rw [e] at z; simp at z
          show ((Cs.codeAt s o).n == (Cs.codeAt s p).n) = false
          simpa using this
        exact ⟨_, rfl, (by show 1 ≤ sizeLine; decide), fun p' hp => ans_no k hs (es0.trans (makesTwo_no2 hno ne)) hp⟩
      · have e : (Cs.codeAt s o).n = (Cs.codeAt s p).n := by
          have : nv (Cs.codeAt s o).n = nv (Cs.codeAt s p).n := by simpa using z
          have := V.int.inj this
          omega
        have al : Cs.alike (Cs.codeAt s o) (Cs.codeAt s p) = true := by
          show ((Cs.codeAt s o).n == (Cs.codeAt s p).n) = true
          rw [e]; simp
        exact ⟨_, rfl, _, rfl, _, rfl, _, rfl, l, _, _, _, rfl, rfl, SqL.of hs.lst, atI_nat ha, _, rfl, _, rfl, l, _, _, _, rfl, rfl, SqL.of hs.lst, atI_nat hb, a, b, _, _, rfl, hc, hd, g, g', e, fun H1 p1 s1 f1 c1 => ⟨l, p1, as, s, q, _, rfl, hs.same s1, hq8, c1, g.meet g' e, ans_goes k (es0.trans (makesTwo_goes hno al)) s1⟩⟩
theorem scBeside : FnScope ["slots", "o", "p", "q"] ["slots", "o", "p", "q"] (defScope sBeside) := ⟨rfl, rfl, rfl, by decide +kernel, rfl, by decide +kernel, by decide +kernel⟩
theorem ok_beside {f : Addr} {fd : FuncData} (F : Fun K "answer_beside" "answer_beside" sBeside f fd) (T : Tx K mg C) (G : Gs mg) (CP : Cal P w K mg base 1 "placed" ["slots", "q", "code"] (spPlaced C)) (CD : Cal P w K mg base 7 "beside_of" ["first", "second"] (spMake2 C (fun c d => c.n + d.n ≤ 10) Cb.beside)) :
    FnOk P w K mg base CX0 8 f fd ["slots", "o", "p", "q"] (sp3 C .beside) := by
  obtain ⟨tl, hlast⟩ := G.last
  obtain ⟨tb, hbits⟩ := G.bits
  refine F.ok scBeside (fun vs H Q E h => ?_) (fun cdv A outer s H vs Q E hr h => ?_)
  · obtain ⟨l, as, s, o, p, q, rfl, _⟩ := h; rfl
  · obtain ⟨l, as, s, o, p, q, rfl, hs, k⟩ := h
    have es0 : Cs.step s (.beside o p q) = Cs.makesTwo s o p q (fun (c d : Cb.Code) => decide (c.n + d.n ≤ Cb.LONG)) Cb.beside := rfl
    refine ⟨_, pss_cons (ps_if (pt_cmpR op_gt (pe_callB (call_max3 rfl) rfl G.max boot_max (pa_cons (pv 1) (pa_cons (pv 2) (pa_cons (pv 3) pa_nil)))) (pe_glob (v := .int 7) rfl hlast ⟨_, rfl⟩) (nomark _)) (pss_one (ps_ret (pe_lst (pa_cons (pe_un un_neg pe_int) pa_nil)))) pss_nil)
      (pss_cons (ps_if (pt_cmpR op_gt (pe_op op_add (pe_fld (pe_ix ix_list (pv 0) (pv 1) (fun _ _ => rfl)) rfl) (pe_fld (pe_ix ix_list (pv 0) (pv 2) (fun _ _ => rfl)) rfl)) (pe_glob (v := .int 10) rfl hbits ⟨_, rfl⟩) (nomark _)) (pss_one (ps_ret (pe_lst (pa_cons (pe_un un_neg pe_int) pa_nil)))) pss_nil)
      (pss_one (ps_ret (pe_cal CP hr rfl (pa_cons (pv 0) (pa_cons (pv 3) (pa_cons (pe_cal CD hr rfl (pa_cons (pe_ix ix_list (pv 0) (pv 1) (fun _ _ => rfl)) (pa_cons (pe_ix ix_list (pv 0) (pv 2) (fun _ _ => rfl)) pa_nil))) pa_nil))))))), ?_⟩
    refine ⟨_, rfl, _, rfl, _, rfl, _, _, _, rfl, _, _, rfl, rfl, _, rfl, ite2 (fun c => ?_) fun c => ?_⟩
    · have ho := max3_lt.mp (by simpa using c)
      exact ⟨_, rfl, (by show 1 ≤ sizeLine; decide), fun p' hp => ans_no k hs (es0.trans (makesTwo_no1 ho)) hp⟩
    · have hno : ¬ (Cs.SLOTS ≤ o ∨ Cs.SLOTS ≤ p ∨ Cs.SLOTS ≤ q) := fun z => c (by simpa using max3_lt.mpr z)
      have ho8 : o < 8 := lt8 fun z => hno (.inl z)
      have hp8 : p < 8 := lt8 fun z => hno (.inr (.inl z))
      have hq8 : q < 8 := lt8 fun z => hno (.inr (.inr z))
      obtain ⟨a, ha, hc, g⟩ := hs.get ho8
      obtain ⟨b, hb, hd, g'⟩ := hs.get hp8
      obtain ⟨dx, m, h1, h2⟩ := id hc
      obtain ⟨dy, m', h3, h4⟩ := id hd
      refine ⟨_, rfl, _, rfl, l, _, _, _, rfl, rfl, SqL.of hs.lst, atI_nat ha, a, C, dx, _, _, rfl, h1, T.cl, T.nN, cf_n _ _, _, rfl, _, rfl, l, _, _, _, rfl, rfl, SqL.of hs.lst, atI_nat hb, b, C, dy, _, _, rfl, h3, T.cl, T.nN, cf_n _ _, _, _, rfl, rfl, _, _, rfl, rfl, _, rfl, ite2 (fun z => ?_) fun z => ?_⟩
      · have z' : 10 < (Cs.codeAt s o).n + (Cs.codeAt s p).n := by
          have : (10 : Int) < ((Cs.codeAt s o).n : Int) + ((Cs.codeAt s p).n : Int) := by simpa using z
          omega
        exact ⟨_, rfl, (by show 1 ≤ sizeLine; decide), fun p' hp => ans_no k hs (es0.trans (makesTwo_no2 hno (decide_eq_false (by unfold Cb.LONG; omega)))) hp⟩
      · have e : (Cs.codeAt s o).n + (Cs.codeAt s p).n ≤ 10 := by
          have : ¬ ((10 : Int) < ((Cs.codeAt s o).n : Int) + ((Cs.codeAt s p).n : Int)) := by simpa using z
          omega
        exact ⟨_, rfl, _, rfl, _, rfl, _, rfl, l, _, _, _, rfl, rfl, SqL.of hs.lst, atI_nat ha, _, rfl, _, rfl, l, _, _, _, rfl, rfl, SqL.of hs.lst, atI_nat hb, a, b, _, _, rfl, hc, hd, g, g', e, fun H1 p1 s1 f1 c1 => ⟨l, p1, as, s, q, _, rfl, hs.same s1, hq8, c1, g.beside g' e, ans_goes k (es0.trans (makesTwo_goes hno (decide_eq_true (by unfold Cb.LONG; exact e)))) s1⟩⟩
theorem scDouble : FnScope ["slots", "o", "p", "q"] ["slots", "o", "p", "q"] (defScope sDouble) := ⟨rfl, rfl, rfl, by decide +kernel, rfl, by decide +kernel, by decide +kernel⟩
theorem ok_double {f : Addr} {fd : FuncData} (F : Fun K "answer_double" "answer_double" sDouble f fd) (T : Tx K mg C) (G : Gs mg) (CP : Cal P w K mg base 1 "placed" ["slots", "q", "code"] (spPlaced C)) (CD : Cal P w K mg base 7 "doubled" ["first", "second"] (spMake2 C (fun c d => c.n = d.n ∧ 2 * c.n ≤ 10) Cb.doubled)) :
    FnOk P w K mg base CX0 8 f fd ["slots", "o", "p", "q"] (sp3 C .double) := by
  obtain ⟨tl, hlast⟩ := G.last
  obtain ⟨tb, hbits⟩ := G.bits
  refine F.ok scDouble (fun vs H Q E h => ?_) (fun cdv A outer s H vs Q E hr h => ?_)
  · obtain ⟨l, as, s, o, p, q, rfl, _⟩ := h; rfl
  · obtain ⟨l, as, s, o, p, q, rfl, hs, k⟩ := h
    have es0 : Cs.step s (.double o p q) = Cs.makesTwo s o p q (fun (c d : Cb.Code) => Cs.alike c d && decide (2 * c.n ≤ Cb.LONG)) Cb.doubled := rfl
    refine ⟨_, pss_cons (ps_if (pt_cmpR op_gt (pe_callB (call_max3 rfl) rfl G.max boot_max (pa_cons (pv 1) (pa_cons (pv 2) (pa_cons (pv 3) pa_nil)))) (pe_glob (v := .int 7) rfl hlast ⟨_, rfl⟩) (nomark _)) (pss_one (ps_ret (pe_lst (pa_cons (pe_un un_neg pe_int) pa_nil)))) pss_nil)
      (pss_cons (ps_if (PW.pt (pw_or (pt_cmpR op_ne (pe_fld (pe_ix ix_list (pv 0) (pv 1) (fun _ _ => rfl)) rfl) (pe_fld (pe_ix ix_list (pv 0) (pv 2) (fun _ _ => rfl)) rfl) (nomark _)) (pw_or1 (pt_cmpR op_gt (pe_op op_add (pe_fld (pe_ix ix_list (pv 0) (pv 1) (fun _ _ => rfl)) rfl) (pe_fld (pe_ix ix_list (pv 0) (pv 2) (fun _ _ => rfl)) rfl)) (pe_glob (v := .int 10) rfl hbits ⟨_, rfl⟩) (nomark _))))) (pss_one (ps_ret (pe_lst (pa_cons (pe_un un_neg pe_int) pa_nil)))) pss_nil)
      (pss_one (ps_ret (pe_cal CP hr rfl (pa_cons (pv 0) (pa_cons (pv 3) (pa_cons (pe_cal CD hr rfl (pa_cons (pe_ix ix_list (pv 0) (pv 1) (fun _ _ => rfl)) (pa_cons (pe_ix ix_list (pv 0) (pv 2) (fun _ _ => rfl)) pa_nil))) pa_nil))))))), ?_⟩
    refine ⟨_, rfl, _, rfl, _, rfl, _, _, _, rfl, _, _, rfl, rfl, _, rfl, ite2 (fun c => ?_) fun c => ?_⟩
    · have ho := max3_lt.mp (by simpa using c)
      exact ⟨_, rfl, (by show 1 ≤ sizeLine; decide), fun p' hp => ans_no k hs (es0.trans (makesTwo_no1 ho)) hp⟩
    · have hno : ¬ (Cs.SLOTS ≤ o ∨ Cs.SLOTS ≤ p ∨ Cs.SLOTS ≤ q) := fun z => c (by simpa using max3_lt.mpr z)
      have ho8 : o < 8 := lt8 fun z => hno (.inl z)
      have hp8 : p < 8 := lt8 fun z => hno (.inr (.inl z))
      have hq8 : q < 8 := lt8 fun z => hno (.inr (.inr z))
      obtain ⟨a, ha, hc, g⟩ := hs.get ho8
      obtain ⟨b, hb, hd, g'⟩ := hs.get hp8
      obtain ⟨dx, m, h1, h2⟩ := id hc
      obtain ⟨dy, m', h3, h4⟩ := id hd
      refine ⟨_, rfl, _, rfl, l, _, _, _, rfl, rfl, SqL.of hs.lst, atI_nat ha, a, C, dx, _, _, rfl, h1, T.cl, T.nN, cf_n _ _, _, rfl, _, rfl, l, _, _, _, rfl, rfl, SqL.of hs.lst, atI_nat hb, b, C, dy, _, _, rfl, h3, T.cl, T.nN, cf_n _ _, rfl, _, rfl, ite2 (fun z => ?_) fun z => ?_⟩
      · have ne : (Cs.alike (Cs.codeAt s o) (Cs.codeAt s p) && decide (2 * (Cs.codeAt s o).n ≤ Cb.LONG)) = false := by
          have : ¬ ((Cs.codeAt s o).n = (Cs.codeAt s p).n) := fun e => by
            rw [e] at z; simp at z
          show (((Cs.codeAt s o).n == (Cs.codeAt s p).n) && _) = false
          rw [beq_eq_false_iff_ne.mpr this]; rfl
        exact iteT ⟨_, rfl, (by show 1 ≤ sizeLine; decide), fun p' hp => ans_no k hs (es0.trans (makesTwo_no2 hno ne)) hp⟩
      · have e : (Cs.codeAt s o).n = (Cs.codeAt s p).n := by
          have : nv (Cs.codeAt s o).n = nv (Cs.codeAt s p).n := by simpa using z
          have := V.int.inj this
          omega
        have al : Cs.alike (Cs.codeAt s o) (Cs.codeAt s p) = true := by
          show ((Cs.codeAt s o).n == (Cs.codeAt s p).n) = true
          rw [e]; simp
        refine ⟨_, rfl, _, rfl, l, _, _, _, rfl, rfl, SqL.of hs.lst, atI_nat ha, a, C, dx, _, _, rfl, h1, T.cl, T.nN, cf_n _ _, _, rfl, _, rfl, l, _, _, _, rfl, rfl, SqL.of hs.lst, atI_nat hb, b, C, dy, _, _, rfl, h3, T.cl, T.nN, cf_n _ _, _, _, rfl, rfl, _, _, rfl, rfl, _, rfl, ite2 (fun z => ?_) fun z => ?_⟩
        · have z' : 10 < 2 * (Cs.codeAt s o).n := by
            have : (10 : Int) < ((Cs.codeAt s o).n : Int) + ((Cs.codeAt s p).n : Int) := by simpa using z
            omega
          have ne : (Cs.alike (Cs.codeAt s o) (Cs.codeAt s p) && decide (2 * (Cs.codeAt s o).n ≤ Cb.LONG)) = false := by
            rw [decide_eq_false (by unfold Cb.LONG; omega), Bool.and_false]
          exact ⟨_, rfl, (by show 1 ≤ sizeLine; decide), fun p' hp => ans_no k hs (es0.trans (makesTwo_no2 hno ne)) hp⟩
        · have e2 : 2 * (Cs.codeAt s o).n ≤ 10 := by
            have : ¬ ((10 : Int) < ((Cs.codeAt s o).n : Int) + ((Cs.codeAt s p).n : Int)) := by simpa using z
            omega
          have ok : (Cs.alike (Cs.codeAt s o) (Cs.codeAt s p) && decide (2 * (Cs.codeAt s o).n ≤ Cb.LONG)) = true := by
            rw [al, decide_eq_true (by unfold Cb.LONG; exact e2)]; rfl
          exact ⟨_, rfl, _, rfl, _, rfl, _, rfl, l, _, _, _, rfl, rfl, SqL.of hs.lst, atI_nat ha, _, rfl, _, rfl, l, _, _, _, rfl, rfl, SqL.of hs.lst, atI_nat hb, a, b, _, _, rfl, hc, hd, g, g', ⟨e, e2⟩, fun H1 p1 s1 f1 c1 => ⟨l, p1, as, s, q, _, rfl, hs.same s1, hq8, c1, g.doubled g' e e2, ans_goes k (es0.trans (makesTwo_goes hno ok)) s1⟩⟩
end
end Sc
end
section
set_option Elab.async false
set_option linter.all false
set_option maxRecDepth 100000
set_option maxHeartbeats 4000000
namespace Sc
open PySem PySem.Spec PyProof.Rows L2 CM
open PySem.W (Codec)
def spCanLose (C : Addr) : L2.Sp := fun vs H Q _ => ∃ (a : Addr) (c : Cb.Code) (i : Nat), vs = [.ref a, nv i] ∧ CodeAt C H a c ∧ Q (.bl (decide (2 ≤ c.n) && decide (i < c.n))) H
def spExtended (C : Addr) : L2.Sp := fun vs H Q _ => ∃ (a : Addr) (c : Cb.Code), vs = [.ref a] ∧ CodeAt C H a c ∧ Good c ∧ c.n < 10 ∧ ∀ (H' : Hp) (p : Addr), Same H H' → H p = none → CodeAt C H' p (Cb.extended c) → Q (.ref p) H'
section
variable {P : Program} {w : World} {K : PySem.W.Frag} {mg : Str → Option Value} {base : Heap} {C : Addr}
theorem scCanLose : FnScope ["code", "i"] ["code", "i"] (defScope sCanLose) := ⟨rfl, rfl, rfl, by decide +kernel, rfl, by decide +kernel, by decide +kernel⟩
theorem ok_canLose {f : Addr} {fd : FuncData} (F : Fun K "can_lose_bit" "can_lose_bit" sCanLose f fd) (T : Tx K mg C) : FnOk P w K mg base CX0 1 f fd ["code", "i"] (spCanLose C) := by
  refine F.ok scCanLose (fun vs H Q E h => ?_) (fun cdv A outer s H vs Q E hr h => ?_)
  · obtain ⟨a, c, i, rfl, _⟩ := h; rfl
  · obtain ⟨a, c, i, rfl, ⟨dx, l, h1, h2⟩, k⟩ := h
    refine ⟨_, pss_one (ps_ret (pe_and (pe_cmpR op_gt (pe_fld (pv 0) rfl) pe_int (nomark _)) (pe_one (pe_cmpR op_lt (pv 1) (pe_fld (pv 0) rfl) (nomark _))))), ?_⟩
    refine ⟨_, rfl, a, C, dx, _, _, rfl, h1, T.cl, T.nN, cf_n _ _, _, _, rfl, rfl, _, rfl, ite2 (fun z => ?_) fun z => ?_⟩
    · have z' : 2 ≤ c.n := by
        have : (1 : Int) < (c.n : Int) := by simpa using z
        omega
      refine ⟨_, rfl, _, rfl, a, C, dx, _, _, rfl, h1, T.cl, T.nN, cf_n _ _, _, _, rfl, rfl, ?_⟩
      rw [decide_eq_true z', Bool.true_and] at k
      show Q (.bl (decide ((i : Int) < (c.n : Int)))) H
      rw [show decide ((i : Int) < (c.n : Int)) = decide (i < c.n) by rw [Bool.eq_iff_iff, decide_eq_true_eq, decide_eq_true_eq]; omega]
      exact k
    · have z' : ¬ 2 ≤ c.n := by
        have : ¬ (1 : Int) < (c.n : Int) := by simpa using z
        omega
      rw [decide_eq_false z', Bool.false_and] at k
      exact k
theorem scDual : FnScope ["slots", "o", "q"] ["slots", "o", "q"] (defScope sDual) := ⟨rfl, rfl, rfl, by decide +kernel, rfl, by decide +kernel, by decide +kernel⟩
theorem ok_dual {f : Addr} {fd : FuncData} (F : Fun K "answer_dual" "answer_dual" sDual f fd) (T : Tx K mg C) (G : Gs mg) (CP : Cal P w K mg base 1 "placed" ["slots", "q", "code"] (spPlaced C)) (CD : Cal P w K mg base 7 "dual_of" ["code"] (spMake1 C Cb.dual)) :
    FnOk P w K mg base CX0 8 f fd ["slots", "o", "q"] (sp2 C .dual) := by
  obtain ⟨tl, hlast⟩ := G.last
  refine F.ok scDual (fun vs H Q E h => ?_) (fun cdv A outer s H vs Q E hr h => ?_)
  · obtain ⟨l, as, s, o, q, rfl, _⟩ := h; rfl
  · obtain ⟨l, as, s, o, q, rfl, hs, k⟩ := h
    have es0 : Cs.step s (.dual o q) = Cs.makes s o q (fun (_ : Cb.Code) => true) Cb.dual := rfl
    refine ⟨_, pss_cons (ps_if (pt_cmpR op_gt (pe_callB (call_max2 rfl) rfl G.max boot_max (pa_cons (pv 1) (pa_cons (pv 2) pa_nil))) (pe_glob (v := .int 7) rfl hlast ⟨_, rfl⟩) (nomark _)) (pss_one (ps_ret (pe_lst (pa_cons (pe_un un_neg pe_int) pa_nil)))) pss_nil)
      (pss_one (ps_ret (pe_cal CP hr rfl (pa_cons (pv 0) (pa_cons (pv 2) (pa_cons (pe_cal CD hr rfl (pa_cons (pe_ix ix_list (pv 0) (pv 1) (fun _ _ => rfl)) pa_nil)) pa_nil)))))), ?_⟩
    refine ⟨_, rfl, _, rfl, _, _, rfl, _, _, rfl, rfl, _, rfl, ite2 (fun c => ?_) fun c => ?_⟩
    · have ho := max2_lt.mp (by simpa using c)
      exact ⟨_, rfl, (by show 1 ≤ sizeLine; decide), fun p' hp => ans_no k hs (es0.trans (makes_no1 ho)) hp⟩
    · have hno : ¬ (Cs.SLOTS ≤ o ∨ Cs.SLOTS ≤ q) := fun z => c (by simpa using max2_lt.mpr z)
      obtain ⟨a, ha, hc, g⟩ := hs.get (lt8 fun z => hno (.inl z))
      have hq8 : q < 8 := lt8 fun z => hno (.inr z)
      exact ⟨_, rfl, _, rfl, _, rfl, _, rfl, l, _, _, _, rfl, rfl, SqL.of hs.lst, atI_nat ha, a, _, rfl, hc, g, fun H1 p1 s1 f1 c1 => ⟨l, p1, as, s, q, _, rfl, hs.same s1, hq8, c1, g.dual, ans_goes k (es0.trans (makes_goes hno rfl)) s1⟩⟩
theorem scExtend : FnScope ["slots", "o", "q"] ["slots", "o", "q"] (defScope sExtend) := ⟨rfl, rfl, rfl, by decide +kernel, rfl, by decide +kernel, by decide +kernel⟩
theorem ok_extend {f : Addr} {fd : FuncData} (F : Fun K "answer_extend" "answer_extend" sExtend f fd) (T : Tx K mg C) (G : Gs mg) (CP : Cal P w K mg base 1 "placed" ["slots", "q", "code"] (spPlaced C)) (CD : Cal P w K mg base 7 "extended" ["code"] (spExtended C)) :
    FnOk P w K mg base CX0 8 f fd ["slots", "o", "q"] (sp2 C .extend) := by
  obtain ⟨tl, hlast⟩ := G.last
  obtain ⟨tb, hbits⟩ := G.bits
  refine F.ok scExtend (fun vs H Q E h => ?_) (fun cdv A outer s H vs Q E hr h => ?_)
  · obtain ⟨l, as, s, o, q, rfl, _⟩ := h; rfl
  · obtain ⟨l, as, s, o, q, rfl, hs, k⟩ := h
    have es0 : Cs.step s (.extend o q) = Cs.makes s o q (fun (c : Cb.Code) => decide (c.n < Cb.LONG)) Cb.extended := rfl
    refine ⟨_, pss_cons (ps_if (pt_cmpR op_gt (pe_callB (call_max2 rfl) rfl G.max boot_max (pa_cons (pv 1) (pa_cons (pv 2) pa_nil))) (pe_glob (v := .int 7) rfl hlast ⟨_, rfl⟩) (nomark _)) (pss_one (ps_ret (pe_lst (pa_cons (pe_un un_neg pe_int) pa_nil)))) pss_nil)
      (pss_cons (ps_if (pt_cmpR op_eq (pe_fld (pe_ix ix_list (pv 0) (pv 1) (fun _ _ => rfl)) rfl) (pe_glob (v := .int 10) rfl hbits ⟨_, rfl⟩) (nomark _)) (pss_one (ps_ret (pe_lst (pa_cons (pe_un un_neg pe_int) pa_nil)))) pss_nil)
      (pss_one (ps_ret (pe_cal CP hr rfl (pa_cons (pv 0) (pa_cons (pv 2) (pa_cons (pe_cal CD hr rfl (pa_cons (pe_ix ix_list (pv 0) (pv 1) (fun _ _ => rfl)) pa_nil)) pa_nil))))))), ?_⟩
    refine ⟨_, rfl, _, rfl, _, _, rfl, _, _, rfl, rfl, _, rfl, ite2 (fun c => ?_) fun c => ?_⟩
    · have ho := max2_lt.mp (by simpa using c)
      exact ⟨_, rfl, (by show 1 ≤ sizeLine; decide), fun p' hp => ans_no k hs (es0.trans (makes_no1 ho)) hp⟩
    · have hno : ¬ (Cs.SLOTS ≤ o ∨ Cs.SLOTS ≤ q) := fun z => c (by simpa using max2_lt.mpr z)
      obtain ⟨a, ha, hc, g⟩ := hs.get (lt8 fun z => hno (.inl z))
      obtain ⟨dx, m, h1, h2⟩ := id hc
      have hq8 : q < 8 := lt8 fun z => hno (.inr z)
      have h10 := g.hi
      refine ⟨_, rfl, _, rfl, l, _, _, _, rfl, rfl, SqL.of hs.lst, atI_nat ha, a, C, dx, _, _, rfl, h1, T.cl, T.nN, cf_n _ _, rfl, _, rfl, ite2 (fun z => ?_) fun z => ?_⟩
      · have e : (Cs.codeAt s o).n = 10 := by
          have : nv (Cs.codeAt s o).n = V.int 10 := by simpa using z
          have := V.int.inj this
          omega
        exact ⟨_, rfl, (by show 1 ≤ sizeLine; decide), fun p' hp => ans_no k hs (es0.trans (makes_no2 hno (decide_eq_false (by unfold Cb.LONG; omega)))) hp⟩
      · have e : (Cs.codeAt s o).n < 10 := by
          have : ¬ (Cs.codeAt s o).n = 10 := fun e => by rw [e] at z; exact z (by simp)
          omega
        exact ⟨_, rfl, _, rfl, _, rfl, _, rfl, l, _, _, _, rfl, rfl, SqL.of hs.lst, atI_nat ha, a, _, rfl, hc, g, e, fun H1 p1 s1 f1 c1 => ⟨l, p1, as, s, q, _, rfl, hs.same s1, hq8, c1, g.extended e, ans_goes k (es0.trans (makes_goes hno (decide_eq_true (by unfold Cb.LONG; exact e)))) s1⟩⟩
theorem scPuncture : FnScope ["slots", "o", "i", "q"] ["slots", "o", "i", "q"] (defScope sPuncture) := ⟨rfl, rfl, rfl, by decide +kernel, rfl, by decide +kernel, by decide +kernel⟩
theorem ok_puncture {f : Addr} {fd : FuncData} (F : Fun K "answer_puncture" "answer_puncture" sPuncture f fd) (T : Tx K mg C) (G : Gs mg) (CP : Cal P w K mg base 1 "placed" ["slots", "q", "code"] (spPlaced C)) (CL : Cal P w K mg base 1 "can_lose_bit" ["code", "i"] (spCanLose C)) (CD : Cal P w K mg base 7 "punctured" ["code", "i"] (spMakeI C Cb.punctured)) :
    FnOk P w K mg base CX0 8 f fd ["slots", "o", "i", "q"] (sp3 C .puncture) := by
  obtain ⟨tl, hlast⟩ := G.last
  refine F.ok scPuncture (fun vs H Q E h => ?_) (fun cdv A outer s H vs Q E hr h => ?_)
  · obtain ⟨l, as, s, o, i, q, rfl, _⟩ := h; rfl
  · obtain ⟨l, as, s, o, i, q, rfl, hs, k⟩ := h
    have es0 : Cs.step s (.puncture o i q) = Cs.makes s o q (fun (c : Cb.Code) => decide (2 ≤ c.n) && decide (i < c.n)) (fun (c : Cb.Code) => Cb.punctured c i) := rfl
    refine ⟨_, pss_cons (ps_if (pt_cmpR op_gt (pe_callB (call_max2 rfl) rfl G.max boot_max (pa_cons (pv 1) (pa_cons (pv 3) pa_nil))) (pe_glob (v := .int 7) rfl hlast ⟨_, rfl⟩) (nomark _)) (pss_one (ps_ret (pe_lst (pa_cons (pe_un un_neg pe_int) pa_nil)))) pss_nil)
      (pss_cons (ps_if (pt_not (pt_val (pe_cal CL hr rfl (pa_cons (pe_ix ix_list (pv 0) (pv 1) (fun _ _ => rfl)) (pa_cons (pv 2) pa_nil))))) (pss_one (ps_ret (pe_lst (pa_cons (pe_un un_neg pe_int) pa_nil)))) pss_nil)
      (pss_one (ps_ret (pe_cal CP hr rfl (pa_cons (pv 0) (pa_cons (pv 3) (pa_cons (pe_cal CD hr rfl (pa_cons (pe_ix ix_list (pv 0) (pv 1) (fun _ _ => rfl)) (pa_cons (pv 2) pa_nil))) pa_nil))))))), ?_⟩
    refine ⟨_, rfl, _, rfl, _, _, rfl, _, _, rfl, rfl, _, rfl, ite2 (fun c => ?_) fun c => ?_⟩
    · have ho := max2_lt.mp (by simpa using c)
      exact ⟨_, rfl, (by show 1 ≤ sizeLine; decide), fun p' hp => ans_no k hs (es0.trans (makes_no1 ho)) hp⟩
    · have hno : ¬ (Cs.SLOTS ≤ o ∨ Cs.SLOTS ≤ q) := fun z => c (by simpa using max2_lt.mpr z)
      obtain ⟨a, ha, hc, g⟩ := hs.get (lt8 fun z => hno (.inl z))
      have hq8 : q < 8 := lt8 fun z => hno (.inr z)
      refine ⟨_, rfl, _, rfl, l, _, _, _, rfl, rfl, SqL.of hs.lst, atI_nat ha, _, rfl, a, _, i, rfl, hc, _, rfl, ite2 (fun z => ?_) fun z => ?_⟩
      · have e : (decide (2 ≤ (Cs.codeAt s o).n) && decide (i < (Cs.codeAt s o).n)) = false := by simpa only [Bool.not_eq_true'] using z
        exact ⟨_, rfl, (by show 1 ≤ sizeLine; decide), fun p' hp => ans_no k hs (es0.trans (makes_no2 hno e)) hp⟩
      · have e : (decide (2 ≤ (Cs.codeAt s o).n) && decide (i < (Cs.codeAt s o).n)) = true := by simpa using z
        obtain ⟨e1, e2⟩ := Bool.and_eq_true_iff.mp e
        have e1 := of_decide_eq_true e1
        have e2 := of_decide_eq_true e2
        exact ⟨_, rfl, _, rfl, _, rfl, _, rfl, l, _, _, _, rfl, rfl, SqL.of hs.lst, atI_nat ha, _, rfl, a, _, i, rfl, hc, g, e1, e2, fun H1 p1 s1 f1 c1 => ⟨l, p1, as, s, q, _, rfl, hs.same s1, hq8, c1, g.punctured e1 e2, ans_goes k (es0.trans (makes_goes hno e)) s1⟩⟩
theorem scShorten : FnScope ["slots", "o", "i", "q"] ["slots", "o", "i", "q"] (defScope sShorten) := ⟨rfl, rfl, rfl, by decide +kernel, rfl, by decide +kernel, by decide +kernel⟩
theorem ok_shorten {f : Addr} {fd : FuncData} (F : Fun K "answer_shorten" "answer_shorten" sShorten f fd) (T : Tx K mg C) (G : Gs mg) (CP : Cal P w K mg base 1 "placed" ["slots", "q", "code"] (spPlaced C)) (CL : Cal P w K mg base 1 "can_lose_bit" ["code", "i"] (spCanLose C)) (CD : Cal P w K mg base 7 "shortened" ["code", "i"] (spMakeI C Cb.shortened)) :
    FnOk P w K mg base CX0 8 f fd ["slots", "o", "i", "q"] (sp3 C .shorten) := by
  obtain ⟨tl, hlast⟩ := G.last
  refine F.ok scShorten (fun vs H Q E h => ?_) (fun cdv A outer s H vs Q E hr h => ?_)
  · obtain ⟨l, as, s, o, i, q, rfl, _⟩ := h; rfl
  · obtain ⟨l, as, s, o, i, q, rfl, hs, k⟩ := h
    have es0 : Cs.step s (.shorten o i q) = Cs.makes s o q (fun (c : Cb.Code) => decide (2 ≤ c.n) && decide (i < c.n)) (fun (c : Cb.Code) => Cb.shortened c i) := rfl
    refine ⟨_, pss_cons (ps_if (pt_cmpR op_gt (pe_callB (call_max2 rfl) rfl G.max boot_max (pa_cons (pv 1) (pa_cons (pv 3) pa_nil))) (pe_glob (v := .int 7) rfl hlast ⟨_, rfl⟩) (nomark _)) (pss_one (ps_ret (pe_lst (pa_cons (pe_un un_neg pe_int) pa_nil)))) pss_nil)
      (pss_cons (ps_if (pt_not (pt_val (pe_cal CL hr rfl (pa_cons (pe_ix ix_list (pv 0) (pv 1) (fun _ _ => rfl)) (pa_cons (pv 2) pa_nil))))) (pss_one (ps_ret (pe_lst (pa_cons (pe_un un_neg pe_int) pa_nil)))) pss_nil)
      (pss_one (ps_ret (pe_cal CP hr rfl (pa_cons (pv 0) (pa_cons (pv 3) (pa_cons (pe_cal CD hr rfl (pa_cons (pe_ix ix_list (pv 0) (pv 1) (fun _ _ => rfl)) (pa_cons (pv 2) pa_nil))) pa_nil))))))), ?_⟩
    refine ⟨_, rfl, _, rfl, _, _, rfl, _, _, rfl, rfl, _, rfl, ite2 (fun c => ?_) fun c => ?_⟩
    · have ho := max2_lt.mp (by simpa using c)
      exact ⟨_, rfl, (by show 1 ≤ sizeLine; decide), fun p' hp => ans_no k hs (es0.trans (makes_no1 ho)) hp⟩
    · have hno : ¬ (Cs.SLOTS ≤ o ∨ Cs.SLOTS ≤ q) := fun z => c (by simpa using max2_lt.mpr z)
      obtain ⟨a, ha, hc, g⟩ := hs.get (lt8 fun z => hno (.inl z))
      have hq8 : q < 8 := lt8 fun z => hno (.inr z)
      refine ⟨_, rfl, _, rfl, l, _, _, _, rfl, rfl, SqL.of hs.lst, atI_nat ha, _, rfl, a, _, i, rfl, hc, _, rfl, ite2 (fun z => ?_) fun z => ?_⟩
      · have e : (decide (2 ≤ (Cs.codeAt s o).n) && decide (i < (Cs.codeAt s o).n)) = false := by simpa only [Bool.not_eq_true'] using z
        exact ⟨_, rfl, (by show 1 ≤ sizeLine; decide), fun p' hp => ans_no k hs (es0.trans (makes_no2 hno e)) hp⟩
      · have e : (decide (2 ≤ (Cs.codeAt s o).n) && decide (i < (Cs.codeAt s o).n)) = true := by simpa using z
        obtain ⟨e1, e2⟩ := Bool.and_eq_true_iff.mp e
        have e1 := of_decide_eq_true e1
        have e2 := of_decide_eq_true e2
        exact ⟨_, rfl, _, rfl, _, rfl, _, rfl, l, _, _, _, rfl, rfl, SqL.of hs.lst, atI_nat ha, _, rfl, a, _, i, rfl, hc, g, e1, e2, fun H1 p1 s1 f1 c1 => ⟨l, p1, as, s, q, _, rfl, hs.same s1, hq8, c1, g.shortened e1 e2, ans_goes k (es0.trans (makes_goes hno e)) s1⟩⟩
theorem scWeights : FnScope ["slots", "o"] ["slots", "o"] (defScope sWeights) := ⟨rfl, rfl, rfl, by decide +kernel, rfl, by decide +kernel, by decide +kernel⟩
theorem one_no {s : Cs.State} {o : Nat} {f : Cb.Code → Cs.Answer} (h : Cs.SLOTS ≤ o) : (s, Cs.ofOne s o f) = (s, Cs.no 1) := by
  unfold Cs.ofOne; rw [if_pos h]
theorem one_is {s : Cs.State} {o : Nat} {f : Cb.Code → Cs.Answer} (h : ¬ Cs.SLOTS ≤ o) : (s, Cs.ofOne s o f) = (s, f (Cs.codeAt s o)) := by
  unfold Cs.ofOne; rw [if_neg h]
theorem ok_weights {f : Addr} {fd : FuncData} (F : Fun K "answer_weights" "answer_weights" sWeights f fd) (T : Tx K mg C) (G : Gs mg) (CW : Cal P w K mg base 1 "words_of" ["code"] (spWords C)) (CC : Cal P w K mg base 2 "counts_by_weight" ["n", "words"] (spCounts K)) : FnOk P w K mg base CX0 3 f fd ["slots", "o"] (sp1 C .weights) := by
  obtain ⟨tl, hlast⟩ := G.last
  refine F.ok scWeights (fun vs H Q E h => ?_) (fun cdv A outer s H vs Q E hr h => ?_)
  · obtain ⟨l, as, s, o, rfl, _⟩ := h; rfl
  · obtain ⟨l, as, s, o, rfl, hs, k⟩ := h
    have es0 : Cs.step s (.weights o) = (s, Cs.ofOne s o fun (c : Cb.Code) => .nums (Cb.weights c)) := rfl
    refine ⟨_, pss_cons (ps_if (pt_cmpR op_gt (pv 1) (pe_glob (v := .int 7) rfl hlast ⟨_, rfl⟩) (nomark _)) (pss_one (ps_ret (pe_lst (pa_cons (pe_un un_neg pe_int) pa_nil)))) pss_nil)
      (pss_one (ps_ret (pe_op op_cat (pe_lst (pa_cons pe_int pa_nil)) (pe_cal CC hr rfl (pa_cons (pe_fld (pe_ix ix_list (pv 0) (pv 1) (fun _ _ => rfl)) rfl) (pa_cons (pe_cal CW hr rfl (pa_cons (pe_ix ix_list (pv 0) (pv 1) (fun _ _ => rfl)) pa_nil)) pa_nil)))))), ?_⟩
    refine ⟨_, rfl, _, _, rfl, rfl, _, rfl, ite2 (fun c => ?_) fun c => ?_⟩
    · have ho : Cs.SLOTS ≤ o := slots_le.mp (by simpa using c)
      exact ⟨_, rfl, (by show 1 ≤ sizeLine; decide), fun p hp => ans_no k hs (es0.trans (one_no ho)) hp⟩
    · have ho : ¬ Cs.SLOTS ≤ o := fun z => c (by simpa using slots_le.mpr z)
      obtain ⟨a, ha, hc, g⟩ := hs.get (lt8 ho)
      have h10 := g.hi
      refine ⟨(by show 1 ≤ sizeLine; decide), fun p hp => ?_⟩
      have s1 := same_new (o := .lst [.int 0]) hp
      obtain ⟨dx, m, h1, h2⟩ := id hc
      refine ⟨_, rfl, _, rfl, l, _, _, _, rfl, rfl, SqL.of (s1 _ _ hs.lst), atI_nat ha, a, C, dx, _, _, rfl, s1 _ _ h1, T.cl, T.nN, cf_n _ _, _, rfl, _, rfl, l, _, _, _, rfl, rfl, SqL.of (s1 _ _ hs.lst), atI_nat ha, a, _, rfl, hc.same s1, good_small g, fun H2 p2 s2 f2 hp2 => ?_⟩
      refine ⟨p2, _, _, rfl, h10, SqL.of hp2, fun x hx => (mem_wds.mp hx).lt g.form.lt, fun H3 p3 s3 f3 hp3 => ?_⟩
      refine ⟨p, p3, _, _, rfl, rfl, s3 _ _ (s2 _ _ upd_same), hp3, ?_, fun q hq => ?_⟩
      · rw [nl_length]
        unfold Cb.spread
        rw [List.length_map, List.length_range]
        exact small (by show 1 + _ ≤ _; omega)
      · refine ans_nums k hs (es0.trans (one_is ho)) (((s1.trans s2).trans s3).trans (same_new hq)) (((s1.trans s2).trans s3).free hq) (upd_same.trans ?_)
        rw [weights_wds (n := (Cs.codeAt s o).n) (F := (Cs.codeAt s o).rows) g.form]; rfl
end
end Sc
end
section
set_option Elab.async false
set_option linter.all false
set_option maxRecDepth 100000
set_option maxHeartbeats 4000000
namespace Sc
open PySem PySem.Spec PyProof.Rows L2 CM
open PySem.W (Codec)
theorem args_maxd (v u : Value) : argsOk "max" ⟨[v], [(Str.ofString "default", u)]⟩ := by
  unfold argsOk
  kernel_rfl
theorem loop_max : (toString "max" ++ toString ".loop" : String) = "max.loop" := by decide
theorem loop_min : (toString "min" ++ toString ".loop" : String) = "min.loop" := by decide
def Gr (ns : List Int) (j : Nat) (M : Int) : Prop := M ∈ ns.take j ∧ ∀ z ∈ ns.take j, z ≤ M
theorem Gr.grow {ns : List Int} {j : Nat} {M v : Int} (g : Gr ns j M) (e : ns[j]? = some v) : Gr ns (j + 1) (if v > M then v else M) := by
  unfold Gr
  rw [take_snoc' e]
  split
  · refine ⟨by simp, fun z hz => ?_⟩
    rcases List.mem_append.mp hz with q | q
    · have := g.2 z q; omega
    · rw [List.mem_singleton.mp q]; exact Int.le_refl _
  · refine ⟨List.mem_append_left _ g.1, fun z hz => ?_⟩
    rcases List.mem_append.mp hz with q | q
    · exact g.2 z q
    · rw [List.mem_singleton.mp q]; omega
section
variable {prog : Program} {w : World} {A : Around} {R : Result → Shared → Prop} {l It S : Addr} {us : List Value} {ns : List Int} {d : Value}
theorem cmp_gt {i j : Int} {t u : Tok} {s : Shared} {Q : Value → Shared → Prop} {E : Value → Shared → Prop} (h : Q (.bool (decide (i > j))) s) : wpAny (model prog w) A (richCompare .Gt (.int i t) (.int j u)) Q E s :=
  CmpOf.ints_gt (P := fun k v => ∃ t, v = Value.int (if k = 0 then i else j) t) (fun k => if k = 0 then i else j) (fun _ _ z => z) 0 1 _ _ s Q E ⟨t, rfl⟩ ⟨u, rfl⟩ h
theorem maxd_loop (hh : A.handled = none) (hlI : l ≠ It) (hSI : S ≠ It) (hSl : S ≠ l) (hi : IntsAre us ns) :
    ∀ (r j : Nat) (s : Shared) (M : Int) (t : Tok) (c : Nat), ns.length - j = r → j ≤ ns.length → s.heap.IsListIter It l j → s.heap.IsList l us.toArray → Gr ns j M →
      s.heap.get? S = some { cls := .type "list", data := .seq #[.int M t, .int M t] c } →
      (∀ h' tk M' t', (∀ b o, b ≠ It → b ≠ S → s.heap.get? b = some o → h'.get? b = some o) → Gr ns ns.length M' → R (.ok (.ret (.int M' t'))) { s with heap := h', toks := tk }) →
      codeAny (model prog w) A (.builtin "max.loop" ⟨[.ref It, .none, .ref S], [(Str.ofString "default", d)]⟩) R s := by
  have W := Walks.list (prog := prog) (w := w) (A := A.in1) hh It l hlI us.toArray
  have hz : us.toArray.size = ns.length := by rw [List.size_toArray]; exact hi.length
  intro r
  induction r with
  | zero =>
    intro j s M t c hr hj it il g hS fin
    have ej : j = ns.length := by omega
    subst ej
    refine codeAny_builtin PySem.F.entry_max_loop ?_
    rw [Around.under_plainId PySem.F.plain_max_loop _]
    refine wpAny_bind (m := seqItems? (.ref S)) (wpAny_seqItems hS rfl ?_)
    refine wpAny_bind (m := tryCatch (pyNext (.ref It)) _) (wpAny_tryCatch (W.done s _ _ ⟨by rw [hz]; exact it, il⟩ fun h1 tk k1 => ?_))
    have hS1 := k1 S _ (by simpa using hSI) hS
    refine wpAny_bind (m := updateSeq S fun _ => #[]) (wpAny_updateSeq hS1 rfl (wpAny_bind (wpAny_letGo (wpAny_pure ?_))))
    exact fin _ tk M t (fun b o n1 n2 e => (Heap.get?_update_other _ _ (Ne.symm n2)).trans (k1 b o (by simpa using n1) e)) g
  | succ r ih =>
    intro j s M t c hr hj it il g hS fin
    have hlt : j < ns.length := by omega
    obtain ⟨v, hv⟩ : ∃ v, ns[j]? = some v := ⟨_, List.getElem?_eq_getElem hlt⟩
    refine codeAny_builtin PySem.F.entry_max_loop ?_
    rw [Around.under_plainId PySem.F.plain_max_loop _]
    refine wpAny_bind (m := seqItems? (.ref S)) (wpAny_seqItems hS rfl ?_)
    refine wpAny_bind (m := tryCatch (pyNext (.ref It)) _) (wpAny_tryCatch (W.item j s _ _ (by rw [hz]; exact hlt) ⟨it, il⟩ fun x h1 tk hP st k1 => ?_))
    obtain ⟨tv, ex⟩ := hi.get j v hv
    have ex' : us[j]? = some x := by simpa using hP
    rw [ex] at ex'
    cases ex'
    have hS1 := k1 S _ (by simpa using hSI) hS
    refine wpAny_bind (m := tryCatch (holding [.int v tv, .int v tv] (richCompare .Gt (.int v tv) (.int M t) >>= _)) _) (wpAny_tryCatch (wpAny_holding (wpAny_bind (cmp_gt ?_))))
    refine wpAny_bind (wpAny_holding (wpAny_truthy_bool (wpAny_bind (wpAny_letGo (wpAny_pure ?_)))))
    have gg := g.grow hv
    by_cases q : v > M
    · rw [if_pos q] at gg
      simp only [decide_eq_true q, if_true]
      refine wpAny_bind (wpAny_updateSeq hS1 rfl (wpAny_bind (wpAny_letGo ?_)))
      rw [loop_max]
      refine wpAny_pure ⟨plainId_quiet PySem.F.plain_max_loop _, ih (j + 1) _ v tv _ (by omega) hlt ?_ ?_ gg (Heap.get?_update_self _ hS1 rfl) fun h2 tk2 M2 t2 k2 g2 => ?_⟩
      · exact st.1.at fun o e => (Heap.get?_update_other _ _ hSI).trans e
      · exact st.2.at fun o e => (Heap.get?_update_other _ _ hSl).trans e
      · exact fin h2 tk2 M2 t2 (fun b o n1 n2 e => k2 b o n1 n2 ((Heap.get?_update_other _ _ (Ne.symm n2)).trans (k1 b o (by simpa using n1) e))) g2
    · rw [if_neg q] at gg
      simp only [decide_eq_false q, Bool.false_eq_true, if_false]
      refine wpAny_bind (wpAny_letGo ?_)
      rw [loop_max]
      refine wpAny_pure ⟨plainId_quiet PySem.F.plain_max_loop _, ih (j + 1) _ M t c (by omega) hlt st.1 st.2 gg hS1 fun h2 tk2 M2 t2 k2 g2 => ?_⟩
      exact fin h2 tk2 M2 t2 (fun b o n1 n2 e => k2 b o n1 n2 (k1 b o (by simpa using n1) e)) g2
theorem maxd_raw {s : Shared} {E : Value → Shared → Prop} {Q : Value → Shared → Prop} (hh : A.handled = none) (il : s.heap.IsList l us.toArray) (hi : IntsAre us ns)
    (h0 : ns = [] → ∀ h' tk, (∀ b o, s.heap.get? b = some o → h'.get? b = some o) → Q d { s with heap := h', toks := tk })
    (h1 : ∀ h' tk M t, (∀ b o, s.heap.get? b = some o → h'.get? b = some o) → Gr ns ns.length M → Q (.int M t) { s with heap := h', toks := tk }) :
    wpAny (model prog w) A (call (.builtin "max") [.ref l] [(Str.ofString "default", d)]) Q E s := by
  have hz : us.toArray.size = ns.length := by rw [List.size_toArray]; exact hi.length
  refine kmk_tree PySem.F.kind_max PySem.F.plain_max PySem.F.entry_max (args_maxd _ _) ?_
  refine wpAny_bind (wpAny_of_eq (t := Builtin.Builtins.bindParams "max" ["key", "default"] 0 ⟨[], [(Str.ofString "default", d)]⟩) (show _ = pure [none, some d] from rfl) ?_)
  refine wpAny_bind (wpAny_pure (wpAny_bind (wpAny_pyIter_list il ?_)))
  refine wpAny_bind (wpAny_newList ?_ (Nat.zero_le _))
  rw [loop_max]
  obtain ⟨ol, hol, _⟩ := id il
  have hll : l < s.heap.objs.size := Heap.lt_size hol
  generalize hI : ({ cls := .type "list_iterator", data := .fields #[.ref l, .int 0 0] } : Obj) = oI
  have hsz : (s.heap.push oI).objs.size = s.heap.objs.size + 1 := Heap.size_push ..
  have hlI : l ≠ s.heap.objs.size := Nat.ne_of_lt hll
  have hSI : (s.heap.push oI).objs.size ≠ s.heap.objs.size := by rw [hsz]; omega
  have hSl : (s.heap.push oI).objs.size ≠ l := by rw [hsz]; exact Nat.ne_of_gt (Nat.lt_succ_of_lt hll)
  have W := Walks.list (prog := prog) (w := w) (A := A.in1) hh s.heap.objs.size l hlI us.toArray
  refine wpAny_pure ⟨plainId_quiet PySem.F.plain_max_loop _, ?_⟩
  generalize hh2 : (s.heap.push oI).push (seqObj "list" #[] 0) = hp
  have old : ∀ b o, s.heap.get? b = some o → hp.get? b = some o := fun b o e => by rw [← hh2]; exact Heap.get?_push_of_some _ (Heap.get?_push_of_some _ e)
  have gI : hp.get? s.heap.objs.size = some oI := by rw [← hh2]; exact Heap.get?_push_of_some _ (Heap.get?_push_size _ (by subst hI; rfl))
  have gS : hp.get? (s.heap.push oI).objs.size = some (seqObj "list" #[] 0) := by rw [← hh2]; exact Heap.get?_push_size _ rfl
  have it0 : hp.IsListIter s.heap.objs.size l 0 := ⟨oI, gI, by subst hI; rfl, by subst hI; rfl⟩
  have il0 : hp.IsList l us.toArray := il.at fun o e => old _ _ e
  have nI : ∀ b o, s.heap.get? b = some o → b ≠ s.heap.objs.size := fun b o e => Nat.ne_of_lt (Heap.lt_size e)
  have nS : ∀ b o, s.heap.get? b = some o → b ≠ (s.heap.push oI).objs.size := fun b o e => by rw [hsz]; exact Nat.ne_of_lt (Nat.lt_succ_of_lt (Heap.lt_size e))
  generalize (s.heap.push oI).objs.size = S at gS hSI hSl nS ⊢
  refine codeAny_builtin PySem.F.entry_max_loop ?_
  rw [Around.under_plainId PySem.F.plain_max_loop _]
  refine wpAny_bind (m := seqItems? (.ref S)) (wpAny_seqItems gS rfl ?_)
  by_cases e0 : ns = []
  · refine wpAny_bind (m := tryCatch (pyNext (.ref s.heap.objs.size)) _) (wpAny_tryCatch (W.done _ _ _ ⟨by rw [hz, e0]; exact it0, il0⟩ fun h1' tk k1 => ?_))
    refine wpAny_bind (wpAny_rule (wpAny_pure ?_))
    exact h0 e0 h1' tk fun b o e => k1 b o (by simpa using nI b o e) (old b o e)
  · have hpos : 0 < ns.length := List.length_pos_iff.mpr e0
    obtain ⟨v, hv⟩ : ∃ v, ns[0]? = some v := ⟨_, List.getElem?_eq_getElem hpos⟩
    refine wpAny_bind (m := tryCatch (pyNext (.ref s.heap.objs.size)) _) (wpAny_tryCatch (W.item 0 _ _ _ (by rw [hz]; exact hpos) ⟨it0, il0⟩ fun x h1' tk hP st k1 => ?_))
    obtain ⟨tv, ex⟩ := hi.get 0 v hv
    have ex' : us[0]? = some x := by simpa using hP
    rw [ex] at ex'
    cases ex'
    have hS1 := k1 S _ (by simpa using hSI) gS
    refine wpAny_bind (m := updateSeq S fun _ => #[.int v tv, .int v tv]) (wpAny_updateSeq hS1 rfl ?_)
    rw [loop_max]
    have g0 : Gr ns 1 v := by
      unfold Gr
      rw [take_snoc' hv]
      simp
    refine wpAny_pure ⟨plainId_quiet PySem.F.plain_max_loop _, maxd_loop hh hlI hSI hSl hi _ 1 _ v tv _ rfl hpos ?_ ?_ g0 (Heap.get?_update_self _ hS1 rfl) fun h2 tk2 M t k2 g2 => ?_⟩
    · exact st.1.at fun o e => (Heap.get?_update_other _ _ hSI).trans e
    · exact st.2.at fun o e => (Heap.get?_update_other _ _ hSl).trans e
    · exact h1 h2 tk2 M t (fun b o e => k2 b o (nI b o e) (nS b o e) ((Heap.get?_update_other _ _ (Ne.symm (nS b o e))).trans (k1 b o (by simpa using nI b o e) (old b o e)))) g2
end
def rMaxD (K : PySem.W.Frag) : List V → V → Hp → VK → Prop := fun vs y H Q => ∃ (a : Addr) (ns : List Int) (d : Int), vs = [V.ref a] ∧ y = .int d ∧ SqL K H a (ns.map V.int) ∧ ∀ M, ((ns = [] ∧ M = d) ∨ Gr ns ns.length M) → Q (.int M) H
theorem ckr_maxd {X : Cx} (hc : X.calm = true) : CallKR X "max" "default" (rMaxD X.K) := by
  intro pins s σ H vs y us u Q I r ry h
  obtain ⟨a, ns, d, rfl, rfl, hs, q1⟩ := h
  obtain ⟨its, rv, hl, _⟩ := I.list hs
  rw [Vals.ref1 r]
  obtain ⟨t, rfl⟩ := ry
  exact maxd_raw (I.ok.hd hc) hl.isList rv.ints (fun e h' tk k => ⟨.int d, H, I.kept k, ⟨t, rfl⟩, q1 d (.inl ⟨e, rfl⟩)⟩) fun h' tk M t' k g => ⟨.int M, H, I.kept k, ⟨t', rfl⟩, q1 M (.inr g)⟩
end Sc
end
section
set_option Elab.async false
set_option linter.all false
set_option maxRecDepth 100000
set_option maxHeartbeats 4000000
namespace Sc
open PySem PySem.Spec PyProof.Rows L2 CM
open PySem.W (Codec)
def spKey (l : List Nat) (k1 k2 : Nat → Nat) : L2.Sp := fun vs H Q _ => ∃ x, vs = [nv x] ∧ x ∈ l ∧ ∀ (H' : Hp) (p : Addr), Same H H' → H' p = some (.tup [nv (k1 x), nv (k2 x)]) → Q (.ref p) H'
def Bf (k1 k2 : Nat → Nat) (x y : Nat) : Prop := k1 x < k1 y ∨ (k1 x = k1 y ∧ k2 x < k2 y)
theorem lex_bf {k1 k2 : Nat → Nat} {x y : Nat} : HT.lexLt [((k1 x : Nat) : Int), ((k2 x : Nat) : Int)] [((k1 y : Nat) : Int), ((k2 y : Nat) : Int)] = true ↔ Bf k1 k2 x y := by
  rw [HT.lexLt_cons, HT.lexLt_cons, HT.lexLt_nil_nil]
  unfold Bf
  split
  · split
    · simp; omega
    · rw [decide_eq_true_eq]; omega
  · rw [decide_eq_true_eq]; omega
theorem Bf.step {k1 k2 : Nat → Nat} {x b z : Nat} (h : Bf k1 k2 x b) (n : ¬ Bf k1 k2 z b) : ¬ Bf k1 k2 z x := by
  unfold Bf at *; omega
section
variable {X : Cx} {l : List Nat} {k1 k2 : Nat → Nat} {a q It S : Addr} {fd : FuncData} {ps : List Str} {k : Nat}
theorem two_ints {m n : Nat} {us : List Value} (h : Vals [nv m, nv n] us) : IntsAre us [(m : Int), (n : Int)] := by
  obtain ⟨t, u, rfl⟩ := Vals.int2 h
  exact .cons _ _ (.cons _ _ .nil)
theorem mink_loop (hc : X.calm = true) (F : FnOk X.prog X.w X.K X.mg X.base CX0 k q fd ps (spKey l k1 k2)) (hb : L2.Binds X.K fd ps []) (hr : Room (k + 1) X.A) (haI : a ≠ It) (hSI : S ≠ It) {pins : List (Addr × Obj)} {σ : L2.St} {H : Hp} {R : Result → Shared → Prop}
    (fin : ∀ (s' : Shared) (H' : Hp) (x : Nat) (t : Tok), Inv X pins σ H' s' → Same H H' → x ∈ l → (∀ z ∈ l, ¬ Bf k1 k2 z x) → R (.ok (.ret (.int x t))) s') :
    ∀ (r j : Nat) (s : Shared) (H1 : Hp) (xb : Nat) (tb : Tok) (kb : Addr) (c : Nat), l.length - j = r → j ≤ l.length → Inv X pins σ H1 s → Same H H1 → SqL X.K H1 a (nl l) → FpOk X pins H1 It → FpOk X pins H1 S → s.heap.IsListIter It a j →
      s.heap.get? S = some { cls := .type "list", data := .seq #[.int xb tb, .ref kb] c } → H1 kb = some (.tup [nv (k1 xb), nv (k2 xb)]) → xb ∈ l → (∀ z ∈ l.take j, ¬ Bf k1 k2 z xb) →
      codeAny (model X.prog X.w) X.A (.builtin "min.loop" ⟨[.ref It, .ref q, .ref S], []⟩) R s := by
  intro r
  induction r with
  | zero =>
    intro j s H1 xb tb kb c hr' hj I sm hL fI fS it gS hk hx best
    have ej : j = l.length := by omega
    subst ej
    obtain ⟨its, rv, pl, _⟩ := I.list hL
    have hz : its.toArray.size = l.length := by rw [List.size_toArray, ← rv.length, nl_length]
    have W := Walks.list (prog := X.prog) (w := X.w) (A := X.A.in1) (I.ok.hd hc) It a haI its.toArray
    refine codeAny_builtin PySem.F.entry_min_loop ?_
    rw [Around.under_plainId PySem.F.plain_min_loop _]
    refine wpAny_bind (m := seqItems? (.ref S)) (wpAny_seqItems gS rfl ?_)
    refine wpAny_bind (m := tryCatch (pyNext (.ref It)) _) (wpAny_tryCatch (W.done s _ _ ⟨by rw [hz]; exact it, pl.isList⟩ fun h1 tk kp => ?_))
    have I1 := I.turned (t' := tk) (fun b o n e => kp b o (by simpa using n) e) fI.1 fI.2.1 fI.2.2.2.1 fI.2.2.2.2.1 fI.2.2.2.2.2
    have gS1 := kp S _ (by simpa using hSI) gS
    refine wpAny_bind (m := updateSeq S fun _ => #[]) (wpAny_updateSeq gS1 rfl (wpAny_bind (wpAny_letGo (wpAny_pure ?_))))
    have I2 := I1.turned (t' := tk) (fun b o n e => (Heap.get?_update_other _ (Obj.mapSeq fun _ => (#[] : Array Value)) (Ne.symm n)).trans e) fS.1 fS.2.1 fS.2.2.2.1 fS.2.2.2.2.1 fS.2.2.2.2.2
    exact fin _ H1 xb tb I2 sm hx (by rwa [List.take_length] at best)
  | succ r ih =>
    intro j s H1 xb tb kb c hr' hj I sm hL fI fS it gS hk hx best
    have hlt : j < l.length := by omega
    obtain ⟨v, hv⟩ : ∃ v, l[j]? = some v := ⟨_, List.getElem?_eq_getElem hlt⟩
    obtain ⟨its, rv, pl, _⟩ := I.list hL
    have hz : its.toArray.size = l.length := by rw [List.size_toArray, ← rv.length, nl_length]
    have W := Walks.list (prog := X.prog) (w := X.w) (A := X.A.in1) (I.ok.hd hc) It a haI its.toArray
    refine codeAny_builtin PySem.F.entry_min_loop ?_
    rw [Around.under_plainId PySem.F.plain_min_loop _]
    refine wpAny_bind (m := seqItems? (.ref S)) (wpAny_seqItems gS rfl ?_)
    refine wpAny_bind (m := tryCatch (pyNext (.ref It)) _) (wpAny_tryCatch (W.item j s _ _ (by rw [hz]; exact hlt) ⟨it, pl.isList⟩ fun u h1 tk hP st kp => ?_))
    obtain ⟨u', eu, ru⟩ := rv.get (i := j) (x := nv v) (by rw [List.getElem?_map, hv]; rfl)
    have eu' : its[j]? = some u := by simpa using hP
    rw [eu] at eu'
    cases eu'
    obtain ⟨tv, rfl⟩ := id ru
    have I1 := I.turned (t' := tk) (fun b o n e => kp b o (by simpa using n) e) fI.1 fI.2.1 fI.2.2.2.1 fI.2.2.2.2.1 fI.2.2.2.2.2
    have gS1 := kp S _ (by simpa using hSI) gS
    obtain ⟨oI, goI, cI, dI⟩ := id st.1
    have I1p := I1.pinned (fp := [It, S]) (fun b hb => by
      rcases List.mem_cons.mp hb with e | hb
      · subst e; exact fI
      · rw [List.mem_singleton.mp hb]; exact fS) (fun b hb => by
      rcases List.mem_cons.mp hb with e | hb
      · subst e; exact ⟨oI, goI, fun z e => by rw [dI] at e; cases e⟩
      · rw [List.mem_singleton.mp hb]; exact ⟨_, gS1, fun z e => nomatch e⟩)
    have hmem : v ∈ l := List.mem_of_getElem? hv
    refine wpAny_bind (m := tryCatch (holding [.int v tv] (call (.ref q) [.int v tv])) _) (wpAny_tryCatch (wpAny_holding ?_))
    have call := F.run X.A.in1 X.stack _ H1 ⟨[.int v tv], []⟩ [.int v tv] [nv v] (fun y H2 => ∃ p, y = .ref p ∧ Same H1 H2 ∧ H2 p = some (.tup [nv (k1 v), nv (k2 v)])) E0 hr.in1 I1p.env0.in1
      (by
        have e := F.len [nv v] H1 (fun y H2 => ∃ p, y = .ref p ∧ Same H1 H2 ∧ H2 p = some (.tup [nv (k1 v), nv (k2 v)])) E0 ⟨v, rfl, hmem, fun H2 p s2 hp => ⟨p, rfl, s2, hp⟩⟩
        have := hb _ [.int v tv] I1p.kIn (by simpa using e)
        simpa using this) (.cons ⟨tv, rfl⟩ .nil) ⟨v, rfl, hmem, fun H2 p s2 hp => ⟨p, rfl, s2, hp⟩⟩
    refine wpAny_call (codeAny_mono call fun res s2 hq => ?_)
    cases res with
    | error e => exact hq.elim
    | ok fl =>
      cases fl with
      | next => exact False.elim hq
      | brk => exact False.elim hq
      | cont => exact False.elim hq
      | ret w' =>
        obtain ⟨y, H2, I2p, ry, p, rfl, s12, hp⟩ := I1p.after hq
        cases ry
        have pI := I2p.pin (It, oI) (List.mem_append_right _ (List.mem_append_right _ (mem_pinsAt (by simp) goI)))
        have pS := I2p.pin (S, _) (List.mem_append_right _ (List.mem_append_right _ (mem_pinsAt (by simp) gS1)))
        have I2 := I2p.unpinned
        have fI2 : FpOk X pins H2 It := ⟨pI.2.1, fI.2⟩
        have fS2 : FpOk X pins H2 S := ⟨pS.2.1, fS.2⟩
        have it2 : s2.heap.IsListIter It a (j + 1) := ⟨oI, pI.1, cI, dI⟩
        have gS2 : s2.heap.get? S = some { cls := .type "list", data := .seq #[.int xb tb, .ref kb] c } := pS.1
        have hk2 := s12 _ _ hk
        obtain ⟨i1, r1, t1, _⟩ := I2.tuple (SqT.of hp)
        obtain ⟨i2, r2, t2, _⟩ := I2.tuple (SqT.of hk2)
        refine wpAny_bind (m := tryCatch (holding [.int v tv, .ref p] (richCompare .Lt (.ref p) (.ref kb) >>= _)) _) (wpAny_tryCatch (wpAny_holding (wpAny_bind ?_)))
        refine HT.lt_tupInts t1 t2 (by simpa using two_ints r1) (by simpa using two_ints r2) hr.in1.units0 ?_
        refine wpAny_bind (wpAny_holding (wpAny_truthy_bool (wpAny_bind (wpAny_letGo (wpAny_pure ?_)))))
        have grow : ∀ b, (∀ z ∈ l.take j, ¬ Bf k1 k2 z b) → ¬ Bf k1 k2 v b → ∀ z ∈ l.take (j + 1), ¬ Bf k1 k2 z b := fun b h1 h2 z hz' => by
          rw [take_snoc' hv] at hz'
          rcases List.mem_append.mp hz' with e | e
          · exact h1 z e
          · rw [List.mem_singleton.mp e]; exact h2
        cases hb' : HT.lexLt [((k1 v : Nat) : Int), ((k2 v : Nat) : Int)] [((k1 xb : Nat) : Int), ((k2 xb : Nat) : Int)] with
        | true =>
          have bf := lex_bf.mp hb'
          simp only [if_true]
          refine wpAny_bind (wpAny_updateSeq gS2 rfl (wpAny_bind (wpAny_letGo ?_)))
          rw [loop_min]
          have I3 := I2.turned (t' := s2.toks) (fun b o n e => (Heap.get?_update_other _ (Obj.mapSeq fun _ => #[.int v tv, .ref p]) (Ne.symm n)).trans e) fS2.1 fS2.2.1 fS2.2.2.2.1 fS2.2.2.2.2.1 fS2.2.2.2.2.2
          refine wpAny_pure ⟨plainId_quiet PySem.F.plain_min_loop _, ih (j + 1) _ H2 v tv p _ (by omega) hlt I3 (sm.trans s12) (s12.seq hL) fI2 fS2 ?_ (Heap.get?_update_self _ gS2 rfl) hp hmem (grow v (fun z hz' => bf.step (best z hz')) fun z => ?_)⟩
          · exact it2.at fun o e => (Heap.get?_update_other _ _ hSI).trans e
          · unfold Bf at z; omega
        | false =>
          have nbf : ¬ Bf k1 k2 v xb := fun z => by rw [lex_bf.mpr z] at hb'; cases hb'
          simp only [Bool.false_eq_true, if_false]
          refine wpAny_bind (wpAny_letGo ?_)
          rw [loop_min]
          exact wpAny_pure ⟨plainId_quiet PySem.F.plain_min_loop _, ih (j + 1) _ H2 xb tb kb c (by omega) hlt I2 (sm.trans s12) (s12.seq hL) fI2 fS2 it2 gS2 hk2 hx (grow xb best nbf)⟩
def rMinK (X : Cx) (k : Nat) (k1 k2 : Nat → Nat) : List V → V → Hp → VK → Prop := fun vs y H Q => ∃ (a q : Addr) (l : List Nat) (fd : FuncData) (ps : List Str), vs = [V.ref a] ∧ y = .ref q ∧ SqL X.K H a (nl l) ∧ l ≠ [] ∧
  FnOk X.prog X.w X.K X.mg X.base CX0 k q fd ps (spKey l k1 k2) ∧ L2.Binds X.K fd ps [] ∧ ∀ (H' : Hp) (x : Nat), Same H H' → x ∈ l → (∀ z ∈ l, ¬ Bf k1 k2 z x) → Q (nv x) H'
theorem ckr_mink (hc : X.calm = true) (hr : Room (k + 1) X.A) : CallKR X "min" "key" (rMinK X k k1 k2) := by
  intro pins s σ H vs y us u Q I r ry h
  obtain ⟨a, q, l, fd, ps, rfl, rfl, hL, hne, F, hb, fin⟩ := h
  rw [Vals.ref1 r]
  cases ry
  obtain ⟨its, rv, pl, _⟩ := I.list hL
  have hz : its.toArray.size = l.length := by rw [List.size_toArray, ← rv.length, nl_length]
  have hpos : 0 < l.length := List.length_pos_iff.mpr hne
  obtain ⟨v, hv⟩ : ∃ v, l[0]? = some v := ⟨_, List.getElem?_eq_getElem hpos⟩
  have hmem : v ∈ l := List.mem_of_getElem? hv
  have hll : a < s.heap.objs.size := by
    obtain ⟨ol, hol, _⟩ := pl.isList
    exact Heap.lt_size hol
  refine kmk_tree PySem.F.kind_min PySem.F.plain_min PySem.F.entry_min (kmk_min_key _ _) ?_
  refine wpAny_bind (wpAny_of_eq (t := Builtin.Builtins.bindParams "min" ["key", "default"] 0 ⟨[], [(Str.ofString "key", .ref q)]⟩) (show _ = pure [some (.ref q), none] from rfl) ?_)
  refine wpAny_bind (wpAny_pure (wpAny_bind (wpAny_pyIter_list pl.isList ?_)))
  refine wpAny_bind (wpAny_newList ?_ (Nat.zero_le _))
  rw [loop_min]
  generalize hI : ({ cls := .type "list_iterator", data := .fields #[.ref a, .int 0 0] } : Obj) = oI
  have hsz : (s.heap.push oI).objs.size = s.heap.objs.size + 1 := Heap.size_push ..
  have haI : a ≠ s.heap.objs.size := Nat.ne_of_lt hll
  have hSI : (s.heap.push oI).objs.size ≠ s.heap.objs.size := by rw [hsz]; omega
  refine wpAny_pure ⟨plainId_quiet PySem.F.plain_min_loop _, ?_⟩
  have fI : FpOk X pins H s.heap.objs.size := I.fpOk (Nat.le_refl _) (I.hok.fresh (Nat.le_refl _))
  have fS : FpOk X pins H (s.heap.push oI).objs.size := I.fpOk (by rw [hsz]; exact Nat.le_succ _) (I.hok.fresh (by rw [hsz]; exact Nat.le_succ _))
  generalize hh2 : (s.heap.push oI).push (seqObj "list" #[] 0) = hp
  have old : ∀ b o, s.heap.get? b = some o → hp.get? b = some o := fun b o e => by rw [← hh2]; exact Heap.get?_push_of_some _ (Heap.get?_push_of_some _ e)
  have gI : hp.get? s.heap.objs.size = some oI := by rw [← hh2]; exact Heap.get?_push_of_some _ (Heap.get?_push_size _ (by subst hI; rfl))
  have gS : hp.get? (s.heap.push oI).objs.size = some (seqObj "list" #[] 0) := by rw [← hh2]; exact Heap.get?_push_size _ rfl
  have I0 : Inv X pins σ H { s with heap := hp } := I.kept (t' := s.toks) old
  have it0 : hp.IsListIter s.heap.objs.size a 0 := ⟨oI, gI, by subst hI; rfl, by subst hI; rfl⟩
  have il0 : hp.IsList a its.toArray := pl.isList.at fun o e => old _ _ e
  generalize s.heap.objs.size = It at fI gI it0 haI hSI ⊢
  generalize (s.heap.push oI).objs.size = S at gS hSI fS ⊢
  have W := Walks.list (prog := X.prog) (w := X.w) (A := X.A.in1) (I.ok.hd hc) It a haI its.toArray
  refine codeAny_builtin PySem.F.entry_min_loop ?_
  rw [Around.under_plainId PySem.F.plain_min_loop _]
  refine wpAny_bind (m := seqItems? (.ref S)) (wpAny_seqItems gS rfl ?_)
  refine wpAny_bind (m := tryCatch (pyNext (.ref It)) _) (wpAny_tryCatch (W.item 0 _ _ _ (by rw [hz]; exact hpos) ⟨it0, il0⟩ fun u h1 tk hP st kp => ?_))
  obtain ⟨u', eu, ru⟩ := rv.get (i := 0) (x := nv v) (by rw [List.getElem?_map, hv]; rfl)
  have eu' : its[0]? = some u := by simpa using hP
  rw [eu] at eu'
  cases eu'
  obtain ⟨tv, rfl⟩ := id ru
  have I1 := I0.turned (t' := tk) (fun b o n e => kp b o (by simpa using n) e) fI.1 fI.2.1 fI.2.2.2.1 fI.2.2.2.2.1 fI.2.2.2.2.2
  have gS1 := kp S _ (by simpa using hSI) gS
  obtain ⟨o2, go2, c2, d2⟩ := id st.1
  have I1p := I1.pinned (fp := [It, S]) (fun b hb => by
    rcases List.mem_cons.mp hb with e | hb
    · subst e; exact fI
    · rw [List.mem_singleton.mp hb]; exact fS) (fun b hb => by
    rcases List.mem_cons.mp hb with e | hb
    · subst e; exact ⟨o2, go2, fun z e => by rw [d2] at e; cases e⟩
    · rw [List.mem_singleton.mp hb]; exact ⟨_, gS1, fun z e => nomatch e⟩)
  refine wpAny_bind (m := tryCatch (holding [.int v tv] (call (.ref q) [.int v tv])) _) (wpAny_tryCatch (wpAny_holding ?_))
  have call := F.run X.A.in1 X.stack _ H ⟨[.int v tv], []⟩ [.int v tv] [nv v] (fun y H2 => ∃ p, y = .ref p ∧ Same H H2 ∧ H2 p = some (.tup [nv (k1 v), nv (k2 v)])) E0 hr.in1 I1p.env0.in1
    (by
      have e := F.len [nv v] H (fun y H2 => ∃ p, y = .ref p ∧ Same H H2 ∧ H2 p = some (.tup [nv (k1 v), nv (k2 v)])) E0 ⟨v, rfl, hmem, fun H2 p s2 hp => ⟨p, rfl, s2, hp⟩⟩
      have := hb _ [.int v tv] I1p.kIn (by simpa using e)
      simpa using this) (.cons ⟨tv, rfl⟩ .nil) ⟨v, rfl, hmem, fun H2 p s2 hp => ⟨p, rfl, s2, hp⟩⟩
  refine wpAny_call (codeAny_mono call fun res s2 hq => ?_)
  cases res with
  | error e => exact hq.elim
  | ok fl =>
    cases fl with
    | next => exact False.elim hq
    | brk => exact False.elim hq
    | cont => exact False.elim hq
    | ret w' =>
      obtain ⟨y, H2, I2p, ry, p, rfl, s12, hp'⟩ := I1p.after hq
      cases ry
      have pI := I2p.pin (It, o2) (List.mem_append_right _ (List.mem_append_right _ (mem_pinsAt (by simp) go2)))
      have pS := I2p.pin (S, _) (List.mem_append_right _ (List.mem_append_right _ (mem_pinsAt (by simp) gS1)))
      have I2 := I2p.unpinned
      have fI2 : FpOk X pins H2 It := ⟨pI.2.1, fI.2⟩
      have fS2 : FpOk X pins H2 S := ⟨pS.2.1, fS.2⟩
      have gS2 : s2.heap.get? S = some (seqObj "list" #[] 0) := pS.1
      have it2 : s2.heap.IsListIter It a 1 := ⟨o2, pI.1, c2, d2⟩
      refine wpAny_bind (m := updateSeq S fun _ => #[.int v tv, .ref p]) (wpAny_updateSeq gS2 rfl ?_)
      rw [loop_min]
      have I3 := I2.turned (t' := s2.toks) (fun b o n e => (Heap.get?_update_other _ (Obj.mapSeq fun _ => #[.int v tv, .ref p]) (Ne.symm n)).trans e) fS2.1 fS2.2.1 fS2.2.2.2.1 fS2.2.2.2.2.1 fS2.2.2.2.2.2
      refine wpAny_pure ⟨plainId_quiet PySem.F.plain_min_loop _, mink_loop hc F hb hr haI hSI (fun s' H' x t I' sm hx best => ⟨nv x, H', I', ⟨t, rfl⟩, fin H' x sm hx best⟩) _ 1 _ H2 v tv p _ rfl hpos I3 s12 (s12.seq hL) fI2 fS2 ?_ (Heap.get?_update_self _ gS2 rfl) hp' hmem fun z hz' => ?_⟩
      · exact it2.at fun o e => (Heap.get?_update_other _ _ hSI).trans e
      · rw [take_snoc' hv] at hz'
        have e : z = v := by simpa using hz'
        subst e
        unfold Bf; omega
end
end Sc
end
section
set_option Elab.async false
set_option linter.all false
set_option maxRecDepth 100000
set_option maxHeartbeats 4000000
namespace Sc
open PySem PySem.Spec PyProof.Rows L2 CM
open PySem.W (Codec)
def spByWeight : L2.Sp := fun vs H Q _ => ∃ x n : Nat, vs = [nv x] ∧ x < 2 ^ n ∧ ∀ (H' : Hp) (p : Addr), Same H H' → H p = none → H' p = some (.tup [nv (Cb.weight n x), nv x]) → Q (.ref p) H'
def spPut (K : PySem.W.Frag) (C : Addr) : L2.Sp := fun vs H Q _ => ∃ (l a : Addr) (as : List Addr) (s : Cs.State) (o n : Nat) (rows : List Nat), vs = [.ref l, nv o, nv n, .ref a] ∧ SlotsAt C H l as s ∧ SqL K H a (nl rows) ∧ AnsOk C l H s Q (.put o n rows)
theorem gr_lt {rows : List Nat} {n : Nat} {M : Int} (g : Gr (rows.map fun (z : Nat) => (z : Int)) (rows.map fun (z : Nat) => (z : Int)).length M) : ((2 ^ n : Nat) : Int) ≤ M ↔ rows.all (fun (r : Nat) => decide (r < 2 ^ n)) = false := by
  unfold Gr at g
  rw [List.take_length] at g
  obtain ⟨m, hm, rfl⟩ := List.mem_map.mp g.1
  constructor
  · intro h
    refine Bool.eq_false_iff.mpr fun q => ?_
    have := of_decide_eq_true (List.all_eq_true.mp q m hm)
    omega
  · intro h
    refine Int.not_lt.mp fun q => ?_
    have : rows.all (fun (r : Nat) => decide (r < 2 ^ n)) = true := List.all_eq_true.mpr fun r hr => by
      have := g.2 (r : Int) (List.mem_map.mpr ⟨r, hr, rfl⟩)
      exact decide_eq_true (by omega)
    rw [this] at h; cases h
section
variable {P : Program} {w : World} {K : PySem.W.Frag} {mg : Str → Option Value} {base : Heap} {C : Addr}
theorem scByWeight : FnScope ["word"] ["word"] (defScope sByWeight) := ⟨rfl, rfl, rfl, by decide +kernel, rfl, by decide +kernel, by decide +kernel⟩
theorem ok_byWeight {f : Addr} {fd : FuncData} (F : Fun K "by_weight" "by_weight" sByWeight f fd) (CG : Cal P w K mg base 1 "weight" ["word"] spWeight) : FnOk P w K mg base CX0 2 f fd ["word"] spByWeight := by
  refine F.ok scByWeight (fun vs H Q E h => ?_) (fun cdv A outer s H vs Q E hr h => ?_)
  · obtain ⟨x, n, rfl, _⟩ := h; rfl
  · obtain ⟨x, n, rfl, hx, k⟩ := h
    refine ⟨_, pss_one (ps_ret (pe_tup (pa_cons (pe_cal CG hr rfl (pa_cons (pv 0) pa_nil)) (pa_cons (pv 0) pa_nil)))), ?_⟩
    exact ⟨_, rfl, x, n, rfl, hx, _, rfl, (by show 2 ≤ sizeLine; decide), fun p hp => k _ p (same_new hp) hp upd_same⟩
theorem scLeast : FnScope ["slots", "o", "word", "others"] ["slots", "o"] (defScope sLeast) := ⟨rfl, rfl, rfl, by decide +kernel, rfl, by decide +kernel, by decide +kernel⟩
theorem ok_least {f : Addr} {fd : FuncData} (F : Fun K "answer_least" "answer_least" sLeast f fd) (T : Tx K mg C) (G : Gs mg) (CW : Cal P w K mg base 1 "words_of" ["code"] (spWords C)) (CG : Cal P w K mg base 1 "weight" ["word"] spWeight) (CB : Cal P w K mg base 2 "by_weight" ["word"] spByWeight) :
    FnOk P w K mg base CX0 4 f fd ["slots", "o"] (sp1 C .least) := by
  obtain ⟨tl, hlast⟩ := G.last
  obtain ⟨fb, fdb, FB, mb, kb, bb⟩ := CB.ex
  refine F.ok scLeast (fun vs H Q E h => ?_) (fun cdv A outer s H vs Q E hr h => ?_)
  · obtain ⟨l, as, s, o, rfl, _⟩ := h; rfl
  · obtain ⟨l, as, s, o, rfl, hs, k⟩ := h
    have es0 : Cs.step s (.least o) = (s, Cs.ofOne s o fun (c : Cb.Code) => match Cb.least c with
      | none => Cs.no 5
      | some x => .nums [Cb.weight c.n x, x]) := rfl
    refine ⟨_, pss_cons (ps_if (pt_cmpR op_gt (pv 1) (pe_glob (v := .int 7) rfl hlast ⟨_, rfl⟩) (nomark _)) (pss_one (ps_ret (pe_lst (pa_cons (pe_un un_neg pe_int) pa_nil)))) pss_nil)
      (pss_cons (ps_setLc (i := 3) (own := [("word", 2)]) rfl scLeast.nd rfl rfl (sw_true rfl rfl rfl rfl) (pi_list (pe_cal CW hr rfl (pa_cons (pe_ix ix_list (pv 0) (pv 1) (fun _ _ => rfl)) pa_nil))) (blkOk_by (by show blkC ["slots", "o", "word", "others"] (defScope sLeast) _ _ = true; decide +kernel)) (fun _ _ _ _ _ => pg_name (i := 2) scLeast.nd rfl (Or.inl rfl))
        (fun _ _ _ _ _ => pts_one (pt_cmpR op_gt (pv 2) pe_int (nomark _))) (fun _ _ _ _ _ => pv 2))
      (pss_cons (ps_if (pt_cmpR op_eq (pe_callB call_len_seq rfl G.len boot_len (pa_cons (pv 3) pa_nil)) pe_int (nomark _)) (pss_one (ps_ret (pe_lst (pa_cons (pe_un un_neg pe_int) pa_nil)))) pss_nil)
      (pss_cons (ps_set (i := 2) scLeast.nd rfl (Or.inl rfl) (pe_callBK (ckr_mink (k := 2) (k1 := Cb.weight (Cs.codeAt s o).n) (k2 := id) rfl hr) rfl G.min boot_min (pa_cons (pv 3) pa_nil) (pe_glob (v := .ref fb) rfl mb rfl)))
      (pss_one (ps_ret (pe_lst (pa_cons pe_int (pa_cons (pe_cal CG hr rfl (pa_cons (pv 2) pa_nil)) (pa_cons (pv 2) pa_nil))))))))), ?_⟩
    refine ⟨_, rfl, _, _, rfl, rfl, _, rfl, ite2 (fun c => ?_) fun c => ?_⟩
    · have ho : Cs.SLOTS ≤ o := slots_le.mp (by simpa using c)
      exact ⟨_, rfl, (by show 1 ≤ sizeLine; decide), fun p hp => ans_no k hs (es0.trans (one_no ho)) hp⟩
    · have ho : ¬ Cs.SLOTS ≤ o := fun z => c (by simpa using slots_le.mpr z)
      obtain ⟨a, ha, hc, g⟩ := hs.get (lt8 ho)
      generalize hcd : Cs.codeAt s o = cd at hc g ⊢
      refine ⟨_, rfl, _, rfl, l, _, _, _, rfl, rfl, SqL.of hs.lst, atI_nat ha, a, cd, rfl, hc, good_small g, fun H1 pw s1 _ hpw => ?_⟩
      refine ⟨pw, rfl, ⟨_, SqL.of hpw⟩, fun D hD => lc_nats (K := K) (a := pw) (l := wds cd.rows) (p := fun x => decide (0 < x)) (f := id) hD (fun H' q => SqL.of (q _ _ hpw)) ?_ ?_ ?_⟩
      · rw [length_wds]
        exact Nat.lt_of_le_of_lt (show 2 ^ _ ≤ 2 ^ 10 from Nat.pow_le_pow_right (by decide) (good_small g)) (by decide)
      · intro x hx H' sm Y N hY hN
        refine ⟨rfl, _, rfl, _, _, rfl, rfl, _, rfl, ite2 (fun q => ?_) fun q => ?_⟩
        · have : 0 < x := by simpa using q
          exact ⟨_, rfl, hY (decide_eq_true this) H' (Same.refl _)⟩
        · have : ¬ 0 < x := by simpa using q
          exact hN (decide_eq_false this) H' (Same.refl _)
      · intro H2 s2 hD2
        rw [List.map_id] at hD2
        have mem : ∀ x, x ∈ (wds cd.rows).filter (fun x => decide (0 < x)) ↔ CM.Sp cd.rows x ∧ x ≠ 0 := fun x => by
          rw [List.mem_filter, mem_wds, decide_eq_true_eq]
          exact and_congr_right fun _ => Nat.pos_iff_ne_zero
        refine ⟨_, rfl, D, _, rfl, .inl (SqL.of hD2), rfl, _, rfl, ite2 (fun z => ?_) fun z => ?_⟩
        · have e0 : (wds cd.rows).filter (fun x => decide (0 < x)) = [] := by
            have : V.int ((nl ((wds cd.rows).filter fun x => decide (0 < x))).length : Nat) = V.int 0 := by simpa using z
            have := V.int.inj this
            rw [nl_length] at this
            exact List.length_eq_zero_iff.mp (by omega)
          have en : Cb.least cd = none := least_none g.form fun y hy => by
            refine Decidable.byContradiction fun n => ?_
            have := (mem y).mpr ⟨hy, n⟩
            rw [e0] at this; cases this
          have es : Cs.step s (.least o) = (s, Cs.no 5) := by
            rw [es0, one_is ho, hcd, en]
          exact ⟨_, rfl, (by show 1 ≤ sizeLine; decide), fun p hp => ans_no (fun H' q as' h1 h2 h3 h4 => k H' q as' h1 ((KeepBut.of (s1.trans s2)).trans h2) ((s1.trans s2).free h3) h4) (hs.same (s1.trans s2)) es hp⟩
        · have hne : (wds cd.rows).filter (fun x => decide (0 < x)) ≠ [] := fun e => by
            rw [e] at z; exact z (by simp)
          refine ⟨_, rfl, D, fb, _, fdb, ["word"], rfl, rfl, SqL.of hD2, hne, ?_, bb, fun H3 x s3 hx best => ?_⟩
          · refine FB.imp fun vs H' Q' E' h => ?_
            obtain ⟨x, rfl, hx, q⟩ := h
            exact ⟨x, cd.n, rfl, ((mem x).mp hx).1.lt g.form.lt, fun H'' p sm _ hp => q H'' p sm hp⟩
          · obtain ⟨hx1, hx0⟩ := (mem x).mp hx
            have el : Cb.least cd = some x := least_eq g.form hx1 hx0 fun y hy h0 => by
              have := best y ((mem y).mpr ⟨hy, h0⟩)
              unfold Bf at this
              unfold Lx
              simp only [id] at this
              omega
            have es : Cs.step s (.least o) = (s, .nums [Cb.weight cd.n x, x]) := by
              rw [es0, one_is ho, hcd, el]
            refine ⟨_, rfl, x, cd.n, rfl, hx1.lt g.form.lt, _, rfl, (by show 3 ≤ sizeLine; decide), fun p hp => ?_⟩
            have s123 := (s1.trans s2).trans s3
            exact ans_nums k hs es (s123.trans (same_new hp)) (s123.free hp) (upd_same.trans rfl)
theorem scPut : FnScope ["slots", "o", "n", "rows"] ["slots", "o", "n", "rows"] (defScope sPut) := ⟨rfl, rfl, rfl, by decide +kernel, rfl, by decide +kernel, by decide +kernel⟩
theorem ok_put {f : Addr} {fd : FuncData} (F : Fun K "answer_put" "answer_put" sPut f fd) (T : Tx K mg C) (G : Gs mg) (M : MkC P w K mg base 5 C) (CP : Cal P w K mg base 1 "placed" ["slots", "q", "code"] (spPlaced C)) :
    FnOk P w K mg base CX0 8 f fd ["slots", "o", "n", "rows"] (spPut K C) := by
  obtain ⟨tl, hlast⟩ := G.last
  obtain ⟨tb, hbits⟩ := G.bits
  obtain ⟨tr, hrows⟩ := G.rows
  refine F.ok scPut (fun vs H Q E h => ?_) (fun cdv A outer s H vs Q E hr h => ?_)
  · obtain ⟨l, a, as, s, o, n, rows, rfl, _⟩ := h; rfl
  · obtain ⟨l, a, as, s, o, n, rows, rfl, hs, hS, k⟩ := h
    have es0 : Cs.step s (.put o n rows) = if Cs.SLOTS ≤ o ∨ n < 1 ∨ Cb.LONG < n ∨ Cs.ROWS < rows.length ∨ rows.all (fun (r : Nat) => decide (r < 2 ^ n)) = false then (s, Cs.no 1) else Cs.goes s o ⟨n, Cb.formOf n rows⟩ := rfl
    refine ⟨_, pss_cons (ps_if (PW.pt (pw_or (pt_cmpR op_gt (pv 1) (pe_glob (v := .int 7) rfl hlast ⟨_, rfl⟩) (nomark _)) (pw_or (pt_cmpR op_lt (pv 2) pe_int (nomark _)) (pw_or (pt_cmpR op_gt (pv 2) (pe_glob (v := .int 10) rfl hbits ⟨_, rfl⟩) (nomark _))
          (pw_or1 (pt_cmpR op_gt (pe_callB call_len_seq rfl G.len boot_len (pa_cons (pv 3) pa_nil)) (pe_glob (v := .int 64) rfl hrows ⟨_, rfl⟩) (nomark _))))))) (pss_one (ps_ret (pe_lst (pa_cons (pe_un un_neg pe_int) pa_nil)))) pss_nil)
      (pss_cons (ps_if (pt_cmpR op_ge (pe_callBK (ckr_maxd rfl) rfl G.max boot_max (pa_cons (pv 3) pa_nil) pe_int) (pe_op op_shl pe_int (pv 2)) (nomark _)) (pss_one (ps_ret (pe_lst (pa_cons (pe_un un_neg pe_int) pa_nil)))) pss_nil)
      (pss_one (ps_ret (pe_cal CP hr rfl (pa_cons (pv 0) (pa_cons (pv 1) (pa_cons (pe_code M T hr rfl (pa_cons (pv 2) (pa_cons (pv 3) pa_nil))) pa_nil))))))), ?_⟩
    have no1 : (Cs.SLOTS ≤ o ∨ n < 1 ∨ Cb.LONG < n ∨ Cs.ROWS < rows.length ∨ rows.all (fun (r : Nat) => decide (r < 2 ^ n)) = false) → ∀ p, H p = none → Q (.ref p) (upd H p (.lst [V.int (-((1 : Nat) : Int))])) := fun h p hp =>
      ans_no k hs (by rw [es0, if_pos h]) hp
    refine ⟨_, rfl, _, _, rfl, rfl, _, rfl, ite2 (fun c => ?_) fun c => ?_⟩
    · exact ⟨_, rfl, (by show 1 ≤ sizeLine; decide), no1 (.inl (slots_le.mp (by simpa using c)))⟩
    · have c1 : ¬ Cs.SLOTS ≤ o := fun z => c (by simpa using slots_le.mpr z)
      refine ⟨_, rfl, _, _, rfl, rfl, _, rfl, ite2 (fun c => ?_) fun c => ?_⟩
      · have : (n : Int) < 1 := by simpa using c
        exact ⟨_, rfl, (by show 1 ≤ sizeLine; decide), no1 (.inr (.inl (by omega)))⟩
      · have c2 : ¬ n < 1 := fun z => c (decide_eq_true (show (n : Int) < 1 by omega))
        refine ⟨_, rfl, _, _, rfl, rfl, _, rfl, ite2 (fun c => ?_) fun c => ?_⟩
        · have : (10 : Int) < (n : Int) := by simpa using c
          exact ⟨_, rfl, (by show 1 ≤ sizeLine; decide), no1 (.inr (.inr (.inl (by unfold Cb.LONG; omega))))⟩
        · have c3 : ¬ 10 < n := fun z => c (decide_eq_true (show (10 : Int) < (n : Int) by omega))
          refine ⟨_, rfl, a, _, rfl, .inl hS, _, _, rfl, rfl, _, rfl, ite2 (fun c => ?_) fun c => ?_⟩
          · have : (64 : Int) < ((nl rows).length : Int) := by simpa using c
            rw [nl_length] at this
            exact ⟨_, rfl, (by show 1 ≤ sizeLine; decide), no1 (.inr (.inr (.inr (.inl (by unfold Cs.ROWS; omega)))))⟩
          · have c4 : ¬ 64 < rows.length := fun z => c (decide_eq_true (show (64 : Int) < ((nl rows).length : Int) by rw [nl_length]; omega))
            have e2 : (1 : Int) * 2 ^ (n : Int).toNat = ((2 ^ n : Nat) : Int) := by
              have := shl_nat 1 n
              rw [Nat.one_mul] at this
              exact this
            refine ⟨_, rfl, a, rows.map (fun (z : Nat) => (z : Int)), 0, rfl, rfl, by rw [← nl_ints]; exact hS, fun M' hM => ?_⟩
            have lim : ((2 ^ n : Nat) : Int) ≤ M' ↔ rows.all (fun (r : Nat) => decide (r < 2 ^ n)) = false := by
              rcases hM with ⟨e, rfl⟩ | g
              · have e' : rows = [] := by
                  cases rows with
                  | nil => rfl
                  | cons x r => cases e
                subst e'
                have := Nat.two_pow_pos n
                constructor
                · intro h; omega
                · intro h; cases h
              · exact gr_lt g
            refine ⟨_, rfl, _, _, rfl, rfl, ⟨by omega, by omega, by decide⟩, _, _, rfl, rfl, _, rfl, ite2 (fun c => ?_) fun c => ?_⟩
            · have : (1 : Int) * 2 ^ (n : Int).toNat ≤ M' := of_decide_eq_true c
              rw [e2] at this
              exact ⟨_, rfl, (by show 1 ≤ sizeLine; decide), no1 (.inr (.inr (.inr (.inr (lim.mp this)))))⟩
            · have c5 : ¬ rows.all (fun (r : Nat) => decide (r < 2 ^ n)) = false := fun z => c (decide_eq_true (show (1 : Int) * 2 ^ (n : Int).toNat ≤ M' by rw [e2]; exact lim.mpr z))
              have hlt : ∀ r ∈ rows, r < 2 ^ n := by simpa using c5
              have es : Cs.step s (.put o n rows) = Cs.goes s o ⟨n, Cb.formOf n rows⟩ := by
                rw [es0, if_neg]
                rintro (z | z | z | z | z)
                · exact c1 z
                · exact c2 z
                · exact c3 (by unfold Cb.LONG at z; exact z)
                · exact c4 (by unfold Cs.ROWS at z; exact z)
                · exact c5 z
              refine ⟨_, rfl, _, rfl, _, rfl, _, rfl, code_read (C := C) (Q := fun v H2 => spPlaced C [.ref l, nv o, v] H2 Q E0) hS (by omega) hlt fun H1 p1 s1 f1 hc1 => ?_⟩
              exact ⟨l, p1, as, s, o, _, rfl, hs.same s1, lt8 c1, hc1, .mk' (by omega) (by omega) hlt, ans_goes k es s1⟩
end
end Sc
end
section
namespace CM
open Cb
theorem lt_by_bit {a b : Nat} (i : Nat) (ha : a.testBit i = false) (hb : b.testBit i = true) (h : ∀ j, i < j → a.testBit j = b.testBit j) : a < b := by
  have e : a / 2 ^ (i + 1) = b / 2 ^ (i + 1) := Nat.eq_of_testBit_eq fun j => by
    rw [Nat.testBit_div_two_pow, Nat.testBit_div_two_pow]; exact h _ (by omega)
  have l1 : a % 2 ^ (i + 1) < 2 ^ i := Nat.lt_pow_two_of_testBit _ fun j hj => by
    rw [Nat.testBit_mod_two_pow]
    rcases Nat.lt_or_eq_of_le hj with q | q
    · rw [decide_eq_false (by omega), Bool.false_and]
    · rw [← q, ha, Bool.and_false]
  have l2 : 2 ^ i ≤ b % 2 ^ (i + 1) := Nat.ge_two_pow_of_testBit (by rw [Nat.testBit_mod_two_pow, hb, decide_eq_true (by omega)]; rfl)
  have e1 := Nat.div_add_mod a (2 ^ (i + 1))
  have e2 := Nat.div_add_mod b (2 ^ (i + 1))
  rw [e] at e1
  omega
theorem xor_less {x r : Nat} (h0 : r ≠ 0) (h : x.testBit r.log2 = true) : x ^^^ r < x :=
  lt_by_bit r.log2 (by rw [Nat.testBit_xor, h, tb_hi h0]; rfl) h fun j hj => by rw [Nat.testBit_xor, tb_above hj, Bool.xor_false]
theorem rdc_le : ∀ {F : List Nat}, (∀ r ∈ F, r ≠ 0) → ∀ x, rdc F x ≤ x
  | [], _, x => Nat.le_refl x
  | r :: F, h, x => by
    show rdc F (if x.testBit r.log2 = true then x ^^^ r else x) ≤ x
    have ih := rdc_le (F := F) fun s q => h s (List.mem_cons_of_mem _ q)
    split
    · rename_i q
      exact Nat.le_trans (ih _) (Nat.le_of_lt (xor_less (h r List.mem_cons_self) q))
    · exact ih x
theorem IsForm.rdc_same {n : Nat} {F : List Nat} (h : IsForm n F) {x y : Nat} : rdc F x = rdc F y ↔ Sp F (x ^^^ y) := by
  constructor
  · intro e
    have a := (rdc_sp F x).xor (rdc_sp F y)
    rwa [e, Nat.xor_comm y, ← Nat.xor_assoc, xor_cancel] at a
  · intro q
    refine h.rdc_eq ?_ (h.rdc_top y)
    have a := q.xor (rdc_sp F y)
    rwa [← Nat.xor_assoc, xor_cancel] at a
theorem IsForm.rdc_idem {n : Nat} {F : List Nat} (h : IsForm n F) (x : Nat) : rdc F (rdc F x) = rdc F x := by
  refine h.rdc_same.mpr ?_
  rw [Nat.xor_comm]; exact rdc_sp F x
theorem Lx.le {f : Nat → Nat} {x y : Nat} (h : Lx f x y) : f x ≤ f y := by unfold Lx at h; omega
theorem lighter_iff {n x y : Nat} : lighter n x y = true ↔ Lx (weight n) x y ∧ x ≠ y := by
  unfold lighter Lx
  rw [Bool.or_eq_true, Bool.and_eq_true, decide_eq_true_eq, decide_eq_true_eq, beq_iff_eq]
  constructor
  · rintro (h | ⟨h1, h2⟩)
    · exact ⟨.inl h, fun e => by subst e; omega⟩
    · exact ⟨.inr ⟨h1, by omega⟩, by omega⟩
  · rintro ⟨h | ⟨h1, h2⟩, h3⟩
    · exact .inl h
    · exact .inr ⟨h1, by omega⟩
theorem lead_fold (n y : Nat) : ∀ (l : List Nat) (b : Nat), let m := l.foldl (fun (b x : Nat) => if lighter n (plus y x) b = true then plus y x else b) b
    (m = b ∨ ∃ x ∈ l, m = y ^^^ x) ∧ Lx (weight n) m b ∧ ∀ x ∈ l, Lx (weight n) m (y ^^^ x)
  | [], b => ⟨.inl rfl, .refl b, by simp⟩
  | x :: l, b => by
    obtain ⟨h1, h2, h3⟩ := lead_fold n y l (if lighter n (plus y x) b = true then plus y x else b)
    by_cases q : lighter n (plus y x) b = true
    · simp only [List.foldl_cons]
      rw [if_pos q] at h1 h2 h3 ⊢
      refine ⟨.inr ?_, h2.trans (lighter_iff.mp q).1, fun z hz => ?_⟩
      · rcases h1 with h1 | ⟨z, hz, h1⟩
        · exact ⟨x, List.mem_cons_self, h1⟩
        · exact ⟨z, List.mem_cons_of_mem _ hz, h1⟩
      · rcases List.mem_cons.mp hz with rfl | hz
        · exact h2
        · exact h3 z hz
    · simp only [List.foldl_cons]
      rw [if_neg q] at h1 h2 h3 ⊢
      refine ⟨?_, h2, fun z hz => ?_⟩
      · rcases h1 with h1 | ⟨z, hz, h1⟩
        · exact .inl h1
        · exact .inr ⟨z, List.mem_cons_of_mem _ hz, h1⟩
      · rcases List.mem_cons.mp hz with rfl | hz
        · refine h2.trans ?_
          rcases Lx.total (weight n) (y ^^^ z) b with a | a
          · by_cases e : y ^^^ z = b
            · rw [e]; exact .refl _
            · exact absurd (lighter_iff.mpr ⟨a, e⟩) q
          · exact a
        · exact h3 z hz
section
variable {c : Code}
theorem xor_swap (x y : Nat) : y ^^^ x ^^^ y = x := by rw [Nat.xor_comm y x, xor_cancel]
theorem leader_spec (g : IsForm c.n c.rows) (y : Nat) : Sp c.rows (leader c y ^^^ y) ∧ ∀ z, Sp c.rows (z ^^^ y) → Lx (weight c.n) (leader c y) z := by
  obtain ⟨h1, h2, h3⟩ := lead_fold c.n y (wordsOf c) y
  refine ⟨?_, fun z hz => ?_⟩
  · show Sp c.rows ((wordsOf c).foldl _ y ^^^ y)
    rcases h1 with h1 | ⟨x, hx, h1⟩
    · rw [h1, Nat.xor_self]; exact .zero
    · rw [h1, xor_swap]; exact (mem_wordsOf (n := c.n) (F := c.rows) g).mp hx
  · have := h3 (z ^^^ y) ((mem_wordsOf (n := c.n) (F := c.rows) g).mpr hz)
    rwa [Nat.xor_comm z y, xor_cancel'] at this
theorem leader_eq (g : IsForm c.n c.rows) {y m : Nat} (h1 : Sp c.rows (m ^^^ y)) (h2 : ∀ z, Sp c.rows (z ^^^ y) → Lx (weight c.n) m z) : leader c y = m :=
  ((leader_spec g y).2 m h1).antisymm (h2 _ (leader_spec g y).1)
theorem leader_congr (g : IsForm c.n c.rows) {x y : Nat} (h : Sp c.rows (x ^^^ y)) : leader c x = leader c y := by
  obtain ⟨h1, h2⟩ := leader_spec g y
  refine leader_eq g ?_ fun z hz => h2 z ?_
  · have := h1.xor h
    rwa [Nat.xor_comm x y, Nat.xor_assoc, xor_cancel'] at this
  · have := hz.xor h
    rwa [← Nat.xor_assoc, xor_cancel] at this
theorem leader_lt (g : IsForm c.n c.rows) {y : Nat} (h : y < 2 ^ c.n) : leader c y < 2 ^ c.n := by
  have := Nat.xor_lt_two_pow ((leader_spec g y).1.lt g.lt) h
  rwa [xor_cancel] at this
theorem leader_rdc (g : IsForm c.n c.rows) (y : Nat) : leader c (rdc c.rows y) = leader c y :=
  leader_congr g (by rw [Nat.xor_comm]; exact rdc_sp _ _)
theorem rdc_leader (g : IsForm c.n c.rows) (y : Nat) : rdc c.rows (leader c y) = rdc c.rows y := g.rdc_same.mpr (leader_spec g y).1
theorem leader_leader (g : IsForm c.n c.rows) (y : Nat) : leader c (leader c y) = leader c y := leader_congr g (leader_spec g y).1
theorem near_spec (g : IsForm c.n c.rows) (y : Nat) : Sp c.rows (near c y) ∧ ∀ z, Sp c.rows z → Lx (far c.n y) (near c y) z := by
  unfold near
  cases e : leastBy (far c.n y) (wordsOf c) with
  | none =>
    have := (mem_wordsOf (n := c.n) (F := c.rows) g (x := 0)).mpr .zero
    rw [leastBy_none.mp e] at this; cases this
  | some m =>
    obtain ⟨a, b⟩ := leastBy_some (sorted_wordsOf c) e
    exact ⟨(mem_wordsOf (n := c.n) (F := c.rows) g).mp a, fun z hz => b z ((mem_wordsOf (n := c.n) (F := c.rows) g).mpr hz)⟩
theorem far_eq (n x y : Nat) : far n x y = weight n (x ^^^ y) := rfl
theorem toCode_eq (g : IsForm c.n c.rows) (y : Nat) : toCode c y = weight c.n (leader c y) := by
  obtain ⟨a, b⟩ := near_spec g y
  obtain ⟨a', b'⟩ := leader_spec g y
  have h1 := (b _ a').le
  have h2 := (b' (y ^^^ near c y) (by rw [xor_swap]; exact a)).le
  rw [far_eq c.n y (leader c y ^^^ y), Nat.xor_comm (leader c y), xor_cancel'] at h1
  unfold toCode
  rw [far_eq] at *
  exact Nat.le_antisymm h1 h2
def nws (c : Code) (y : Nat) : List Nat := (wordsOf c).filter fun (x : Nat) => far c.n y x == toCode c y
theorem ties_eq (c : Code) (y : Nat) : ties c y = (nws c y).length := rfl
theorem nws_first (g : IsForm c.n c.rows) (y : Nat) : ∃ l, nws c y = near c y :: l := by
  obtain ⟨a, b⟩ := near_spec g y
  have hm : near c y ∈ nws c y := List.mem_filter.mpr ⟨(mem_wordsOf (n := c.n) (F := c.rows) g).mpr a, by unfold toCode; exact beq_self_eq_true _⟩
  have hs : (nws c y).Pairwise (· < ·) := List.Pairwise.filter _ (sorted_wordsOf c)
  cases e : nws c y with
  | nil => rw [e] at hm; cases hm
  | cons h l =>
    refine ⟨l, ?_⟩
    have hh : h ∈ nws c y := by rw [e]; exact List.mem_cons_self
    obtain ⟨h1, h2⟩ := List.mem_filter.mp hh
    have h3 := b h ((mem_wordsOf (n := c.n) (F := c.rows) g).mp h1)
    have h4 : far c.n y h = toCode c y := eq_of_beq h2
    have h5 : near c y ≤ h := by
      unfold Lx at h3
      unfold toCode at h4
      omega
    rw [e] at hm hs
    rcases List.mem_cons.mp hm with z | z
    · rw [z]
    · have := (List.pairwise_cons.mp hs).1 _ z
      omega
theorem sorted_filter {n : Nat} {F l : List Nat} {p : Nat → Bool} (g : IsForm n F) (hp : l.Perm ((wds F).filter p)) (hs : l.Pairwise (· ≤ ·)) : l = (wordsOf ⟨n, F⟩).filter p := by
  have hp' := hp.trans ((wds_perm g).filter p)
  have nd : l.Nodup := hp'.nodup_iff.mpr (List.Pairwise.filter _ (nodup_wordsOf _))
  refine sorted_unique ((hs.and nd).imp fun q => ?_) (List.Pairwise.filter _ (sorted_wordsOf _)) fun x => hp'.mem_iff
  have := q.2
  omega
theorem filter_cong {l : List Nat} {p q : Nat → Bool} (h : ∀ x ∈ l, p x = q x) : l.filter p = l.filter q := List.filter_congr h
theorem nws_eq (g : IsForm c.n c.rows) (y : Nat) : (wordsOf c).filter (fun x => weight c.n (x ^^^ y) == weight c.n (leader c y)) = nws c y := by
  unfold nws
  refine List.filter_congr fun x _ => ?_
  rw [far_eq, toCode_eq g, Nat.xor_comm]
def ins (F : List Nat) (d : List (Nat × Nat)) (x : Nat) : List (Nat × Nat) := if (d.map Prod.fst).contains (rdc F x) = true then d else d ++ [(rdc F x, x)]
def bld (F l : List Nat) : List (Nat × Nat) := l.foldl (ins F) []
theorem bld_snoc (F l : List Nat) (x : Nat) : bld F (l ++ [x]) = ins F (bld F l) x := by
  unfold bld
  rw [List.foldl_append]; rfl
theorem bld_length (F : List Nat) (l : List Nat) : (bld F l).length ≤ l.length := by
  refine snoc_ind (p := fun l => (bld F l).length ≤ l.length) (Nat.le_refl _) (fun l x ih => ?_) l
  rw [bld_snoc, List.length_append]
  unfold ins
  split
  · omega
  · rw [List.length_append]; simpa using ih
theorem bld_ok {f : Nat → Nat} (F : List Nat) (l : List Nat) : l.Pairwise (Lx f) → (∀ p ∈ bld F l, p.2 ∈ l ∧ rdc F p.2 = p.1 ∧ ∀ z ∈ l, rdc F z = p.1 → Lx f p.2 z) ∧ (∀ z ∈ l, rdc F z ∈ (bld F l).map Prod.fst) ∧ ((bld F l).map Prod.fst).Nodup := by
  refine snoc_ind (p := fun l => l.Pairwise (Lx f) → (∀ p ∈ bld F l, p.2 ∈ l ∧ rdc F p.2 = p.1 ∧ ∀ z ∈ l, rdc F z = p.1 → Lx f p.2 z) ∧ (∀ z ∈ l, rdc F z ∈ (bld F l).map Prod.fst) ∧ ((bld F l).map Prod.fst).Nodup) ?_ ?_ l
  · intro _
    exact ⟨fun p hp => (by cases hp), fun z hz => (List.not_mem_nil hz).elim, List.Pairwise.nil⟩
  · intro l x ih hs
    obtain ⟨s1, _, s2⟩ := List.pairwise_append.mp hs
    obtain ⟨i1, i2, i3⟩ := ih s1
    rw [bld_snoc]
    unfold ins
    have old : ∀ p ∈ bld F l, p.2 ∈ l ++ [x] ∧ rdc F p.2 = p.1 ∧ ∀ z ∈ l ++ [x], rdc F z = p.1 → Lx f p.2 z := fun p hp => by
      obtain ⟨a, b, d⟩ := i1 p hp
      refine ⟨List.mem_append_left _ a, b, fun z hz e => ?_⟩
      rcases List.mem_append.mp hz with q | q
      · exact d z q e
      · exact s2 p.2 a z q
    split
    · rename_i q
      refine ⟨old, fun z hz => ?_, i3⟩
      rcases List.mem_append.mp hz with a | a
      · exact i2 z a
      · rw [List.mem_singleton.mp a]; exact List.contains_iff_mem.mp q
    · rename_i q
      have q' : rdc F x ∉ (bld F l).map Prod.fst := fun a => q (List.contains_iff_mem.mpr a)
      refine ⟨fun p hp => ?_, fun z hz => ?_, ?_⟩
      · rcases List.mem_append.mp hp with a | a
        · exact old p a
        · rw [List.mem_singleton.mp a]
          refine ⟨by simp, rfl, fun z hz e => ?_⟩
          rcases List.mem_append.mp hz with b | b
          · exact absurd (show rdc F x ∈ _ from (show rdc F z = rdc F x from e) ▸ i2 z b) q'
          · rw [List.mem_singleton.mp b]; exact .refl _
      · rw [List.map_append]
        rcases List.mem_append.mp hz with a | a
        · exact List.mem_append_left _ (i2 z a)
        · rw [List.mem_singleton.mp a]; simp
      · rw [List.map_append]
        refine List.nodup_append.mpr ⟨i3, by simp, fun a ha b hb e => ?_⟩
        have : b = rdc F x := by simpa using hb
        rw [e, this] at ha
        exact q' ha
structure Ldr (c : Code) (d : List (Nat × Nat)) : Prop where
  nd : (d.map Prod.fst).Nodup
  key : ∀ k, k ∈ d.map Prod.fst ↔ k < 2 ^ c.n ∧ rdc c.rows k = k
  val : ∀ p ∈ d, p.2 = leader c p.1
  len : d.length ≤ 2 ^ c.n
theorem ldr_of (g : IsForm c.n c.rows) {l : List Nat} (hp : l.Perm (List.range (2 ^ c.n))) (hs : l.Pairwise (Lx (weight c.n))) : Ldr c (bld c.rows l) := by
  obtain ⟨h1, h2, h3⟩ := bld_ok (f := weight c.n) c.rows l hs
  have mem : ∀ x, x ∈ l ↔ x < 2 ^ c.n := fun x => by rw [hp.mem_iff, List.mem_range]
  refine ⟨h3, fun k => ⟨fun hk => ?_, fun ⟨a, b⟩ => ?_⟩, fun p hp' => ?_, ?_⟩
  · obtain ⟨p, hp', rfl⟩ := List.mem_map.mp hk
    obtain ⟨a, b, _⟩ := h1 p hp'
    rw [← b]
    exact ⟨g.rdc_lt ((mem _).mp a), g.rdc_idem _⟩
  · have := h2 k ((mem k).mpr a)
    rwa [b] at this
  · obtain ⟨a, b, d⟩ := h1 p hp'
    refine (leader_eq g ?_ fun z hz => d z ((mem z).mpr ?_) ?_).symm
    · refine g.rdc_same.mp ?_
      rw [← b, g.rdc_idem]
    · have lt1 : p.1 < 2 ^ c.n := by rw [← b]; exact g.rdc_lt ((mem _).mp a)
      have := Nat.xor_lt_two_pow (hz.lt g.lt) lt1
      rwa [xor_cancel] at this
    · have e := g.rdc_same.mpr hz
      rw [e, ← b, g.rdc_idem]
  · have := bld_length c.rows l
    rwa [hp.length_eq, List.length_range] at this
theorem Ldr.get {d : List (Nat × Nat)} (L : Ldr c d) (g : IsForm c.n c.rows) {x : Nat} (hx : x < 2 ^ c.n) : (rdc c.rows x, leader c x) ∈ d := by
  have : rdc c.rows x ∈ d.map Prod.fst := (L.key _).mpr ⟨g.rdc_lt hx, g.rdc_idem x⟩
  obtain ⟨p, hp, e⟩ := List.mem_map.mp this
  have hv := L.val p hp
  rw [e, leader_rdc g] at hv
  rw [← e, ← hv]; exact hp
theorem mem_coset (g : IsForm c.n c.rows) {k : Nat} : k ∈ coset c ↔ k < 2 ^ c.n ∧ rdc c.rows k = k := by
  unfold coset
  rw [List.mem_filter, List.mem_range, g.less, beq_iff_eq]
theorem mem_leaders (g : IsForm c.n c.rows) {y : Nat} : y ∈ leaders c ↔ ∃ k, (k < 2 ^ c.n ∧ rdc c.rows k = k) ∧ leader c k = y := by
  unfold leaders
  rw [List.mem_filter, List.mem_range, List.contains_iff_mem, List.mem_map]
  constructor
  · rintro ⟨_, k, hk, e⟩
    exact ⟨k, (mem_coset g).mp hk, e⟩
  · rintro ⟨k, hk, e⟩
    exact ⟨by rw [← e]; exact leader_lt g hk.1, k, (mem_coset g).mpr hk, e⟩
theorem Ldr.perm {d : List (Nat × Nat)} (L : Ldr c d) (g : IsForm c.n c.rows) : (d.map Prod.snd).Perm (leaders c) := by
  have nd : (d.map Prod.snd).Nodup := by
    have h := L.nd
    unfold List.Nodup at h ⊢
    rw [List.pairwise_map] at h ⊢
    refine h.imp_of_mem fun {a b} ha hb q e => q ?_
    have ka := ((L.key a.1).mp (List.mem_map.mpr ⟨a, ha, rfl⟩)).2
    have kb := ((L.key b.1).mp (List.mem_map.mpr ⟨b, hb, rfl⟩)).2
    rw [L.val a ha, L.val b hb] at e
    rw [← ka, ← kb, ← rdc_leader g a.1, ← rdc_leader g b.1, e]
  refine (List.perm_ext_iff_of_nodup nd (List.Pairwise.filter _ List.nodup_range)).mpr fun y => ?_
  show _ ↔ y ∈ leaders c
  rw [mem_leaders g, List.mem_map]
  constructor
  · rintro ⟨p, hp, rfl⟩
    exact ⟨p.1, (L.key _).mp (List.mem_map.mpr ⟨p, hp, rfl⟩), (L.val p hp).symm⟩
  · rintro ⟨k, hk, rfl⟩
    refine ⟨(k, leader c k), ?_, rfl⟩
    have := L.get g hk.1
    rwa [hk.2] at this
theorem Ldr.spread_eq {d : List (Nat × Nat)} (L : Ldr c d) (g : IsForm c.n c.rows) : spread c.n (d.map Prod.snd) = spread c.n (leaders c) := spread_perm (L.perm g)
theorem max_fold (f : Nat → Nat) : ∀ (l : List Nat) (a : Nat), let m := l.foldl (fun (a y : Nat) => max a (f y)) a
    a ≤ m ∧ (∀ y ∈ l, f y ≤ m) ∧ (m = a ∨ ∃ y ∈ l, m = f y)
  | [], a => ⟨Nat.le_refl a, by simp, .inl rfl⟩
  | x :: l, a => by
    obtain ⟨h1, h2, h3⟩ := max_fold f l (max a (f x))
    simp only [List.foldl_cons]
    refine ⟨by omega, fun y hy => ?_, ?_⟩
    · rcases List.mem_cons.mp hy with rfl | hy
      · omega
      · exact h2 y hy
    · rcases h3 with h3 | ⟨y, hy, h3⟩
      · rcases Nat.le_total (f x) a with q | q
        · exact .inl (by omega)
        · exact .inr ⟨x, List.mem_cons_self, by omega⟩
      · exact .inr ⟨y, List.mem_cons_of_mem _ hy, h3⟩
theorem Ldr.radius_eq {d : List (Nat × Nat)} (L : Ldr c d) (g : IsForm c.n c.rows) {m : Nat} (h1 : ∃ p ∈ d, weight c.n p.2 = m) (h2 : ∀ p ∈ d, weight c.n p.2 ≤ m) : radius c = m := by
  obtain ⟨a, b, e⟩ := max_fold (weight c.n) (leaders c) 0
  have mem : ∀ y, y ∈ leaders c ↔ ∃ p ∈ d, p.2 = y := fun y => by rw [← (L.perm g).mem_iff, List.mem_map]
  obtain ⟨p, hp, rfl⟩ := h1
  have h3 := b p.2 ((mem _).mpr ⟨p, hp, rfl⟩)
  have h4 : radius c ≤ weight c.n p.2 := by
    show (leaders c).foldl _ 0 ≤ _
    rcases e with e | ⟨y, hy, e⟩
    · rw [e]; exact Nat.zero_le _
    · rw [e]
      obtain ⟨q, hq, rfl⟩ := (mem y).mp hy
      exact h2 q hq
  exact Nat.le_antisymm h4 h3
theorem Ldr.farthest_eq {d : List (Nat × Nat)} (L : Ldr c d) (g : IsForm c.n c.rows) {m : Nat} (h1 : ∃ p ∈ d, p.1 = m ∧ weight c.n p.2 = radius c) (h2 : ∀ p ∈ d, weight c.n p.2 = radius c → m ≤ p.1) : farthest c = m := by
  obtain ⟨p, hp, rfl, hw⟩ := h1
  have kp := (L.key p.1).mp (List.mem_map.mpr ⟨p, hp, rfl⟩)
  have e : (List.range (2 ^ c.n)).find? (fun (y : Nat) => weight c.n (leaderIn (wordsOf c) c.n y) == Cb.radius c) = some p.1 := by
    rw [List.find?_range_eq_some]
    refine ⟨?_, List.mem_range.mpr kp.1, fun j hj => ?_⟩
    · rw [beq_iff_eq]
      show weight c.n (leader c p.1) = _
      rw [← L.val p hp, hw]
    · rw [Bool.not_eq_true', beq_eq_false_iff_ne]
      intro q
      have hjn : j < 2 ^ c.n := by have := kp.1; omega
      have := h2 _ (L.get g hjn) q
      have := rdc_le g.nz j
      simp only at *
      omega
  show ((List.range (2 ^ c.n)).find? _).getD 0 = _
  rw [e]; rfl
theorem tie_iff (g : IsForm c.n c.rows) : (coset c).all (fun (y : Nat) => ties c y == 1) = true ↔ ∀ z, z < 2 ^ c.n → weight c.n z = weight c.n (leader c z) → z = leader c z := by
  have mem : ∀ (y w : Nat), w ∈ nws c y ↔ Sp c.rows w ∧ weight c.n (y ^^^ w) = weight c.n (leader c y) := fun y w => by
    unfold nws
    rw [List.mem_filter, mem_wordsOf (n := c.n) (F := c.rows) g, beq_iff_eq, far_eq, toCode_eq g]
  rw [List.all_eq_true]
  constructor
  · intro h z hz e
    have hy : rdc c.rows z ∈ coset c := (mem_coset g).mpr ⟨g.rdc_lt hz, g.rdc_idem z⟩
    have h1 : ties c (rdc c.rows z) = 1 := eq_of_beq (h _ hy)
    rw [ties_eq] at h1
    have sz : Sp c.rows (rdc c.rows z ^^^ z) := by rw [Nat.xor_comm]; exact rdc_sp _ _
    have m1 : rdc c.rows z ^^^ z ∈ nws c (rdc c.rows z) := (mem _ _).mpr ⟨sz, by rw [xor_cancel', leader_rdc g, e]⟩
    have m2 : rdc c.rows z ^^^ leader c z ∈ nws c (rdc c.rows z) := by
      refine (mem _ _).mpr ⟨?_, by rw [xor_cancel', leader_rdc g]⟩
      rw [Nat.xor_comm, ← leader_rdc g]
      exact (leader_spec g _).1
    obtain ⟨a, ea⟩ := List.length_eq_one_iff.mp h1
    rw [ea, List.mem_singleton] at m1 m2
    have e2 := congrArg (fun t => rdc c.rows z ^^^ t) (m1.trans m2.symm)
    simp only [xor_cancel'] at e2
    exact e2
  · intro h y hy
    obtain ⟨hyn, hyr⟩ := (mem_coset g).mp hy
    rw [beq_iff_eq, ties_eq]
    obtain ⟨l, el⟩ := nws_first g y
    have nd : (nws c y).Nodup := List.Pairwise.filter _ (nodup_wordsOf c)
    have all1 : ∀ w ∈ nws c y, w = y ^^^ leader c y := fun w hw => by
      obtain ⟨a, b⟩ := (mem y w).mp hw
      have s1 : Sp c.rows (y ^^^ w ^^^ y) := by rw [xor_swap]; exact a
      have e1 := leader_congr g s1
      have lt1 : y ^^^ w < 2 ^ c.n := Nat.xor_lt_two_pow hyn (a.lt g.lt)
      have := h (y ^^^ w) lt1 (by rw [e1]; exact b)
      rw [e1] at this
      rw [← this, xor_cancel']
    rw [el] at all1 nd ⊢
    cases l with
    | nil => rfl
    | cons x l =>
      have a1 := all1 (near c y) List.mem_cons_self
      have a2 := all1 x (List.mem_cons_of_mem _ List.mem_cons_self)
      exact absurd (a1.trans a2.symm) ((List.pairwise_cons.mp nd).1 x List.mem_cons_self)
theorem zip_snoc (l : List Nat) (x : Nat) : (l ++ [x]).zipIdx = l.zipIdx ++ [(x, l.length)] := by
  rw [List.zipIdx_append]
  simp
theorem take_len {l : List Nat} {i x : Nat} (h : l[i]? = some x) : (l.take i).length = i := by
  have := (List.getElem?_eq_some_iff.mp h).1
  rw [List.length_take]; omega
theorem take_one {l : List Nat} {i x : Nat} (h : l[i]? = some x) : l.take (i + 1) = l.take i ++ [x] := by
  rw [List.take_add_one, h]; rfl
def bts (p : Nat → Nat) (R : List Nat) : Nat := R.zipIdx.foldl (fun (a : Nat) (r : Nat × Nat) => a + p r.1 * 2 ^ r.2) 0
theorem bts_take {p : Nat → Nat} {R : List Nat} {i r : Nat} (h : R[i]? = some r) : bts p (R.take (i + 1)) = bts p (R.take i) + p r * 2 ^ i := by
  unfold bts
  rw [take_one h, zip_snoc, List.foldl_append, take_len h]; rfl
theorem bts_lt {p : Nat → Nat} (hp : ∀ r, p r < 2) : ∀ (R : List Nat), bts p R < 2 ^ R.length := by
  intro R
  refine snoc_ind (p := fun R => bts p R < 2 ^ R.length) (Nat.one_pos) (fun l x ih => ?_) R
  unfold bts at ih ⊢
  rw [zip_snoc, List.foldl_append, List.length_append, List.length_singleton, Nat.pow_succ]
  simp only [List.foldl_cons, List.foldl_nil]
  have := hp x
  rcases (show p x = 0 ∨ p x = 1 by omega) with e | e <;> rw [e] <;> omega
theorem or_two {a i : Nat} (h : a < 2 ^ i) : a ||| 2 ^ i = a + 2 ^ i := by
  have := Nat.two_pow_add_eq_or_of_lt h 1
  rw [Nat.mul_one] at this
  rw [Nat.or_comm, ← this, Nat.add_comm]
theorem bts_or {p : Nat → Nat} (hp : ∀ r, p r < 2) {R : List Nat} {i r : Nat} (h : R[i]? = some r) : bts p (R.take (i + 1)) = if p r = 1 then bts p (R.take i) ||| 2 ^ i else bts p (R.take i) := by
  have lt := bts_lt hp (R.take i)
  rw [take_len h] at lt
  rw [bts_take h]
  split
  · rename_i e
    rw [e, or_two lt, Nat.one_mul]
  · have := hp r
    rw [show p r = 0 by omega, Nat.zero_mul, Nat.add_zero]
theorem syndrome_eq (c : Code) (y : Nat) : syndrome c y = bts (fun r => odd c.n r y) (dual c).rows := rfl
theorem odd_lt (n x y : Nat) : odd n x y < 2 := Nat.mod_lt _ (by decide)
theorem message_eq (g : IsForm c.n c.rows) (x : Nat) : message c x = bts (fun r => bit x r.log2) c.rows := by
  unfold message bts
  have : ∀ (l : List (Nat × Nat)), (∀ r ∈ l, r.1 ∈ c.rows) → ∀ a, l.foldl (fun (a : Nat) (r : Nat × Nat) => a + bit x (top c.n r.1) * 2 ^ r.2) a = l.foldl (fun (a : Nat) (r : Nat × Nat) => a + bit x r.1.log2 * 2 ^ r.2) a := by
    intro l
    induction l with
    | nil => intro _ _; rfl
    | cons r l ih =>
      intro h a
      have hr := h r List.mem_cons_self
      rw [List.foldl_cons, List.foldl_cons, top_hi (g.lt _ hr) (g.nz _ hr)]
      exact ih (fun s q => h s (List.mem_cons_of_mem _ q)) _
  exact this _ (fun r hr => (List.mem_zipIdx' hr).2 ▸ List.getElem_mem _) 0
def pck (m : Nat) (R : List Nat) : Nat := R.zipIdx.foldl (fun (x : Nat) (r : Nat × Nat) => if bit m r.2 = 1 then plus x r.1 else x) 0
theorem pck_take {m : Nat} {R : List Nat} {i r : Nat} (h : R[i]? = some r) : pck m (R.take (i + 1)) = if m.testBit i = true then pck m (R.take i) ^^^ r else pck m (R.take i) := by
  unfold pck
  rw [take_one h, zip_snoc, List.foldl_append, take_len h]
  simp only [List.foldl_cons, List.foldl_nil]
  by_cases e : m.testBit i = true
  · rw [if_pos e, if_pos (bit_one.mpr e)]; rfl
  · rw [if_neg e, if_neg (fun q => e (bit_one.mp q))]
theorem encoded_eq (c : Code) (m : Nat) : encoded c m = pck m c.rows := rfl
theorem all_wds (g : IsForm c.n c.rows) (p : Nat → Bool) : (wds c.rows).all p = (wordsOf c).all p := (wds_perm (n := c.n) (F := c.rows) g).all_eq
theorem within_iff {d : Code} (k : IsForm d.n d.rows) : within c d = true ↔ ∀ r ∈ c.rows, Sp d.rows r := by
  unfold within
  rw [List.all_eq_true]
  exact forall_congr' fun r => forall_congr' fun _ => holds_iff (n := d.n) (F := d.rows) k
theorem own_dual (g : IsForm c.n c.rows) {d : Code} (k : IsForm d.n d.rows) (e : c.n = d.n) : (within c d = true ∧ within d c = true) ↔ (c.n = d.n ∧ c.rows = d.rows) := by
  rw [within_iff k, within_iff g]
  constructor
  · rintro ⟨h1, h2⟩
    exact ⟨e, g.unique k fun x => ⟨fun q => q.sub h1, fun q => q.sub h2⟩⟩
  · rintro ⟨_, h⟩
    exact ⟨fun r hr => .mem (h ▸ hr), fun r hr => .mem (h ▸ hr)⟩
theorem turned_eq {n x : Nat} (h1 : 1 ≤ n) (hx : x < 2 ^ n) : x % 2 ^ (n - 1) * 2 ||| x / 2 ^ (n - 1) = turned n x := by
  have e : 2 ^ n = 2 ^ (n - 1) * 2 := by rw [← Nat.pow_succ]; congr 1; omega
  have lt : x / 2 ^ (n - 1) < 2 ^ 1 := by
    rw [Nat.div_lt_iff_lt_mul (Nat.two_pow_pos _), Nat.pow_one, Nat.mul_comm, ← e]; exact hx
  have eb : bit x (n - 1) = x / 2 ^ (n - 1) := Nat.mod_eq_of_lt lt
  unfold turned
  have := Nat.two_pow_add_eq_or_of_lt lt (x % 2 ^ (n - 1))
  rw [Nat.pow_one, Nat.mul_comm 2] at this
  rw [eb, e, Nat.mul_mod_mul_right, ← this]
end
theorem words_count {n : Nat} {F : List Nat} (g : IsForm n F) : (wordsOf ⟨n, F⟩).length = 2 ^ F.length := by
  rw [← (wds_perm g).length_eq, length_wds]
end CM
end
section
set_option Elab.async false
set_option linter.all false
set_option maxRecDepth 100000
set_option maxHeartbeats 4000000
namespace Sc
open PySem PySem.Spec PyProof.Rows L2 CM
open PySem.W (Codec)
section
variable {X : Cx}
def rSortedN (K : PySem.W.Frag) : List V → Hp → VK → Prop := fun vs H Q => ∃ (a : Addr) (l : List Nat), vs = [V.ref a] ∧ SqL K H a (nl l) ∧ l.length ≤ 16000000 ∧
  ∀ (l' : List Nat) (p : Addr), l'.Perm l → l'.Pairwise (· ≤ ·) → H p = none → Q (.ref p) (upd H p (.lst (nl l')))
theorem cr_sortedN : CallR X (.builtin "sorted") (rSortedN X.K) := by
  intro pins s σ H vs us Q I r h
  obtain ⟨a, l, rfl, hs, hz, q⟩ := h
  rw [nl_ints] at hs
  obtain ⟨its, rv, hl, _⟩ := I.list hs
  rw [Vals.ref1 r]
  have hi := rv.ints
  refine PyProof.Rows.sorted_intsAny hl.isList hi (by rw [hi.length, List.length_map]; exact small hz) fun out ns' h1 h2 h3 => ?_
  obtain ⟨ep, he'⟩ := PyProof.Rows.sortedAll_at s.heap its out
  have hlen : (ns'.map V.int).length ≤ sizeLine := by rw [List.length_map, h2.length_eq, List.length_map]; exact small hz
  obtain ⟨G, rfl, hG⟩ := perm_nats h2
  rw [List.pairwise_map] at h3
  have q' := q G (s.heap.objs.size + 1) hG (h3.imp fun z => by omega) (I.hok.fresh (Nat.le_succ _))
  rw [nl_ints] at q'
  exact ⟨.ref _, upd H (s.heap.objs.size + 1) (.lst ((G.map fun (z : Nat) => (z : Int)).map V.int)), I.laid (t' := s.toks) (fun _ _ => PyProof.Rows.sortedAll_old) (Nat.le_succ _) ⟨hlen, out.toList, ep, vals_of_ints h1, he'⟩, rfl, q'⟩
end
theorem for_enum {K : PySem.W.Frag} {a : Addr} {xs : List V} {g : TG} {tb : TS} {D : Ends} {σ : L2.St} {H : Hp} (Pv : Nat → L2.St → Hp → Prop) (h0 : Pv 0 σ H) (hl : ∀ i σ H, i ≤ xs.length → Pv i σ H → SqL K H a xs)
    (hs : ∀ i x σ H T, xs[i]? = some x → Pv i σ H → H T = none → g (.ref T) σ (upd H T (.tup [.int (i : Nat), x])) fun σ2 H2 => tb { D with nx := Pv (i + 1), ct := Pv (i + 1), bk := D.nx } σ2 H2) (hd : ∀ σ H, Pv xs.length σ H → D.nx σ H) :
    ∃ W : Nat → Nat → L2.St → Hp → Prop, (∃ m, W 0 m σ H) ∧ ∀ i m σ H, W i m σ H →
      ((Ite K a).stop i H ∧ D.nx σ H) ∨ ((Ite K a).go i H ∧ ∃ N : L2.St → Hp → Prop, (∀ σ' H', N σ' H' → ∃ m', m' < m ∧ W (i + 1) m' σ' H') ∧ ∀ x H', (Ite K a).yld i H x H' → g x σ H' fun σ2 H2 => tb { D with nx := N, ct := N, bk := D.nx } σ2 H2) := by
  refine ⟨fun i m σ H => m = xs.length - i ∧ i ≤ xs.length ∧ Pv i σ H, ⟨xs.length, by simp, Nat.zero_le _, h0⟩, ?_⟩
  rintro i m σ H ⟨rfl, hi, p⟩
  have q := hl i σ H hi p
  by_cases hlt : i < xs.length
  · refine .inr ⟨⟨xs, xs[i], q, by simp [hlt]⟩, Pv (i + 1), fun σ' H' p' => ⟨xs.length - (i + 1), by omega, rfl, hlt, p'⟩, fun x H' y => ?_⟩
    obtain ⟨T, z, e1, hT, e2, y⟩ := y
    subst e1 e2
    exact hs i z σ _ T (y xs q) p hT
  · have e : i = xs.length := by omega
    subst e
    exact .inl ⟨⟨xs, q, Nat.le_refl _⟩, hd σ H p⟩
theorem lc_enum {K : PySem.W.Frag} {a : Addr} {xs : List V} {g : TG} {tt : TT} {te : TE} {vs : List Nat} {σ : L2.St} {H1 : Hp} {D : Addr} {Qd : Hp → Prop} (Pv : Nat → Hp → Prop) (h0 : Pv 0 (upd H1 D (.lst []))) (hl : ∀ i H, i ≤ xs.length → Pv i H → SqL K H a xs)
    (hs : ∀ i x H T, xs[i]? = some x → Pv i H → H T = none → g (.ref T) (wipe σ vs) (upd H T (.tup [.int (i : Nat), x])) fun σ2 H2 => wipe σ2 vs = wipe σ vs ∧ tt σ2 H2 fun b H3 =>
      if b = true then te σ2 H3 fun y H4 => ∃ acc, H4 D = some (.lst acc) ∧ acc.length < sizeLine ∧ Pv (i + 1) (upd H4 D (.lst (acc ++ [y]))) else Pv (i + 1) H3) (hd : ∀ H, Pv xs.length H → Qd H) :
    ∃ W : Nat → Nat → Hp → Prop, (∃ m, W 0 m (upd H1 D (.lst []))) ∧ ∀ i m H, W i m H →
      ((Ite K a).stop i H ∧ Qd H) ∨ ((Ite K a).go i H ∧ ∃ Nx : Hp → Prop, (∀ H', Nx H' → ∃ m', m' < m ∧ W (i + 1) m' H') ∧ ∀ x H', (Ite K a).yld i H x H' → g x (wipe σ vs) H' fun σ2 H2 => wipe σ2 vs = wipe σ vs ∧ tt σ2 H2 fun b H3 =>
        if b = true then te σ2 H3 fun y H4 => ∃ acc, H4 D = some (.lst acc) ∧ acc.length < sizeLine ∧ Nx (upd H4 D (.lst (acc ++ [y]))) else Nx H3) := by
  refine ⟨fun i m H => m = xs.length - i ∧ i ≤ xs.length ∧ Pv i H, ⟨xs.length, by simp, Nat.zero_le _, h0⟩, ?_⟩
  rintro i m H ⟨rfl, hi, p⟩
  have q := hl i H hi p
  by_cases hlt : i < xs.length
  · refine .inr ⟨⟨xs, xs[i], q, by simp [hlt]⟩, Pv (i + 1), fun H' p' => ⟨xs.length - (i + 1), by omega, rfl, hlt, p'⟩, fun x H' y => ?_⟩
    obtain ⟨T, z, e1, hT, e2, y⟩ := y
    subst e1 e2
    exact hs i z _ T (y xs q) p hT
  · have e : i = xs.length := by omega
    subst e
    exact .inl ⟨⟨xs, q, Nat.le_refl _⟩, hd H p⟩
theorem lc_natsJ {J : It} {l : List Nat} {p : Nat → Bool} {f : Nat → Nat} {g : TG} {tt : TT} {te : TE} {vs : List Nat} {σ : L2.St} {H1 : Hp} {D : Addr} {Qd : Hp → Prop} (hD : H1 D = none)
    (hgo : ∀ i H', i < l.length → Same H1 H' → J.go i H') (hst : ∀ H', Same H1 H' → J.stop l.length H') (hy : ∀ i H x H', J.yld i H x H' → H' = H ∧ ∃ n, l[i]? = some n ∧ x = nv n) (hz : l.length < 16000000)
    (step : ∀ x, x ∈ l → ∀ H', Same H1 H' → ∀ (Y : V → Hp → Prop) (N : Hp → Prop), (p x = true → ∀ H4, Same H' H4 → Y (nv (f x)) H4) → (p x = false → ∀ H4, Same H' H4 → N H4) →
      g (nv x) (wipe σ vs) H' fun σ2 H2 => wipe σ2 vs = wipe σ vs ∧ tt σ2 H2 fun b H3 => if b = true then te σ2 H3 Y else N H3)
    (hd : ∀ H', Same H1 H' → H' D = some (.lst (nl ((l.filter p).map f))) → Qd H') :
    ∃ W : Nat → Nat → Hp → Prop, (∃ m, W 0 m (upd H1 D (.lst []))) ∧ ∀ i m H, W i m H →
      (J.stop i H ∧ Qd H) ∨ (J.go i H ∧ ∃ Nx : Hp → Prop, (∀ H', Nx H' → ∃ m', m' < m ∧ W (i + 1) m' H') ∧ ∀ x H', J.yld i H x H' → g x (wipe σ vs) H' fun σ2 H2 => wipe σ2 vs = wipe σ vs ∧ tt σ2 H2 fun b H3 =>
        if b = true then te σ2 H3 fun y H4 => ∃ acc, H4 D = some (.lst acc) ∧ acc.length < sizeLine ∧ Nx (upd H4 D (.lst (acc ++ [y]))) else Nx H3) := by
  refine ⟨fun i m H' => m = l.length - i ∧ i ≤ l.length ∧ H' D = some (.lst (nl (((l.take i).filter p).map f))) ∧ Same H1 H', ⟨l.length, by simp, Nat.zero_le _, upd_same, same_new hD⟩, ?_⟩
  rintro i m H' ⟨rfl, hi, hD', sm⟩
  by_cases hlt : i < l.length
  · refine .inr ⟨hgo i H' hlt sm, fun H' => H' D = some (.lst (nl (((l.take (i + 1)).filter p).map f))) ∧ Same H1 H', fun H' p' => ⟨l.length - (i + 1), by omega, rfl, hlt, p'⟩, fun x H2 y => ?_⟩
    obtain ⟨e, n, hn, ex⟩ := hy i H' x H2 y
    subst e ex
    refine step n (List.mem_of_getElem? hn) H2 sm _ _ (fun hp H4 s4 => ?_) fun hp H4 s4 => ?_
    · refine ⟨_, s4 _ _ hD', ?_, ?_, same_upd hD (sm.trans s4)⟩
      · rw [nl_length, List.length_map]
        refine small' (Nat.lt_of_le_of_lt (List.length_filter_le _ _) ?_)
        rw [List.length_take]; omega
      · rw [upd_same, take_snoc' hn, filter_map_snoc, if_pos hp, nl_snoc]
    · refine ⟨?_, sm.trans s4⟩
      rw [s4 _ _ hD', take_snoc' hn, filter_map_snoc, if_neg (by rw [hp]; decide)]
  · have e : i = l.length := by omega
    subst e
    rw [List.take_length] at hD'
    exact .inl ⟨hst H' sm, hd H' sm hD'⟩
theorem lc_bools {K : PySem.W.Frag} {a : Addr} {l : List Nat} {p : Nat → Bool} {g : TG} {te : TE} {vs : List Nat} {σ : L2.St} {H1 : Hp} {D : Addr} {Qd : Hp → Prop} (hD : H1 D = none) (hl : ∀ H', Same H1 H' → SqL K H' a (nl l)) (hz : l.length < 16000000)
    (step : ∀ x, x ∈ l → ∀ H', Same H1 H' → ∀ (Y : V → Hp → Prop), (∀ H4, Same H' H4 → Y (.bl (p x)) H4) → g (nv x) (wipe σ vs) H' fun σ2 H2 => wipe σ2 vs = wipe σ vs ∧ te σ2 H2 Y)
    (hd : ∀ H', Same H1 H' → H' D = some (.lst ((l.map p).map V.bl)) → Qd H') :
    ∃ W : Nat → Nat → Hp → Prop, (∃ m, W 0 m (upd H1 D (.lst []))) ∧ ∀ i m H, W i m H →
      ((Itl K a).stop i H ∧ Qd H) ∨ ((Itl K a).go i H ∧ ∃ Nx : Hp → Prop, (∀ H', Nx H' → ∃ m', m' < m ∧ W (i + 1) m' H') ∧ ∀ x H', (Itl K a).yld i H x H' → g x (wipe σ vs) H' fun σ2 H2 => wipe σ2 vs = wipe σ vs ∧ tYes σ2 H2 fun b H3 =>
        if b = true then te σ2 H3 fun y H4 => ∃ acc, H4 D = some (.lst acc) ∧ acc.length < sizeLine ∧ Nx (upd H4 D (.lst (acc ++ [y]))) else Nx H3) := by
  refine lc_list (K := K) (a := a) (xs := nl l) (fun i H' => H' D = some (.lst (((l.take i).map p).map V.bl)) ∧ Same H1 H') ⟨upd_same, same_new hD⟩ (fun i H' _ q => hl H' q.2) ?_ ?_
  · rintro i y H' hi ⟨hD', sm⟩
    obtain ⟨x, hx, rfl⟩ := nl_at hi
    refine step x (List.mem_of_getElem? hx) H' sm _ fun H4 s4 => ?_
    refine ⟨_, s4 _ _ hD', ?_, ?_, same_upd hD (sm.trans s4)⟩
    · rw [List.length_map, List.length_map, List.length_take]
      exact small' (by omega)
    · rw [upd_same, take_snoc' hx, List.map_append, List.map_append]; rfl
  · rintro H' ⟨hD', sm⟩
    rw [nl_length, List.take_length] at hD'
    exact hd H' sm hD'
theorem boot_listN : bootBuiltins "list" = some (.type "list") := by decide +kernel
section
variable {X : Cx}
def tListVals (td : TE) : TE := fun σ H Q => td σ H fun x H1 => ∃ d kvs, x = .ref d ∧ H1 d = some (.dK kvs) ∧ ∀ l, H1 l = none → Q (.ref l) (upd H1 l (.lst (kvs.map (·.2))))
theorem vals_of_kv : ∀ {kvs : List (Key × V)} {vs : List (Key × Value)}, KV kvs vs → Vals (kvs.map (·.2)) (vs.map (·.2))
  | _, _, .nil => .nil
  | _, _, .cons h r => .cons h.2 (vals_of_kv r)
theorem pe_listVals {e : Expr} {td : TE} {p pos apos cpos : Pos} (he : PE X e td) (hc : X.calm = true) (hg : Gl X "list") (hm : X.mg "list" = none) (hbase : attributeBase e "values" X.env (eval e X.env) = eval e X.env := by rfl) (hline : (apos.endLine == cpos.line) = true := by rfl)
    (hs : starEach [.Call (.Attribute e "values" apos) [] [] cpos] X.env = [(false, eval (.Call (.Attribute e "values" apos) [] [] cpos) X.env)] := by rfl) :
    PE X (.Call (.Name "list" p) [.Call (.Attribute e "values" apos) [] [] cpos] [] pos) (tListVals td) := by
  intro pins s σ H Q I h
  refine Call_ (ld_blt I hg hm boot_listN (PyProof.Rows.callWith_type1 ?_ hs rfl))
  rw [hs]
  show wpAny _ _ (spliced ((false, eval (.Call (.Attribute e "values" apos) [] [] cpos) X.env) :: [])) _ _ s
  refine Calls.spliced_cons ?_
  refine wpAny_Call_method (T := "dict") (id := "dict.values") hbase rfl hline PySem.F.plainAttrs_dict PySem.F.slot_dict_values PySem.F.type_dict_values (thn (he pins s σ H _ I h) fun u s1 ⟨x, H1, I1, rx, d, kvs, ex, hd, q⟩ => ?_)
  subst ex
  obtain rfl : u = Value.ref d := rx
  obtain ⟨hz, hs', vs, kv, hm'⟩ := dk_of I1.hok hd
  obtain ⟨ep, hat⟩ := hm'.dictAt
  have hl : kvs.length = vs.length := Paired.length kv
  refine ⟨hm'.typeIs, hm'.mapOf.noDict, ?_⟩
  have I2 : Inv X pins σ H1 { s1 with heap := s1.heap.push { cls := .type "dict_values", data := .fields #[.ref d] } } := I1.kept (t' := s1.toks) fun b ob q => Heap.get?_push_of_some _ q
  have fin : wpAny (model X.prog X.w) X.A (call (.type "list") [.ref s1.heap.objs.size]) (EP X pins σ Q) X.xe { s1 with heap := s1.heap.push { cls := .type "dict_values", data := .fields #[.ref d] } } := by
    refine PySem.W.kdl_call (PySem.W.kdl_values (knd := mixKind X.prog X.w) (d := d) (r := s1.heap.objs.size) (kvs := vs) (ep := ep)) (I1.ok.hd hc) ⟨⟨_, Heap.get?_push_size _ rfl, rfl, rfl⟩, hat.push _⟩ (by rw [← hl]; exact hz) fun h' tk acc c' hk hD hacc => ?_
    have hv : acc.toList = vs.map (·.2) := PySem.W.kdl_vals_eq acc.toList (by rw [Array.length_toList]; exact hacc.1) fun j v e => hacc.2 j v (by rw [← Array.getElem?_toList]; exact e)
    refine ⟨.ref _, _, I2.laid (t' := tk) hk (Nat.le_refl _) ?_, rfl, q _ (I2.hok.fresh (Nat.le_refl _))⟩
    refine (show ObjOk X.prog X.w _ h' _ (.lst (kvs.map (·.2))) from ⟨by rw [List.length_map]; exact hz, acc.toList, c', ?_, ?_⟩)
    · rw [hv]; exact vals_of_kv kv
    · rw [Array.toArray_toList]; exact hD
  show wpAny _ _ (callWith cpos (.builtin "dict.values") [.ref d] [] []) _ X.xe s1
  exact method_meetsIn PySem.F.slot_dict_values PySem.F.entry_dict_values rfl (PySem.evalArgs_none ⟨rfl, hm'.typeIs, PySem.F.args_dict_values_1 _, _, meets_dict_values (mixKind X.prog X.w) d hs', ⟨vs, hm'⟩, Calls.spliced_nil fin⟩)
end
end Sc
end
section
set_option Elab.async false
set_option linter.all false
set_option maxRecDepth 100000
set_option maxHeartbeats 4000000
namespace Sc
open PySem PySem.Spec PyProof.Rows L2 CM
open PySem.W (Codec)
def gck : List DictEntry → List (Int × Addr) → Bool
  | [], [] => true
  | e :: es, q :: r => (match e.key with | .int i _ => i == q.1 | _ => false) && (e.hash == hashInt q.1) && (match e.val with | .ref a => a == q.2 | _ => false) && gck es r
  | _, _ => false
structure GD (K : PySem.W.Frag) (d : Addr) (tab : List (Int × Addr)) : Prop where
  ex : ∃ (es : Array DictEntry) (ep : Nat), K.lookup d = some ⟨.type "dict", none, .dict es ep, #[]⟩ ∧ gck es.toList tab = true
  nd : (tab.map (·.1)).Nodup
  lo : (d == sysModules) = false
def tabV (tab : List (Int × Addr)) : List (Key × Value) := tab.map fun p => (Sum.inl p.1, .ref p.2)
section
variable {P : Program} {w : World}
theorem gck_pairs : ∀ {es : List DictEntry} {tab : List (Int × Addr)}, gck es tab = true → Pairs (mixKind P w) es (tabV tab) ∧ ∀ e ∈ es, ∃ k, (mixKind P w).is k e.key = true ∧ e.hash = (mixKind P w).hash k
  | [], [], _ => ⟨.nil, by simp⟩
  | e :: es, q :: r, h => by
    obtain ⟨hs, key, val⟩ := e
    unfold gck at h
    rw [Bool.and_eq_true, Bool.and_eq_true, Bool.and_eq_true] at h
    obtain ⟨⟨⟨h1, h2⟩, h3⟩, h4⟩ := h
    obtain ⟨p1, p2⟩ := gck_pairs h4
    have k1 : keyIs (Sum.inl q.1) key = true := by
      cases key with
      | int i t =>
        have e : i = q.1 := eq_of_beq h1
        subst e
        exact keyIs_int _ _
      | _ => cases h1
    have v1 : val = .ref q.2 := by
      cases val with
      | ref a =>
        have e : a = q.2 := eq_of_beq h3
        rw [e]
      | _ => cases h3
    refine ⟨.cons k1 v1 p1, fun x hx => ?_⟩
    rcases List.mem_cons.mp hx with rfl | hx
    · exact ⟨Sum.inl q.1, k1, eq_of_beq h2⟩
    · exact p2 x hx
  | [], _ :: _, h => by cases h
  | _ :: _, [], h => by cases h
theorem GD.dict {K : PySem.W.Frag} {d : Addr} {tab : List (Int × Addr)} (g : GD K d tab) {h : Heap} (hK : K.In h) : h.DictOf (mixKind P w) d (tabV tab) := by
  obtain ⟨es, ep, h1, h2⟩ := g.ex
  obtain ⟨p1, p2⟩ := gck_pairs (P := P) (w := w) h2
  refine ⟨_, es, ep, hK _ _ h1, ⟨rfl, rfl, rfl⟩, rfl, fun e he => p2 e (by simpa using he), p1, ?_⟩
  unfold tabV
  rw [List.map_map]
  have := g.nd
  unfold List.Nodup at this ⊢
  rw [List.pairwise_map] at this ⊢
  exact this.imp fun q e => q (Sum.inl.inj e)
end
def tabAt (tab : List (Int × Addr)) (i : Int) : Option Addr := (tab.find? fun p => p.1 == i).map (·.2)
theorem tab_val (i : Int) : ∀ (tab : List (Int × Addr)), valueAt (tabV tab) (Sum.inl i : Key) = (tabAt tab i).map Value.ref
  | [] => rfl
  | q :: r => by
    have ih := tab_val i r
    unfold valueAt tabV tabAt at ih ⊢
    rw [List.map_cons, List.find?_cons, List.find?_cons]
    by_cases e : q.1 = i
    · subst e; simp
    · have h1 : (decide ((Sum.inl q.1 : Key) = Sum.inl i)) = false := decide_eq_false fun z => e (Sum.inl.inj z)
      have h2 : (q.1 == i) = false := beq_eq_false_iff_ne.mpr e
      simp only [h1, h2]
      exact ih
section
variable {X : Cx}
def tGIn (tab : List (Int × Addr)) (ty : TE) : TE := fun σ H Q => ty σ H fun y H1 => ∃ i, y = .int i ∧ Q (.bl (tabAt tab i).isSome) H1
theorem pc_gin {i : Expr} {ty : TE} {x : Str} {pos : Pos} {d : Addr} {tab : List (Int × Addr)} (g : GD X.K d tab) (hg : Gl X x) (hm : X.mg x = some (.ref d)) (hi : PE X i ty) (hd : (x == ("__debug__" : Str)) = false := by decide) : PC X .In i (.Name x pos) (tGIn tab ty) := by
  intro pins s σ H Q I h
  refine thn (hi pins s σ H _ I h) fun iv s1 ⟨y, H1, I1, ry, k, ey, q1⟩ => ld_glob I1 hg hm ?_ hd
  subst ey
  have dd : s1.heap.DictOf (mixKind X.prog X.w) d (tabV tab) := g.dict I1.kIn
  refine wpAny_in_of (knd := mixKind X.prog X.w) (k := Sum.inl k) (kV_is (k := Sum.inl k) ry) g.lo dd.mapOf ?_
  rw [tab_val, Option.isSome_map]
  exact ⟨.bl (tabAt tab k).isSome, H1, I1.tok _, rfl, q1⟩
def tGGet (tab : List (Int × Addr)) (ty : TE) : TE := fun σ H Q => ty σ H fun y H1 => ∃ i f, y = .int i ∧ tabAt tab i = some f ∧ Q (.ref f) H1
theorem pe_gget {i : Expr} {ty : TE} {x : Str} {pos pos' : Pos} {d : Addr} {tab : List (Int × Addr)} (g : GD X.K d tab) (hg : Gl X x) (hm : X.mg x = some (.ref d)) (hi : PE X i ty) (hs : NoSl i) (hd : (x == ("__debug__" : Str)) = false := by decide) : PE X (.Subscript (.Name x pos) i pos') (tGGet tab ty) := by
  intro pins s σ H Q I h
  refine subD_of PySem.F.slot_dict_getitem.lookup hs (ld_glob I hg hm ?_ hd)
  refine thn (hi pins s σ H _ I h) fun iv s2 ⟨y, H2, I2, ry, k, f, ey, hf, q2⟩ => ?_
  subst ey
  have dd : s2.heap.DictOf (mixKind X.prog X.w) d (tabV tab) := g.dict I2.kIn
  refine ⟨dd.typeIs, wpAny_getItem_of (knd := mixKind X.prog X.w) (k := Sum.inl k) (kV_is (k := Sum.inl k) ry) dd.mapOf (v := .ref f) (by rw [tab_val, hf]; rfl) ⟨.ref f, H2, I2.tok _, rfl, q2⟩⟩
def tCalV (X : Cx) (m i : Nat) (t : TA) : TE := fun σ H Q => ∃ (f : Addr) (fd : FuncData) (ps : List Str) (sp : L2.Sp), σ[i]? = some (some (.ref f)) ∧ FnOk X.prog X.w X.K X.mg X.base CX0 m f fd ps sp ∧ PySem.W.keepIn X.K (.ref f) = true ∧ L2.Binds X.K fd ps [] ∧ t σ H fun vs H1 => sp vs H1 Q E0
theorem pe_calV (i : Nat) {m : Nat} {x : Str} {e : Expr} {es : List Expr} {t : TA} {p pos : Pos} (hr : Room m X.A) (hx : X.xe = fun _ _ => False) (ha : PA X (e :: es) t) (hN : X.N[i]? = some x := by rfl) (hv : Vis X.env.scope x := by first | exact Or.inl rfl | exact Or.inr (Or.inl rfl) | exact Or.inr (Or.inr rfl))
    (hdb : (x == ("__debug__" : Str)) = false := by decide) (hcd : (x == ("__classdict__" : Str)) = false := by decide) (he : starEach (e :: es) X.env = (false, eval e X.env) :: starEach es X.env := by rfl) (hpl : (backTo pos (starEach es X.env)).any (·.1) = false := by rfl) :
    PE X (.Call (.Name x p) (e :: es) [] pos) (tCalV X m i t) := by
  intro pins s σ H Q I h
  obtain ⟨f, fd, ps, sp, hσ, F, hk, hb, h⟩ := h
  refine wpAny_Call_Name_kw (thn ((pv i hN hv hdb hcd : PE X (.Name x p) (tVar i)) pins s σ H (fun x H1 => x = .ref f ∧ H1 = H) I ?_) fun u s1 ⟨x, H1, I1, rx, ex, eH⟩ => ?_)
  · exact ⟨_, hσ, rfl, rfl⟩
  subst ex eH
  obtain rfl : u = Value.ref f := rx
  refine PySem.W.callWith_K (h₀ := X.base) I1.ok.mod.kin hk (thn (ha pos pins s1 σ _ _ I1 h) fun us s2 ⟨vs, H2, I2, r, q⟩ => ⟨I2.kIn, ?_⟩) he hpl
  exact run_fn (dvs := []) (ds := []) (E := E0) F hr hb .nil (fun _ _ _ _ _ _ _ h => h.elim) I2 r (by simpa only [List.append_nil] using q)
end
end Sc
end
section
set_option Elab.async false
set_option linter.all false
set_option maxRecDepth 100000
set_option maxHeartbeats 4000000
namespace Sc
open PySem PySem.Spec PyProof.Rows L2 CM
open PySem.W (Codec)
def sh0 : Nat → Bool := fun _ => false
def numN (v : Value) : Nat := (numOf v).toNat
def KRel (h : Heap) (k1 k2 : Nat → Nat) (p : Keyed) : Prop := ∃ (x : Nat) (t : Tok), p.2 = .int x t ∧ G.tupKeyC h sh0 p.1 = some [Sum.inl ((k1 x : Nat) : Int), Sum.inl ((k2 x : Nat) : Int)]
theorem numN_int (x : Nat) (t : Tok) : numN (.int x t) = x := by
  show ((x : Int)).toNat = x
  exact Int.toNat_natCast x
theorem lex2 (a b c d : Nat) : lexLt itemOrd [Sum.inl (a : Int), Sum.inl (b : Int)] [Sum.inl (c : Int), Sum.inl (d : Int)] = true ↔ a < c ∨ (a = c ∧ b < d) := by
  rw [lex_cons, lex_cons]
  show (decide ((a : Int) < (c : Int)) || (!decide ((c : Int) < (a : Int)) && (decide ((b : Int) < (d : Int)) || (!decide ((d : Int) < (b : Int)) && false)))) = true ↔ _
  simp only [Bool.or_eq_true, Bool.and_eq_true, decide_eq_true_eq, Bool.not_eq_true', decide_eq_false_iff_not, Bool.and_false, Bool.false_eq_true, or_false]
  omega
theorem sk_out {h : Heap} {k1 k2 : Nat → Nat} {m : Nat} {arr : Array Keyed} {pairs : List Keyed} (hrel : ∀ p ∈ pairs, KRel h k1 k2 p) (hnum : pairs.map (fun p => numN p.2) = List.range m) (hp : arr.toList.Perm pairs) (hs : SortedToK (G.tupKindC h sh0) arr arr.size) :
    ∃ l : List Nat, Vals (nl l) (arr.toList.map Prod.snd) ∧ l.Perm (List.range m) ∧ l.Pairwise fun x y => ¬ Bf k1 k2 y x := by
  have rel : ∀ p ∈ arr.toList, KRel h k1 k2 p := fun p q => hrel p (hp.mem_iff.mp q)
  refine ⟨arr.toList.map fun p => numN p.2, ?_, ?_, ?_⟩
  · have : ∀ (q : List Keyed), (∀ p ∈ q, KRel h k1 k2 p) → Vals (nl (q.map fun p => numN p.2)) (q.map Prod.snd) := by
      intro q
      induction q with
      | nil => intro _; exact .nil
      | cons p q ih =>
        intro hq
        obtain ⟨x, t, e, _⟩ := hq p List.mem_cons_self
        refine .cons ?_ (ih fun p' h' => hq p' (List.mem_cons_of_mem _ h'))
        show L2.RelV (nv (numN p.2)) p.2
        rw [e, numN_int]
        exact ⟨t, rfl⟩
    exact this _ rel
  · rw [← hnum]; exact hp.map _
  · rw [List.pairwise_iff_getElem]
    intro i j hi hj hij
    rw [List.length_map, Array.length_toList] at hi hj
    rw [List.getElem_map, List.getElem_map]
    have s1 := hs i j (Nat.le_of_lt hij) hj
    obtain ⟨x, t, ex, kx⟩ := rel arr.toList[i] (List.getElem_mem _)
    obtain ⟨y, u, ey, ky⟩ := rel arr.toList[j] (List.getElem_mem _)
    rw [ex, ey, numN_int, numN_int]
    have e1 : KK (G.tupKindC h sh0) arr i = [Sum.inl ((k1 x : Nat) : Int), Sum.inl ((k2 x : Nat) : Int)] := by
      unfold KK
      rw [Array.getElem?_eq_getElem hi]
      show (G.tupKeyC h sh0 arr[i].1).getD [] = _
      have : arr[i] = arr.toList[i] := by simp
      rw [this, kx]; rfl
    have e2 : KK (G.tupKindC h sh0) arr j = [Sum.inl ((k1 y : Nat) : Int), Sum.inl ((k2 y : Nat) : Int)] := by
      unfold KK
      rw [Array.getElem?_eq_getElem hj]
      show (G.tupKeyC h sh0 arr[j].1).getD [] = _
      have : arr[j] = arr.toList[j] := by simp
      rw [this, ky]; rfl
    rw [e1, e2] at s1
    have s2 : lexLt itemOrd [Sum.inl ((k1 y : Nat) : Int), Sum.inl ((k2 y : Nat) : Int)] [Sum.inl ((k1 x : Nat) : Int), Sum.inl ((k2 x : Nat) : Int)] = false := s1
    intro z
    have := (lex2 _ _ _ _).mpr z
    rw [this] at s2; cases s2
section
variable {prog : Program} {w : World} {A : Around} {E : Value → Shared → Prop} {s : Shared}
theorem collect_raw {r : Addr} {m : Nat} {t u v : Tok} {R : Result → Shared → Prop} (hh : A.handled = none) (hr : IsRange s.heap r 0 (m : Int) 1 t u v) (hm : m ≤ 2 ^ 20)
    (h : ∀ h' tk acc c', (∀ b o, s.heap.get? b = some o → h'.get? b = some o) → h'.get? s.heap.objs.size = some { cls := .type "list", dict := none, data := .seq acc c', slots := #[] } → ItemsOf (fun i v => ∃ t, v = Value.int (0 + (i : Int) * 1) t) acc m → R (.ok (.ret (.ref s.heap.objs.size))) { s with heap := h', toks := tk }) :
    codeAny (model prog w) A (.builtin "proto.collect" ⟨[.ref r], []⟩) R s := by
  have hsm : Builtin.Range.small 0 (m : Int) 1 = true := small_one (by omega) (by omega) (by omega) (by omega)
  have hsz : Builtin.Range.rangeSize 0 (m : Int) 1 = (m : Int) := by rw [rangeSize_one]; split <;> omega
  refine codeAny_builtin PySem.F.entry_proto_collect ?_
  rw [Around.under_plainId PySem.F.plain_proto_collect _]
  show wpAny _ A.in1 (newList [] >>= fun l => again (.builtin "list.__iadd__" ⟨[l, .ref r], []⟩)) _ _ s
  refine wpAny_bind (wpAny_newObj_type ?_)
  refine wpAny_pure ⟨plainId_quiet PySem.F.plain_list_iadd _, codeAny_builtin PySem.F.entry_list_iadd ?_⟩
  rw [Around.under_plainId PySem.F.plain_list_iadd _]
  show wpAny _ A.in1 (Builtin.List.listExtendWith (.ref s.heap.objs.size) (.ref r) (.ref s.heap.objs.size)) _ _ _
  exact wpAny_extend_range (R := R) (s := { s with heap := s.heap.push { cls := .type "list", data := .seq ([] : List Value).toArray } }) (n := m) hh (Heap.get?_push_of_some _ hr) hsm hsz (by omega) s.heap.objs.size _ _ (Heap.get?_push_size _ rfl)
    fun h' tk acc c' hk hS hacc => h h' tk acc c' (fun b o e => hk b o (Nat.ne_of_lt (Heap.lt_size e)) (Heap.get?_push_of_some _ e)) hS hacc
theorem collect_range {r : Addr} {m : Nat} {t u v : Tok} {Q : List Value → Shared → Prop} (hh : A.handled = none) (hr : IsRange s.heap r 0 (m : Int) 1 t u v) (hm : m ≤ 2 ^ 20)
    (h : ∀ h' tk vs, (∀ b o, s.heap.get? b = some o → h'.get? b = some o) → vs.length = m → (∀ (j : Nat) (x : Value), vs[j]? = some x → ∃ t, x = Value.int (j : Nat) t) → Q vs { s with heap := h', toks := tk }) :
    wpAny (model prog w) A (collect (.ref r)) Q E s := by
  unfold collect
  refine wpAny_bind (wpAny_runValue (collect_raw hh hr hm fun h' tk acc c' hk hS hacc => ?_))
  show wpAny _ A (load s.heap.objs.size >>= _) _ _ _
  refine wpAny_bind (wpAny_load hS ?_)
  refine wpAny_pure (h h' tk acc.toList hk (by rw [Array.length_toList]; exact hacc.1) fun j x e => ?_)
  obtain ⟨t', e'⟩ := hacc.2 j x (by rw [← Array.getElem?_toList]; exact e)
  exact ⟨t', by rw [e']; congr 1; omega⟩
end
end Sc
end
section
set_option Elab.async false
set_option linter.all false
set_option maxRecDepth 100000
set_option maxHeartbeats 4000000
namespace Sc
open PySem PySem.Spec PyProof.Rows L2 CM
open PySem.W (Codec)
section
variable {X : Cx} {pins : List (Addr × Obj)} {σ : L2.St} {H : Hp} {s : Shared} {a kS : Addr} {m e1 : Nat} {vs keys : List Value} {ks : List Addr} {k1 k2 : Nat → Nat} {A : Around} {P : PySem.Fin → Shared → Prop} {E : Value → Shared → Prop}
theorem vals_refs : ∀ {ks : List Addr} {us : List Value}, Vals (ks.map V.ref) us → us = ks.map Value.ref
  | [], _, h => by cases h; rfl
  | p :: ks, _, h => by
    cases h with
    | cons h1 h2 =>
      cases h1
      rw [List.map_cons, vals_refs h2]
theorem krel_of (I : Inv X pins σ H s) (hks : ks.length = m) (ht : ∀ (j : Nat) p, ks[j]? = some p → H p = some (.tup [nv (k1 j), nv (k2 j)])) (hv : vs.length = m) (hv2 : ∀ (j : Nat) (x : Value), vs[j]? = some x → ∃ t, x = Value.int (j : Nat) t) :
    (∀ p ∈ (ks.map Value.ref).zip vs, KRel s.heap k1 k2 p) ∧ ((ks.map Value.ref).zip vs).map (fun p => numN p.2) = List.range m ∧ ∃ fs, TupsOf s.heap sh0 (ks.map Value.ref) fs := by
  have tup : ∀ (j : Nat) p, ks[j]? = some p → ∃ o t u, s.heap.get? p = some o ∧ o.cls = .type "tuple" ∧ ∃ n, o.data = .seq #[.int (k1 j) t, .int (k2 j) u] n := fun j p e => by
    obtain ⟨its, r, ⟨o, ho, hc, n, hd⟩, _⟩ := I.tuple (SqT.of (ht j p e))
    obtain ⟨t, u, rfl⟩ := Vals.int2 r
    exact ⟨o, t, u, ho, hc, n, hd⟩
  refine ⟨fun p hp => ?_, ?_, ?_⟩
  · obtain ⟨j, hj, rfl⟩ := List.mem_iff_getElem.mp hp
    rw [List.length_zip, List.length_map] at hj
    rw [List.getElem_zip, List.getElem_map]
    obtain ⟨t, et⟩ := hv2 j vs[j] (List.getElem?_eq_getElem (by omega))
    obtain ⟨o, t1, u1, ho, hc, n, hd⟩ := tup j ks[j] (List.getElem?_eq_getElem (by omega))
    refine ⟨j, t, et, ?_⟩
    show G.tupKeyC s.heap sh0 (.ref ks[j]) = _
    unfold G.tupKeyC
    rw [if_pos (by simp [G.isTupObj, ho, hc])]
    simp only [tupKey, ho, hd]
    rfl
  · refine List.ext_getElem (by simp; omega) fun j h1 h2 => ?_
    rw [List.getElem_map, List.getElem_zip, List.getElem_range]
    rw [List.length_range] at h2
    obtain ⟨t, et⟩ := hv2 j vs[j] (List.getElem?_eq_getElem (by omega))
    show numN vs[j] = j
    rw [et, numN_int]
  · have : ∀ l : List Addr, (∀ p ∈ l, ∃ j : Nat, ks[j]? = some p) → ∃ fs, TupsOf s.heap sh0 (l.map Value.ref) fs := by
      intro l
      induction l with
      | nil => intro _; exact ⟨[], .nil⟩
      | cons p l ih =>
        intro hl
        obtain ⟨fs, hf⟩ := ih fun q hq => hl q (List.mem_cons_of_mem _ hq)
        obtain ⟨j, hj⟩ := hl p List.mem_cons_self
        obtain ⟨o, t1, u1, ho, hc, n, hd⟩ := tup j p hj
        exact ⟨_, .cons ⟨p, o, _, n, rfl, ho, hc, hd, rfl, fun _ => ⟨_, _, rfl⟩, fun z => by cases z⟩ hf⟩
    exact this ks fun p hp => List.mem_iff_getElem?.mp hp
theorem sort_tail {st : SortSt} (I : Inv X pins σ H s) (h0 : ∀ o' u', X.H_0 a ≠ some (.frz o' u')) (ha : H a = some (.frz (seqObj "list" #[] e1) (.lst []))) (hk : H kS = some (.lst (ks.map V.ref))) (hm : m ≤ 2 ^ 20) (hks : ks.length = m) (hf : failedOf st = none) {l : List Nat} (hv : Vals (nl l) ((arrOf st).toList.map Prod.snd)) (hl : l.length = m)
    (fin : ∀ s', Inv X pins σ (upd (upd (upd H kS (.lst [])) a (.lst [])) a (.lst (nl l))) s' → P (.done (.ret .none)) s') :
    wpAny (model X.prog X.w) A (ksk_tail a false e1 (.ref kS) st) P E s := by
  have nak : a ≠ kS := ne_of ha hk (by intro z; cases z)
  obtain ⟨_, its, n, r, hil, e⟩ := I.lstM hk
  rw [List.length_map] at hil
  have hz : m ≤ sizeLine := small (by omega)
  have I1 := I.lset (its' := []) (ys := []) (t' := s.toks) (f := fun _ => #[]) hk e rfl .nil (Nat.zero_le _)
  have ha1 : (upd H kS (.lst [])) a = some (.frz (seqObj "list" #[] e1) (.lst [])) := (upd_ne nak).trans ha
  have g1 : (s.heap.update kS (Obj.mapSeq fun _ => (#[] : Array Value))).get? a = some (seqObj "list" #[] e1) := (I1.hok a _ ha1).1
  have I2 := I1.unlock ha1 h0
  have hlen : ((arrOf st).map (·.2)).size = m := by
    rw [Array.size_map, ← Array.length_toList]
    have := hv.length
    rw [nl_length, List.length_map] at this
    omega
  have ea : (arrOf st).map (·.2) = ((arrOf st).toList.map Prod.snd).toArray := by
    apply Array.ext'
    rw [Array.toList_map]
  have I3 := I2.lset (its := []) (its' := (arrOf st).toList.map Prod.snd) (ys := nl l) (n := e1) (t' := s.toks) (f := fun _ => (arrOf st).map (·.2)) upd_same g1 ea hv (by rw [nl_length, hl]; exact hz)
  unfold ksk_tail
  try dsimp only
  refine wpAny_bind (listUpdate_at e rfl ?_ (by rw [List.size_toArray, ← hil, hks]; exact hz) (Nat.zero_le _))
  refine wpAny_bind (wpAny_letGo ?_)
  refine wpAny_bind (seqEpoch_at g1 rfl ?_)
  refine wpAny_bind (listUpdate_at g1 rfl ?_ (Nat.zero_le _) (Nat.le_trans (Nat.le_of_eq hlen) (by omega)))
  rw [hf]
  simp only [bne_self_eq_false, Bool.false_eq_true, if_false]
  exact wpAny_pure (fin _ I3)
theorem sort_end (I : Inv X pins σ H s) (h0 : ∀ o' u', X.H_0 a ≠ some (.frz o' u')) (ha : H a = some (.frz (seqObj "list" #[] e1) (.lst []))) (hk : H kS = some (.lst (ks.map V.ref))) (hm : m ≤ 2 ^ 20) (hks : ks.length = m)
    (ht : ∀ (j : Nat) p, ks[j]? = some p → H p = some (.tup [nv (k1 j), nv (k2 j)])) (hv : vs.length = m) (hv2 : ∀ (j : Nat) (x : Value), vs[j]? = some x → ∃ t, x = Value.int (j : Nat) t)
    (fin : ∀ l s', l.Perm (List.range m) → (l.Pairwise fun x y => ¬ Bf k1 k2 y x) → Inv X pins σ (upd (upd (upd H kS (.lst [])) a (.lst [])) a (.lst (nl l))) s' → P (.done (.ret .none)) s') :
    wpAny (model X.prog X.w) A (ksk_end a false vs.toArray e1 (.ref kS) (ks.map Value.ref).toArray) P E s := by
  obtain ⟨rel, num, fs, tups⟩ := krel_of I hks ht hv hv2
  have hzl : ((ks.map Value.ref).toArray.zip vs.toArray).toList = (ks.map Value.ref).zip vs := by simp
  have hzs : ((ks.map Value.ref).toArray.zip vs.toArray).size = m := by rw [← Array.length_toList, hzl, List.length_zip, List.length_map]; omega
  have out : ∀ st : SortSt, (arrOf st).Perm ((ks.map Value.ref).toArray.zip vs.toArray) → failedOf st = none → SortedToK (G.tupKindC s.heap sh0) (arrOf st) m → wpAny (model X.prog X.w) A (ksk_tail a false e1 (.ref kS) st) P E s := by
    intro st hp hf hs
    have hsz : (arrOf st).size = m := by rw [hp.size_eq]; exact hzs
    obtain ⟨l, l1, l2, l3⟩ := sk_out (arr := arrOf st) (h := s.heap) rel num (by rw [← hzl]; exact Array.perm_iff_toList_perm.mp hp) (by rw [hsz]; exact hs)
    exact sort_tail I h0 ha hk hm hks hf l1 (by rw [l2.length_eq, List.length_range]) fun s' I' => fin l s' l2 l3 I'
  unfold ksk_end
  simp only [Bool.false_eq_true, if_false]
  by_cases h2 : vs.toArray.size < 2
  · rw [if_pos h2, if_pos h2]
    refine wpAny_bind (wpAny_pure ?_)
    rw [StateT.run_pure]
    refine wpAny_bind (wpAny_pure ?_)
    try dsimp only
    refine out (SortSt.mk' general' ((ks.map Value.ref).toArray.zip vs.toArray) #[] 7 none) (Array.Perm.refl _) rfl ?_
    intro i j hij hj
    rw [List.size_toArray] at h2
    have : i = j := by omega
    subst this
    exact KeyOrd.kle_refl _
  · rw [if_neg h2, if_neg h2]
    rw [List.size_toArray] at h2
    refine wpAny_bind (tup_kind (shape := sh0) (fs := fs) ?_ tups ?_)
    · have := G.TupsOf.length tups
      rw [List.length_map] at this
      omega
    refine wpAny_bind (wpAny_mono (G.wpS_sortRunsSt (κ := G.tupKindC s.heap sh0) (kd := tuples' true) (a₀ := (ks.map Value.ref).toArray.zip vs.toArray) (st := SortSt.mk' (tuples' true) ((ks.map Value.ref).toArray.zip vs.toArray) #[] 7 none)
      (Q := fun _ st' => (arrOf st').Perm ((ks.map Value.ref).toArray.zip vs.toArray) ∧ failedOf st' = none ∧ SortedToK (G.tupKindC s.heap sh0) (arrOf st') ((ks.map Value.ref).toArray.zip vs.toArray).size)
      (G.tupC_ltAt true (G.KeepsTups.refl _)) (fun p hp => ?_) ⟨Array.Perm.refl _, rfl, rfl⟩ rfl (Stable.refl _) (by rw [hzs]; omega) fun st' a1 a2 a3 _ => ⟨a1, a2, a3⟩) ?_ fun _ _ e => e)
    · rw [hzl] at hp
      obtain ⟨x, t, _, kx⟩ := rel p hp
      exact ⟨_, kx⟩
    rintro ⟨⟨⟩, st'⟩ s' ⟨rfl, hp, hf, hs⟩
    try dsimp only
    exact out st' hp hf (by rw [← hzs]; exact hs)
end
end Sc
end
section
set_option Elab.async false
set_option linter.all false
set_option maxRecDepth 100000
set_option maxHeartbeats 4000000
namespace Sc
open PySem PySem.Spec PyProof.Rows L2 CM
open PySem.W (Codec)
section
variable {X : Cx} {pins : List (Addr × Obj)} {σ : L2.St} {H H0 : Hp} {s : Shared} {a kS q : Addr} {m e1 k : Nat} {vs : List Value} {k1 k2 : Nat → Nat} {A : Around} {P : PySem.Fin → Shared → Prop} {E : Value → Shared → Prop} {fd : FuncData} {ps : List Str}
theorem sort_rest (F : FnOk X.prog X.w X.K X.mg X.base CX0 k q fd ps (spKey (List.range m) k1 k2)) (hb : L2.Binds X.K fd ps []) (hr : Room k X.A.in1.in1) (I : Inv X pins σ H s) (h0 : ∀ o' u', X.H_0 a ≠ some (.frz o' u')) (ha : H a = some (.frz (seqObj "list" #[] e1) (.lst []))) (hk : H kS = some (.lst [])) (sm : Same H0 H) (hm : m ≤ 2 ^ 20)
    (hv : vs.length = m) (hv2 : ∀ (j : Nat) (x : Value), vs[j]? = some x → ∃ t, x = Value.int (j : Nat) t) (hn1 : H0 a = none) (hn2 : H0 kS = none)
    (fin : ∀ H' l s', Same H0 H' → l.Perm (List.range m) → (l.Pairwise fun x y => ¬ Bf k1 k2 y x) → Inv X pins σ (upd H' a (.lst (nl l))) s' → P (.done (.ret .none)) s') :
    wpAny (model X.prog X.w) X.A.in1.in1 (ksk_rest a (.ref q) false vs.toArray e1 (.ref kS)) P E s := by
  have nak : a ≠ kS := ne_of ha hk (by intro z; cases z)
  unfold ksk_rest
  refine wpAny_bind (wpAny_rule ?_)
  first
    | rw [List.forIn_toArray]
    | (rw [← Array.forIn_toList]; simp only [List.toList_toArray])
    | rw [← Array.forIn_toList]
  refine wpAny_bind (ksk_fold (fun i s' => ∃ H' ks, Inv X pins σ H' s' ∧ H' a = some (.frz (seqObj "list" #[] e1) (.lst [])) ∧ H' kS = some (.lst (ks.map V.ref)) ∧ Same H0 H' ∧ ks.length = i ∧ ∀ (j : Nat) p, ks[j]? = some p → H' p = some (.tup [nv (k1 j), nv (k2 j)])) vs 0 s
    ⟨H, [], I, ha, hk, sm, rfl, fun j p z => by simp at z⟩ ?step ?done)
  case step =>
    rintro j x s' hx ⟨H', ks, I', ha', hk', sm', hl, ht⟩
    simp only [Nat.zero_add] at hl ⊢
    have hj : j < m := by have := (List.getElem?_eq_some_iff.mp hx).1; omega
    obtain ⟨t, rfl⟩ := hv2 j x hx
    have hmem : j ∈ List.range m := List.mem_range.mpr hj
    refine wpAny_bind (wpAny_attempt ?_)
    have call := F.run X.A.in1.in1 X.stack s' H' ⟨[.int j t], []⟩ [.int j t] [nv j] (fun y H2 => ∃ p, y = .ref p ∧ Same H' H2 ∧ H2 p = some (.tup [nv (k1 j), nv (k2 j)])) E0 hr I'.env0.in1.in1
      (by
        have e := F.len [nv j] H' (fun y H2 => ∃ p, y = .ref p ∧ Same H' H2 ∧ H2 p = some (.tup [nv (k1 j), nv (k2 j)])) E0 ⟨j, rfl, hmem, fun H2 p s2 hp => ⟨p, rfl, s2, hp⟩⟩
        have := hb _ [.int j t] I'.kIn (by simpa using e)
        simpa using this) (.cons ⟨t, rfl⟩ .nil) ⟨j, rfl, hmem, fun H2 p s2 hp => ⟨p, rfl, s2, hp⟩⟩
    refine wpAny_call (codeAny_mono call fun res s2 hq => ?_)
    cases res with
    | error e => exact hq.elim
    | ok fl =>
      cases fl with
      | next => exact False.elim hq
      | brk => exact False.elim hq
      | cont => exact False.elim hq
      | ret w' =>
        obtain ⟨y, H2, I2, ry, p, rfl, s12, hp⟩ := I'.after hq
        cases ry
        have hk2 := s12 _ _ hk'
        obtain ⟨_, its, n, r, hil, e⟩ := I2.lstM hk2
        rw [List.length_map] at hil
        have hzz : m ≤ sizeLine := small (by omega)
        have npk : p ≠ kS := ne_of hp hk2 (by intro z; cases z)
        try dsimp only
        refine wpAny_bind (listUpdate_at e rfl ?_ (by rw [List.size_toArray, ← hil]; omega) (Nat.le_trans (Nat.le_of_eq (Array.size_push ..)) (by rw [List.size_toArray, ← hil]; omega)))
        have I3 := I2.lset (its' := its ++ [.ref p]) (ys := (ks ++ [p]).map V.ref) (t' := s2.toks) (f := (·.push (.ref p))) hk2 e (by simp) (by rw [List.map_append]; exact r.append (.cons rfl .nil)) (by rw [List.length_map, List.length_append, List.length_singleton]; omega)
        refine wpAny_pure ⟨rfl, _, ks ++ [p], I3, (upd_ne nak).trans (s12 _ _ ha'), upd_same, same_upd hn2 (sm'.trans s12), by rw [List.length_append, hl]; rfl, fun i p' e' => ?_⟩
        rcases Nat.lt_or_ge i ks.length with z | z
        · rw [List.getElem?_append_left z] at e'
          have := ht i p' e'
          have h2 := s12 _ _ this
          rw [upd_ne (ne_of h2 hk2 (by intro z; cases z))]
          exact h2
        · rw [List.getElem?_append_right z] at e'
          have e0 : i - ks.length = 0 := by
            have := (List.getElem?_eq_some_iff.mp e').1
            rw [List.length_singleton] at this
            omega
          rw [e0] at e'
          have e3 : p = p' := by simpa using e'
          subst e3
          have e4 : i = j := by omega
          subst e4
          rw [upd_ne npk]; exact hp
  case done =>
    rintro s' ⟨H', ks, I', ha', hk', sm', hl, ht⟩
    simp only [Nat.zero_add] at hl
    obtain ⟨_, its, n, r, hil, e⟩ := I'.lstM hk'
    have ek := vals_refs r
    subst ek
    try dsimp only
    refine wpAny_bind (listItems_at e rfl ?_)
    refine sort_end (k1 := k1) (k2 := k2) I' h0 ha' hk' hm (by omega) ht hv hv2 fun l s2 l1 l2 I2 => fin _ l s2 ?_ l1 l2 I2
    exact same_upd hn1 (same_upd hn2 sm')
theorem sort_range {Q : VK} {r : Addr} {t u v : Tok} (hc : X.calm = true) (F : FnOk X.prog X.w X.K X.mg X.base CX0 k q fd ps (spKey (List.range m) k1 k2)) (hb : L2.Binds X.K fd ps []) (hr : Room (k + 2) X.A) (I : Inv X pins σ H s) (hR : IsRange s.heap r 0 (m : Int) 1 t u v) (hm : m ≤ 2 ^ 20)
    (fin : ∀ (H' : Hp) (l : List Nat) (p : Addr), Same H H' → l.Perm (List.range m) → (l.Pairwise fun x y => ¬ Bf k1 k2 y x) → H p = none → Q (.ref p) (upd H' p (.lst (nl l)))) :
    wpAny (model X.prog X.w) X.A (call (.builtin "sorted") [.ref r] [(Str.ofString "key", .ref q)]) (EP X pins σ Q) X.xe s := by
  refine call_function_entry_kw kind_sorted plain_sorted entry_sorted (ksk_s1 _ _) ?_
  unfold Builtin.«sorted»
  refine wpAny_bind (m := checkCount "sorted" 1 1 _) (wpAny_pure ?_)
  refine wpAny_bind (collect_range (show X.A.in1.handled = none from I.ok.hd hc) hR hm fun h1 tk vs hk1 hv hv2 => ?_)
  have hzz : m ≤ sizeLine := small (by omega)
  refine wpAny_bind (wpAny_newList ?_ (by rw [hv]; exact hzz))
  have I1 : Inv X pins σ H { s with heap := h1, toks := tk } := I.kept hk1
  have ho : (h1.push (seqObj "list" vs.toArray 0)).get? h1.objs.size = some (seqObj "list" vs.toArray 0) := Heap.get?_push_size _ rfl
  refine wpAny_bind (wpAny_holding (wpAny_call_entry_kw slot_list_sort ⟨_, ho, rfl⟩ entry_list_sort ?body (ksk_l1 _ _)))
  case body =>
    show wpAny (model X.prog X.w) X.A.in1.in1 (Builtin.«list.sort» ⟨[.ref h1.objs.size], [(Str.ofString "key", .ref q)]⟩) _ _ _
    rw [ksk_t1]
    unfold ksk_tree
    refine wpAny_bind (listItems_at ho rfl ?_)
    refine wpAny_bind (listUpdate_at ho rfl ?_ (by rw [List.size_toArray, hv]; exact hzz) (Nat.zero_le _))
    obtain ⟨e1, ho1⟩ : ∃ e1, ((h1.push (seqObj "list" vs.toArray 0)).update h1.objs.size (Obj.mapSeq fun _ => (#[] : Array Value))).get? h1.objs.size = some (seqObj "list" #[] e1) := ⟨_, get?_update_seq ho fun _ => #[]⟩
    refine wpAny_bind (seqEpoch_at ho1 rfl ?_)
    refine wpAny_bind (wpAny_newTuple ?_ (by show vs.length ≤ _; rw [hv]; exact hzz))
    refine wpAny_bind (wpAny_newList ?_ (Nat.zero_le _))
    refine wpAny_holding ?_
    have kp1 : ∀ b o, h1.get? b = some o → ((h1.push (seqObj "list" vs.toArray 0)).update h1.objs.size (Obj.mapSeq fun _ => (#[] : Array Value))).get? b = some o := fun b o e =>
      (Heap.get?_update_other _ _ (Nat.ne_of_gt (Heap.lt_size e))).trans (Heap.get?_push_of_some _ e)
    generalize hh3 : (h1.push (seqObj "list" vs.toArray 0)).update h1.objs.size (Obj.mapSeq fun _ => (#[] : Array Value)) = h3 at ho1 kp1 ⊢
    show wpAny _ _ (ksk_rest h1.objs.size (.ref q) false vs.toArray e1 (.ref (h3.push (seqObj "tuple" vs.toArray 0)).objs.size)) _ _ { s with heap := (h3.push (seqObj "tuple" vs.toArray 0)).push (seqObj "list" #[] 0), toks := tk }
    have kp2 : ∀ b o, h1.get? b = some o → (h3.push (seqObj "tuple" vs.toArray 0)).get? b = some o := fun b o e => Heap.get?_push_of_some _ (kp1 b o e)
    have g4 : (h3.push (seqObj "tuple" vs.toArray 0)).get? h1.objs.size = some (seqObj "list" #[] e1) := Heap.get?_push_of_some _ ho1
    generalize h3.push (seqObj "tuple" vs.toArray 0) = h4 at kp2 g4 ⊢
    have fA : H h1.objs.size = none := I1.hok.fresh (Nat.le_refl _)
    have I4 : Inv X pins σ (upd H h1.objs.size (.lst [])) { s with heap := h4, toks := tk } := I1.laid (t' := tk) kp2 (Nat.le_refl _) (show ObjOk X.prog X.w _ h4 _ (.lst []) from ⟨Nat.zero_le _, [], e1, .nil, g4⟩)
    have lt4 : h1.objs.size < h4.objs.size := Heap.lt_size g4
    have nak : h1.objs.size ≠ h4.objs.size := Nat.ne_of_lt lt4
    have fK : H h4.objs.size = none := by
      have := I4.hok.fresh (a := h4.objs.size) (Nat.le_refl _)
      rwa [upd_ne (Ne.symm nak)] at this
    have g5 : (h4.push (seqObj "list" #[] 0)).get? h1.objs.size = some (seqObj "list" #[] e1) := Heap.get?_push_of_some _ g4
    have I5 : Inv X pins σ (upd (upd H h1.objs.size (.lst [])) h4.objs.size (.lst [])) { s with heap := h4.push (seqObj "list" #[] 0), toks := tk } :=
      I4.laid (t' := tk) (fun b o e => Heap.get?_push_of_some _ e) (Nat.le_refl _) (show ObjOk X.prog X.w _ _ _ (.lst []) from ⟨Nat.zero_le _, [], 0, .nil, Heap.get?_push_size _ rfl⟩)
    have hA5 : (upd (upd H h1.objs.size (.lst [])) h4.objs.size (.lst [])) h1.objs.size = some (.lst []) := (upd_ne nak).trans upd_same
    have n0 := I5.nofrz hA5 (show Mut (some (HO.lst [])) from trivial)
    obtain ⟨od, I6⟩ := I5.lock hA5 (show Mut (some (HO.lst [])) from trivial)
    have eod : od = seqObj "list" #[] e1 := by
      have := (I6.hok h1.objs.size _ upd_same).1
      rw [g5] at this
      exact (Option.some.inj this).symm
    subst eod
    refine sort_rest (H0 := H) F hb hr.in1.in1 I6 n0 upd_same ((upd_ne (Ne.symm nak)).trans upd_same) ?_ hm hv hv2 fA fK fun H' l s' sm l1 l2 I' => ⟨_, rfl, ?_⟩
    · exact same_upd fA (same_upd fK (same_new fA))
    · exact wpAny_pure ⟨_, rfl, .ref _, _, I', rfl, fin H' l _ sm l1 l2 fA⟩
def tSortR (X : Cx) (k : Nat) (q : Addr) (k1 k2 : Nat → Nat) (te : TE) : TE := fun σ H Q => te σ H fun v H1 => ∃ (m : Nat) (fd : FuncData) (ps : List Str), v = nv m ∧ m ≤ 2 ^ 20 ∧ FnOk X.prog X.w X.K X.mg X.base CX0 k q fd ps (spKey (List.range m) k1 k2) ∧ L2.Binds X.K fd ps [] ∧
  ∀ (H' : Hp) (l : List Nat) (p : Addr), Same H1 H' → l.Perm (List.range m) → (l.Pairwise fun x y => ¬ Bf k1 k2 y x) → H1 p = none → Q (.ref p) (upd H' p (.lst (nl l)))
theorem pe_sortR {e : Expr} {te : TE} {x : Str} {p pr px pos pos1 kpos : Pos} (k1 k2 : Nat → Nat) (hc : X.calm = true) (hr : Room (k + 2) X.A) (hg : Gl X "sorted") (hms : X.mg "sorted" = none) (hgr : Gl X "range") (hmr : X.mg "range" = none) (hgx : Gl X x) (hmx : X.mg x = some (.ref q)) (he : PE X e te)
    (hd : (x == ("__debug__" : Str)) = false := by decide) (hs1 : starEach [e] X.env = [(false, eval e X.env)] := by rfl)
    (hs : starEach [.Call (.Name "range" pr) [e] [] pos1] X.env = [(false, eval (.Call (.Name "range" pr) [e] [] pos1) X.env)] := by rfl) (hpl : (backTo pos (starEach [.Call (.Name "range" pr) [e] [] pos1] X.env)).any (·.1) = false := by rfl) :
    PE X (.Call (.Name "sorted" p) [.Call (.Name "range" pr) [e] [] pos1] [⟨some "key", .Name x px, kpos⟩] pos) (tSortR X k q k1 k2 te) := by
  intro pins s σ H Q I h
  refine wpAny_Call_Name_kw (ld_blt I hg hms boot_sorted ?_)
  refine callWith_kw ?args (by rw [hs]; rfl) hpl
  rw [hs]
  show wpAny _ _ (spliced ((false, eval (.Call (.Name "range" pr) [e] [] pos1) X.env) :: [])) _ _ s
  refine Calls.spliced_cons ?_
  refine Call_ (ld_blt I hgr hmr boot_range (PyProof.Rows.callWith_type1 (thn ((pa_cons he pa_nil hs1 : PA X [e] _) pos1 pins s σ H (fun vs H1 => match vs with
    | [v] => ∃ (m : Nat) (fd : FuncData) (ps : List Str), v = nv m ∧ m ≤ 2 ^ 20 ∧ FnOk X.prog X.w X.K X.mg X.base CX0 k q fd ps (spKey (List.range m) k1 k2) ∧ L2.Binds X.K fd ps [] ∧
      ∀ (H' : Hp) (l : List Nat) (p : Addr), Same H1 H' → l.Perm (List.range m) → (l.Pairwise fun x y => ¬ Bf k1 k2 y x) → H1 p = none → Q (.ref p) (upd H' p (.lst (nl l)))
    | _ => False) I h) fun us s1 ⟨vs, H1, I1, r1, q1⟩ => ?_) hs1 rfl))
  match vs, r1, q1 with
  | [v], .cons r .nil, ⟨m, fd, ps, e1, hm, F, hb, fin⟩ =>
    subst e1
    obtain ⟨t, rfl⟩ := r
    refine call_range_1 (Calls.spliced_nil ?_)
    have I2 : Inv X pins σ H1 { s1 with heap := s1.heap.push { cls := .type "range", data := .fields #[.int 0 s1.toks, .int (m : Int) t, .int 1 (s1.toks + 1)] }, toks := s1.toks + 1 + 1 } := I1.kept fun b o e => Heap.get?_push_of_some _ e
    exact kws_cons (ld_glob I2 hgx hmx (kws_nil (sort_range hc F hb hr I2 (IsRange.new ..) hm fin)) hd)
end
end Sc
end
section
set_option Elab.async false
set_option linter.all false
set_option maxRecDepth 100000
set_option maxHeartbeats 4000000
namespace Sc
open PySem PySem.Spec PyProof.Rows L2 CM
open PySem.W (Codec)
def spSameCodes (C : Addr) : L2.Sp := fun vs H Q _ => ∃ (a b : Addr) (c d : Cb.Code), vs = [.ref a, .ref b] ∧ CodeAt C H a c ∧ CodeAt C H b d ∧ Q (.bl (decide (c.n = d.n ∧ c.rows = d.rows))) H
def spIsWithin (C : Addr) : L2.Sp := fun vs H Q _ => ∃ (a b : Addr) (c d : Cb.Code), vs = [.ref a, .ref b] ∧ CodeAt C H a c ∧ CodeAt C H b d ∧ Good c ∧ Good d ∧ ∀ H', Same H H' → Q (.bl (Cb.within c d)) H'
def spSumPicked (C : Addr) : L2.Sp := fun vs H Q _ => ∃ (a : Addr) (c : Cb.Code) (m : Nat), vs = [.ref a, nv m] ∧ CodeAt C H a c ∧ ∀ H', Same H H' → Q (nv (Cb.encoded c m)) H'
def spPicksOf (C : Addr) : L2.Sp := fun vs H Q _ => ∃ (a : Addr) (c : Cb.Code) (x : Nat), vs = [.ref a, nv x] ∧ CodeAt C H a c ∧ Good c ∧ ∀ H', Same H H' → Q (nv (Cb.message c x)) H'
theorem dp_nats {K : PySem.W.Frag} {H : Hp} : ∀ l : List Nat, DpAll K H (nl l) ((l.map fun (z : Nat) => (z : Int)).map PyData.int)
  | [] => .nil
  | x :: l => .cons (.int _) (dp_nats l)
theorem eqv_nats : ∀ a b : List Nat, PyData.eqvAll ((a.map fun (z : Nat) => (z : Int)).map PyData.int) ((b.map fun (z : Nat) => (z : Int)).map PyData.int) = decide (a = b)
  | [], [] => rfl
  | [], _ :: _ => rfl
  | _ :: _, [] => rfl
  | x :: a, y :: b => by
    show (((x : Int) == (y : Int)) && PyData.eqvAll ((a.map fun (z : Nat) => (z : Int)).map PyData.int) ((b.map fun (z : Nat) => (z : Int)).map PyData.int)) = _
    rw [eqv_nats a b, Bool.eq_iff_iff, Bool.and_eq_true, beq_iff_eq, decide_eq_true_eq, decide_eq_true_eq, List.cons.injEq]
    constructor
    · rintro ⟨h1, h2⟩; exact ⟨by omega, h2⟩
    · rintro ⟨h1, h2⟩; exact ⟨by omega, h2⟩
theorem pair_read {K : PySem.W.Frag} {T : Addr} {x y : V} {i j : Nat} {σ : L2.St} {H : Hp} {Q : L2.St → Hp → Prop} (hT : H T = some (.tup [x, y])) (q : Q ((σ.set i (some x)).set j (some y)) H) : gTup K 2 (gCons (gName i) (gCons (gName j) gNil)) (.ref T) σ H Q :=
  ⟨T, _, rfl, SqT.of hT, rfl, x, _, rfl, y, _, rfl, rfl, q⟩
section
variable {P : Program} {w : World} {K : PySem.W.Frag} {mg : Str → Option Value} {base : Heap} {C : Addr}
theorem scSameCodes : FnScope ["first", "second"] ["first", "second"] (defScope sSameCodes) := ⟨rfl, rfl, rfl, by decide +kernel, rfl, by decide +kernel, by decide +kernel⟩
theorem ok_sameCodes {f : Addr} {fd : FuncData} (F : Fun K "same_codes" "same_codes" sSameCodes f fd) (T : Tx K mg C) : FnOk P w K mg base CX0 1 f fd ["first", "second"] (spSameCodes C) := by
  refine F.ok scSameCodes (fun vs H Q E h => ?_) (fun cdv A outer s H vs Q E hr h => ?_)
  · obtain ⟨a, b, c, d, rfl, _⟩ := h; rfl
  · obtain ⟨a, b, c, d, rfl, ⟨dx, l, ha, hl⟩, ⟨dy, m, hb, hm⟩, k⟩ := h
    refine ⟨_, pss_one (ps_ret (pe_and (pe_cmpR op_eq (pe_fld (pv 0) rfl) (pe_fld (pv 1) rfl) (nomark _)) (pe_one (pe_cmpR (op_eqD hr.units) (pe_fld (pv 0) rfl) (pe_fld (pv 1) rfl) (nomark _))))), ?_⟩
    refine ⟨_, rfl, a, C, dx, _, _, rfl, ha, T.cl, T.nN, cf_n _ _, _, rfl, b, C, dy, _, _, rfl, hb, T.cl, T.nN, cf_n _ _, rfl, _, rfl, ite2 (fun z => ?_) fun z => ?_⟩
    · have en : c.n = d.n := by
        have : nv c.n = nv d.n := by simpa using z
        have := V.int.inj this
        omega
      refine ⟨_, rfl, a, C, dx, _, _, rfl, ha, T.cl, T.nR, cf_rows _ _, _, rfl, b, C, dy, _, _, rfl, hb, T.cl, T.nR, cf_rows _ _, .list ((c.rows.map fun (z : Nat) => (z : Int)).map PyData.int), .list ((d.rows.map fun (z : Nat) => (z : Int)).map PyData.int), .lst (SqL.of hl) (dp_nats _), .lst (SqL.of hm) (dp_nats _), PySem.W.ke_shaped_ints _, PySem.W.ke_shaped_ints _, ?_⟩
      show Q (.bl (PyData.eqvAll _ _)) H
      rw [eqv_nats]
      rw [show decide (c.n = d.n ∧ c.rows = d.rows) = decide (c.rows = d.rows) by rw [Bool.eq_iff_iff, decide_eq_true_eq, decide_eq_true_eq]; exact ⟨fun h => h.2, fun h => ⟨en, h⟩⟩] at k
      exact k
    · have en : ¬ c.n = d.n := fun e => by rw [e] at z; exact z (by simp)
      rw [show decide (c.n = d.n ∧ c.rows = d.rows) = false from decide_eq_false fun h => en h.1] at k
      exact k
theorem scIsWithin : FnScope ["first", "second", "row"] ["first", "second"] (defScope sIsWithin) := ⟨rfl, rfl, rfl, by decide +kernel, rfl, by decide +kernel, by decide +kernel⟩
theorem ok_isWithin {f : Addr} {fd : FuncData} (F : Fun K "is_within" "is_within" sIsWithin f fd) (T : Tx K mg C) (mall : mg "all" = none) (CH : Cal P w K mg base 3 "has_word" ["code", "word"] (spHasWord C)) : FnOk P w K mg base CX0 4 f fd ["first", "second"] (spIsWithin C) := by
  refine F.ok scIsWithin (fun vs H Q E h => ?_) (fun cdv A outer s H vs Q E hr h => ?_)
  · obtain ⟨a, b, c, d, rfl, _⟩ := h; rfl
  · obtain ⟨a, b, c, d, rfl, hc, hd, g, g', k⟩ := h
    obtain ⟨dx, l, ha, hl⟩ := id hc
    refine ⟨_, pss_one (ps_ret (pe_callB (cr_all rfl) rfl mall boot_all (pa_cons
      (pe_lc (own := [("row", 2)]) rfl scIsWithin.nd (pi_list (pe_fld (pv 0) rfl)) (blkOk_by (by show blkC ["first", "second", "row"] (defScope sIsWithin) _ _ = true; decide +kernel)) (fun _ _ _ _ _ => pg_name (i := 2) scIsWithin.nd rfl (Or.inl rfl))
          (fun _ _ _ _ _ => pts_nil) (fun _ _ _ _ _ => pe_cal CH hr rfl (pa_cons (pv 1) (pa_cons (pv 2) pa_nil)))) pa_nil))), ?_⟩
    have hlen := good_small g
    refine ⟨_, rfl, a, C, dx, _, _, rfl, ha, T.cl, T.nR, cf_rows _ _, l, rfl, ⟨_, SqL.of hl⟩, fun D hD => lc_bools (K := K) (a := l) (l := c.rows) (p := fun r => rdc d.rows r == 0) hD (fun H' q => SqL.of (q _ _ hl)) (by omega) ?_ ?_⟩
    · intro x hx H' sm Y hY
      exact ⟨rfl, _, rfl, _, rfl, b, d, x, rfl, hd.same sm, g', hY H' (Same.refl _)⟩
    · intro H2 s2 hD2
      refine ⟨D, _, rfl, SqL.of hD2, ?_⟩
      have e : (c.rows.map fun r => rdc d.rows r == 0).all id = Cb.within c d := by
        unfold Cb.within Cb.holds
        rw [List.all_map]
        refine congrArg c.rows.all (funext fun r => ?_)
        show (rdc d.rows r == 0) = _
        rw [g'.form.less]
      rw [e]
      exact k H2 s2
theorem scSumPicked : FnScope ["code", "picks", "total", "j", "row"] ["code", "picks"] (defScope sSumPicked) := ⟨rfl, rfl, rfl, by decide +kernel, rfl, by decide +kernel, by decide +kernel⟩
theorem ok_sumPicked {f : Addr} {fd : FuncData} (F : Fun K "sum_of_picked" "sum_of_picked" sSumPicked f fd) (T : Tx K mg C) (me : mg "enumerate" = none) (CB : Cal P w K mg base 1 "has_bit" ["word", "i"] spHasBit) : FnOk P w K mg base CX0 2 f fd ["code", "picks"] (spSumPicked C) := by
  refine F.ok scSumPicked (fun vs H Q E h => ?_) (fun cdv A outer s H vs Q E hr h => ?_)
  · obtain ⟨a, c, m, rfl, _⟩ := h; rfl
  · obtain ⟨a, c, m, rfl, ⟨dx, l, ha, hl⟩, k⟩ := h
    refine ⟨_, pss_cons (ps_set (i := 2) scSumPicked.nd rfl (Or.inl rfl) pe_int)
      (pss_cons (ps_for PassesOwn.never rfl (pi_enum rfl me (pa_cons (pe_fld (pv 0) rfl) pa_nil)) (pg_tup rfl (pgs_cons (pg_name (i := 3) scSumPicked.nd rfl (Or.inl rfl)) (pgs_cons (pg_name (i := 4) scSumPicked.nd rfl (Or.inl rfl)) pgs_nil)))
        (pss_one (ps_if (pt_val (pe_cal CB hr rfl (pa_cons (pv 1) (pa_cons (pv 3) pa_nil))))
          (pss_one (ps_aug (i := 2) scSumPicked.nd rfl (Or.inl rfl) (pv 4) iop_xor)) pss_nil)))
      (pss_one (ps_ret (pv 2)))), ?_⟩
    refine ⟨_, rfl, a, C, dx, _, _, rfl, ha, T.cl, T.nR, cf_rows _ _, l, _, rfl, SqL.of hl, for_enum (K := K) (a := l) (xs := nl c.rows) (fun i σ H' => Same H H' ∧ ∃ u v, σ = [some (.ref a), some (nv m), some (nv (pck m (c.rows.take i))), u, v])
      ⟨Same.refl _, none, none, rfl⟩ (fun i σ H' _ ⟨q, _⟩ => SqL.of (q _ _ hl)) ?_ ?_⟩
    · rintro i y σ H' T' hi ⟨sm, u, v, rfl⟩ hT'
      obtain ⟨r, hr', rfl⟩ := nl_at hi
      have s2 := same_new (o := .tup [.int (i : Nat), nv r]) hT'
      refine pair_read upd_same ?_
      refine ⟨_, rfl, _, rfl, m, i, rfl, _, rfl, ite2 (fun q => ?_) fun q => ?_⟩
      · refine ⟨_, rfl, _, rfl, _, _, rfl, rfl, sm.trans s2, some (nv i), some (nv r), ?_⟩
        have e := xor_nat (pck m (c.rows.take i)) r
        rw [pck_take hr', if_pos q]
        show [some (V.ref a), some (nv m), some (V.int (Builtin.bitXor ((pck m (c.rows.take i) : Nat) : Int) (r : Int))), some (nv i), some (nv r)] = _
        rw [e]
      · refine ⟨sm.trans s2, some (nv i), some (nv r), ?_⟩
        rw [pck_take hr', if_neg q]; rfl
    · rintro σ H' ⟨sm, u, v, rfl⟩
      rw [nl_length, List.take_length]
      exact ⟨_, rfl, k H' sm⟩
theorem scPicksOf : FnScope ["code", "word", "picks", "j", "row"] ["code", "word"] (defScope sPicksOf) := ⟨rfl, rfl, rfl, by decide +kernel, rfl, by decide +kernel, by decide +kernel⟩
theorem ok_picksOf {f : Addr} {fd : FuncData} (F : Fun K "picks_of" "picks_of" sPicksOf f fd) (T : Tx K mg C) (me : mg "enumerate" = none) (CB : Cal P w K mg base 1 "has_bit" ["word", "i"] spHasBit) (CH : Cal P w K mg base 1 "highest_place" ["word"] spHighest) : FnOk P w K mg base CX0 2 f fd ["code", "word"] (spPicksOf C) := by
  refine F.ok scPicksOf (fun vs H Q E h => ?_) (fun cdv A outer s H vs Q E hr h => ?_)
  · obtain ⟨a, c, x, rfl, _⟩ := h; rfl
  · obtain ⟨a, c, x, rfl, ⟨dx, l, ha, hl⟩, g, k⟩ := h
    refine ⟨_, pss_cons (ps_set (i := 2) scPicksOf.nd rfl (Or.inl rfl) pe_int)
      (pss_cons (ps_for PassesOwn.never rfl (pi_enum rfl me (pa_cons (pe_fld (pv 0) rfl) pa_nil)) (pg_tup rfl (pgs_cons (pg_name (i := 3) scPicksOf.nd rfl (Or.inl rfl)) (pgs_cons (pg_name (i := 4) scPicksOf.nd rfl (Or.inl rfl)) pgs_nil)))
        (pss_one (ps_if (pt_val (pe_cal CB hr rfl (pa_cons (pv 1) (pa_cons (pe_cal CH hr rfl (pa_cons (pv 4) pa_nil)) pa_nil))))
          (pss_one (ps_aug (i := 2) scPicksOf.nd rfl (Or.inl rfl) (pe_op op_shl pe_int (pv 3)) iop_or)) pss_nil)))
      (pss_one (ps_ret (pv 2)))), ?_⟩
    have hlen := good_small g
    refine ⟨_, rfl, a, C, dx, _, _, rfl, ha, T.cl, T.nR, cf_rows _ _, l, _, rfl, SqL.of hl, for_enum (K := K) (a := l) (xs := nl c.rows) (fun i σ H' => Same H H' ∧ ∃ u v, σ = [some (.ref a), some (nv x), some (nv (bts (fun r => Cb.bit x r.log2) (c.rows.take i))), u, v])
      ⟨Same.refl _, none, none, rfl⟩ (fun i σ H' _ ⟨q, _⟩ => SqL.of (q _ _ hl)) ?_ ?_⟩
    · rintro i y σ H' T' hi ⟨sm, u, v, rfl⟩ hT'
      obtain ⟨r, hr', rfl⟩ := nl_at hi
      have hm := List.mem_of_getElem? hr'
      have s2 := same_new (o := .tup [.int (i : Nat), nv r]) hT'
      have hi' : i < 10 := by have := (List.getElem?_eq_some_iff.mp hr').1; omega
      have step := bts_or (p := fun r => Cb.bit x r.log2) (fun r => bit_le _ _) hr'
      refine pair_read upd_same ?_
      refine ⟨_, rfl, _, rfl, r, rfl, g.form.nz r hm, x, r.log2, rfl, _, rfl, ite2 (fun q => ?_) fun q => ?_⟩
      · refine ⟨_, rfl, _, rfl, _, _, rfl, rfl, ⟨by omega, by omega, by decide⟩, _, _, rfl, rfl, sm.trans s2, some (nv i), some (nv r), ?_⟩
        have e := shl_nat 1 i
        have e2 := or_nat (bts (fun r => Cb.bit x r.log2) (c.rows.take i)) (2 ^ i)
        rw [step, if_pos (bit_one.mpr q)]
        show [some (V.ref a), some (nv x), some (V.int (Builtin.bitOr ((bts (fun r => Cb.bit x r.log2) (c.rows.take i) : Nat) : Int) (((1 : Nat) : Int) * 2 ^ ((i : Nat) : Int).toNat))), some (nv i), some (nv r)] = _
        rw [e, Nat.one_mul, e2]
      · refine ⟨sm.trans s2, some (nv i), some (nv r), ?_⟩
        rw [step, if_neg (fun z => q (bit_one.mp z))]; rfl
    · rintro σ H' ⟨sm, u, v, rfl⟩
      rw [nl_length, List.take_length]
      refine ⟨_, rfl, ?_⟩
      rw [← message_eq g.form]
      exact k H' sm
end
end Sc
end
section
set_option Elab.async false
set_option linter.all false
set_option maxRecDepth 100000
set_option maxHeartbeats 4000000
namespace Sc
open PySem PySem.Spec PyProof.Rows L2 CM
open PySem.W (Codec)
def spLeaderOf (C : Addr) : L2.Sp := fun vs H Q _ => ∃ (a : Addr) (c : Cb.Code) (y : Nat), vs = [.ref a, nv y] ∧ CodeAt C H a c ∧ Good c ∧ y < 2 ^ c.n ∧ ∀ H', Same H H' → Q (nv (Cb.leader c y)) H'
def spNearest (C : Addr) : L2.Sp := fun vs H Q _ => ∃ (a : Addr) (c : Cb.Code) (y : Nat), vs = [.ref a, nv y] ∧ CodeAt C H a c ∧ Good c ∧ y < 2 ^ c.n ∧ ∀ (H' : Hp) (p : Addr), Same H H' → H p = none → H' p = some (.lst (nl (nws c y))) → Q (.ref p) H'
def dkv (d : List (Nat × Nat)) : List (Key × V) := d.map fun p => (Sum.inl (p.1 : Int), nv p.2)
def spLeadersOf (C : Addr) : L2.Sp := fun vs H Q _ => ∃ (a : Addr) (c : Cb.Code), vs = [.ref a] ∧ CodeAt C H a c ∧ Good c ∧ ∀ (H' : Hp) (p : Addr) (d : List (Nat × Nat)), Same H H' → H p = none → H' p = some (.dK (dkv d)) → Ldr c d → Q (.ref p) H'
theorem words_small {c : Cb.Code} (g : Good c) : (wds c.rows).length ≤ 1024 := by
  rw [length_wds]
  exact show 2 ^ _ ≤ 2 ^ 10 from Nat.pow_le_pow_right (by decide) (good_small g)
theorem pow_small {c : Cb.Code} (g : Good c) : 2 ^ c.n ≤ 1024 := show 2 ^ _ ≤ 2 ^ 10 from Nat.pow_le_pow_right (by decide) g.hi
theorem dkv_val (k : Nat) : ∀ d : List (Nat × Nat), valV (dkv d) (Sum.inl (k : Int) : Key) = ((d.find? fun p => p.1 == k).map fun p => nv p.2)
  | [] => rfl
  | p :: d => by
    have ih := dkv_val k d
    unfold dkv at ih ⊢
    rw [List.map_cons, List.find?_cons]
    by_cases e : p.1 = k
    · subst e
      rw [valV_pos rfl]; simp
    · rw [valV_neg (fun z => e (by have := Sum.inl.inj z; omega)), ih]
      rw [show (p.1 == k) = false from beq_eq_false_iff_ne.mpr e]
theorem dkv_some (k : Nat) (d : List (Nat × Nat)) : (valV (dkv d) (Sum.inl (k : Int) : Key)).isSome = (d.map Prod.fst).contains k := by
  rw [dkv_val, Option.isSome_map, Bool.eq_iff_iff, List.find?_isSome, List.contains_iff_mem, List.mem_map]
  constructor
  · rintro ⟨p, hp, e⟩; exact ⟨p, hp, eq_of_beq e⟩
  · rintro ⟨p, hp, e⟩; exact ⟨p, hp, by rw [e]; exact beq_self_eq_true _⟩
theorem dkv_put {d : List (Nat × Nat)} {k v : Nat} (h : (d.map Prod.fst).contains k = false) : putK (dkv d) (Sum.inl (k : Int) : Key) (nv v) = dkv (d ++ [(k, v)]) := by
  unfold putK
  rw [valV_any, dkv_some, h, if_neg (by decide)]
  unfold dkv
  rw [List.map_append]; rfl
theorem dkv_get {c : Cb.Code} {d : List (Nat × Nat)} (L : Ldr c d) (g : IsForm c.n c.rows) {k : Nat} (hk : k ∈ d.map Prod.fst) : valV (dkv d) (Sum.inl (k : Int) : Key) = some (nv (Cb.leader c k)) := by
  rw [dkv_val]
  obtain ⟨p, hp, e⟩ := List.mem_map.mp hk
  cases q : d.find? fun p => p.1 == k with
  | none =>
    have := List.find?_eq_none.mp q p hp
    rw [e] at this
    simp at this
  | some p' =>
    have e1 : p'.1 = k := eq_of_beq (List.find?_some (p := fun (p : Nat × Nat) => p.1 == k) q)
    have e2 := L.val p' (List.mem_of_find?_eq_some q)
    rw [e1] at e2
    show some (nv p'.2) = _
    rw [e2]
section
variable {P : Program} {w : World} {K : PySem.W.Frag} {mg : Str → Option Value} {base : Heap} {C : Addr}
theorem scLeaderOf : FnScope ["code", "y", "word"] ["code", "y"] (defScope sLeaderOf) := ⟨rfl, rfl, rfl, by decide +kernel, rfl, by decide +kernel, by decide +kernel⟩
theorem ok_leaderOf {f : Addr} {fd : FuncData} (F : Fun K "leader_of" "leader_of" sLeaderOf f fd) (T : Tx K mg C) (mm : mg "min" = none) (CW : Cal P w K mg base 1 "words_of" ["code"] (spWords C)) (CB : Cal P w K mg base 2 "by_weight" ["word"] spByWeight) :
    FnOk P w K mg base CX0 4 f fd ["code", "y"] (spLeaderOf C) := by
  obtain ⟨fb, fdb, FB, mb, kb, bb⟩ := CB.ex
  refine F.ok scLeaderOf (fun vs H Q E h => ?_) (fun cdv A outer s H vs Q E hr h => ?_)
  · obtain ⟨a, c, y, rfl, _⟩ := h; rfl
  · obtain ⟨a, c, y, rfl, hc, g, hy, k⟩ := h
    refine ⟨_, pss_one (ps_ret (pe_callBK (ckr_mink (k := 2) (k1 := Cb.weight c.n) (k2 := id) rfl hr) rfl mm boot_min (pa_cons
      (pe_lc (own := [("word", 2)]) rfl scLeaderOf.nd (pi_list (pe_cal CW hr rfl (pa_cons (pv 0) pa_nil))) (blkOk_by (by show blkC ["code", "y", "word"] (defScope sLeaderOf) _ _ = true; decide +kernel)) (fun _ _ _ _ _ => pg_name (i := 2) scLeaderOf.nd rfl (Or.inl rfl))
        (fun _ _ _ _ _ => pts_nil) (fun _ _ _ _ _ => pe_op op_xor (pv 2) (pv 1))) pa_nil) (pe_glob (v := .ref fb) rfl mb rfl))), ?_⟩
    have hlen := words_small g
    refine ⟨_, rfl, a, c, rfl, hc, good_small g, fun H1 pw s1 _ hpw => ?_⟩
    refine ⟨pw, rfl, ⟨_, SqL.of hpw⟩, fun D hD => lc_nats (K := K) (a := pw) (l := wds c.rows) (p := fun _ => true) (f := fun x => x ^^^ y) hD (fun H' q => SqL.of (q _ _ hpw)) (by omega) ?_ ?_⟩
    · intro x hx H' sm Y N hY _
      refine ⟨rfl, _, rfl, _, rfl, _, _, rfl, rfl, ?_⟩
      show Y (V.int (Builtin.bitXor (x : Int) (y : Int))) H'
      rw [xor_nat]
      exact hY rfl H' (Same.refl _)
    · intro H2 s2 hD2
      rw [filter_yes] at hD2
      have mem : ∀ x, x ∈ (wds c.rows).map (fun x => x ^^^ y) ↔ CM.Sp c.rows (x ^^^ y) := fun x => by
        rw [List.mem_map]
        constructor
        · rintro ⟨z, hz, rfl⟩; rw [xor_cancel]; exact mem_wds.mp hz
        · intro h; exact ⟨x ^^^ y, mem_wds.mpr h, xor_cancel x y⟩
      have lt : ∀ x, CM.Sp c.rows (x ^^^ y) → x < 2 ^ c.n := fun x h => by
        have := Nat.xor_lt_two_pow (h.lt g.form.lt) hy
        rwa [xor_cancel] at this
      have hne : (wds c.rows).map (fun x => x ^^^ y) ≠ [] := fun e => by
        have := (mem y).mpr (by rw [Nat.xor_self]; exact .zero)
        rw [e] at this; cases this
      refine ⟨D, fb, _, fdb, ["word"], rfl, rfl, SqL.of hD2, hne, ?_, bb, fun H3 x s3 hx best => ?_⟩
      · refine FB.imp fun vs H' Q' E' h => ?_
        obtain ⟨x, rfl, hx, q⟩ := h
        exact ⟨x, c.n, rfl, lt x ((mem x).mp hx), fun H'' p sm _ hp => q H'' p sm hp⟩
      · have el : Cb.leader c y = x := leader_eq g.form ((mem x).mp hx) fun z hz => by
          have := best z ((mem z).mpr hz)
          unfold Bf at this
          unfold Lx
          simp only [id] at this
          omega
        rw [← el]
        exact k H3 ((s1.trans s2).trans s3)
theorem scNearest : FnScope ["code", "y", "distance", "word"] ["code", "y"] (defScope sNearestWords) := ⟨rfl, rfl, rfl, by decide +kernel, rfl, by decide +kernel, by decide +kernel⟩
theorem ok_nearest {f : Addr} {fd : FuncData} (F : Fun K "nearest_words" "nearest_words" sNearestWords f fd) (T : Tx K mg C) (ms : mg "sorted" = none) (CW : Cal P w K mg base 1 "words_of" ["code"] (spWords C)) (CG : Cal P w K mg base 1 "weight" ["word"] spWeight) (CL : Cal P w K mg base 4 "leader_of" ["code", "y"] (spLeaderOf C)) :
    FnOk P w K mg base CX0 5 f fd ["code", "y"] (spNearest C) := by
  refine F.ok scNearest (fun vs H Q E h => ?_) (fun cdv A outer s H vs Q E hr h => ?_)
  · obtain ⟨a, c, y, rfl, _⟩ := h; rfl
  · obtain ⟨a, c, y, rfl, hc, g, hy, k⟩ := h
    refine ⟨_, pss_cons (ps_set (i := 2) scNearest.nd rfl (Or.inr rfl) (pe_cal CG hr rfl (pa_cons (pe_cal CL hr rfl (pa_cons (pv 0) (pa_cons (pv 1) pa_nil))) pa_nil)))
      (pss_one (ps_ret (pe_callB cr_sortedN rfl ms boot_sorted (pa_cons
        (pe_lc (own := [("word", 3)]) rfl scNearest.nd (pi_list (pe_cal CW hr rfl (pa_cons (pv 0) pa_nil))) (blkOk_by (by show blkC ["code", "y", "distance", "word"] (defScope sNearestWords) _ _ = true; decide +kernel)) (fun _ _ _ _ _ => pg_name (i := 3) scNearest.nd rfl (Or.inl rfl))
          (fun _ _ _ _ _ => pts_one (pt_cmpR op_eq (pe_cal CG hr rfl (pa_cons (pe_op op_xor (pv 3) (pv 1)) pa_nil)) (pv 2) (nomark _))) (fun _ _ _ _ _ => pv 3)) pa_nil)))), ?_⟩
    have hlen := words_small g
    refine ⟨_, rfl, _, rfl, a, c, y, rfl, hc, g, hy, fun H1 s1 => ⟨_, c.n, rfl, leader_lt g.form hy, ?_⟩⟩
    refine ⟨_, rfl, a, c, rfl, hc.same s1, good_small g, fun H2 pw s2 _ hpw => ?_⟩
    refine ⟨pw, rfl, ⟨_, SqL.of hpw⟩, fun D hD => lc_nats (K := K) (a := pw) (l := wds c.rows) (p := fun x => Cb.weight c.n (x ^^^ y) == Cb.weight c.n (Cb.leader c y)) (f := id) hD (fun H' q => SqL.of (q _ _ hpw)) (by omega) ?_ ?_⟩
    · intro x hx H' sm Y N hY hN
      have hxn : x ^^^ y < 2 ^ c.n := Nat.xor_lt_two_pow ((mem_wds.mp hx).lt g.form.lt) hy
      have e := xor_nat x y
      refine ⟨rfl, _, rfl, _, rfl, _, _, rfl, rfl, x ^^^ y, c.n, congrArg (fun z => [V.int z]) e, hxn, _, rfl, rfl, _, rfl, ite2 (fun q => ?_) fun q => ?_⟩
      · refine ⟨_, rfl, hY ?_ H' (Same.refl _)⟩
        have : nv (Cb.weight c.n (x ^^^ y)) = nv (Cb.weight c.n (Cb.leader c y)) := by simpa using q
        have := V.int.inj this
        exact beq_iff_eq.mpr (by omega)
      · refine hN ?_ H' (Same.refl _)
        refine beq_eq_false_iff_ne.mpr fun z => q ?_
        rw [z]; simp
    · intro H3 s3 hD3
      rw [List.map_id] at hD3
      refine ⟨D, _, rfl, SqL.of hD3, ?_, fun l' p hp hs hpf => ?_⟩
      · exact Nat.le_trans (List.length_filter_le _ _) (by omega)
      · have sm : Same H H3 := (s1.trans s2).trans s3
        refine k _ p (sm.trans (same_new hpf)) (sm.free hpf) (upd_same.trans ?_)
        rw [sorted_filter (n := c.n) g.form hp hs, ← nws_eq g.form]
theorem scLeadersOf : FnScope ["code", "leaders", "word", "lowest"] ["code"] (defScope sLeadersOf) := ⟨rfl, rfl, rfl, by decide +kernel, rfl, by decide +kernel, by decide +kernel⟩
theorem ok_leadersOf {f : Addr} {fd : FuncData} (F : Fun K "leaders_of" "leaders_of" sLeadersOf f fd) (T : Tx K mg C) (ms : mg "sorted" = none) (mr : mg "range" = none) (CR : Cal P w K mg base 2 "reduced" ["form", "word"] (spReduced K)) (CB : Cal P w K mg base 2 "by_weight" ["word"] spByWeight) :
    FnOk P w K mg base CX0 5 f fd ["code"] (spLeadersOf C) := by
  obtain ⟨fb, fdb, FB, mb, kb, bb⟩ := CB.ex
  refine F.ok scLeadersOf (fun vs H Q E h => ?_) (fun cdv A outer s H vs Q E hr h => ?_)
  · obtain ⟨a, c, rfl, _⟩ := h; rfl
  · obtain ⟨a, c, rfl, hc, g, k⟩ := h
    obtain ⟨dx, lr, ha, hl⟩ := id hc
    have hu := hu_of hr
    refine ⟨_, pss_cons (ps_set (i := 1) scLeadersOf.nd rfl (Or.inl rfl) pe_dnewK)
      (pss_cons (ps_for PassesOwn.never rfl (pi_list (pe_sortR (k := 2) (q := fb) (Cb.weight c.n) id rfl hr rfl ms rfl mr rfl mb (pe_op op_shl pe_int (pe_fld (pv 0) rfl)))) (pg_name (i := 2) scLeadersOf.nd rfl (Or.inl rfl))
        (pss_cons (ps_set (i := 3) scLeadersOf.nd rfl (Or.inl rfl) (pe_cal CR hr rfl (pa_cons (pe_fld (pv 0) rfl) (pa_cons (pv 2) pa_nil))))
        (pss_one (ps_if (pt_cmp (pc_dnotin hu (pv 3) (pv 1))) (pss_one (ps_dput hu (pv 1) (pv 3) (pv 2) rfl)) pss_nil))))
      (pss_one (ps_ret (pv 1)))), ?_⟩
    intro D hD
    have sD := same_new (o := .dK []) hD
    have hpow := pow_small g
    have h10 := g.hi
    have esh : (1 : Int) * 2 ^ ((c.n : Nat) : Int).toNat = ((2 ^ c.n : Nat) : Int) := by
      have := shl_nat 1 c.n
      rw [Nat.one_mul] at this
      exact this
    refine ⟨_, rfl, a, C, dx, _, _, rfl, sD _ _ ha, T.cl, T.nN, cf_n _ _, _, _, rfl, rfl, ⟨by omega, by omega, by decide⟩, 2 ^ c.n, fdb, ["word"], congrArg V.int esh, by omega, ?_, bb, fun H1 l p s1 hp hs hpf => ?_⟩
    · refine FB.imp fun vs H' Q' E' h => ?_
      obtain ⟨x, rfl, hx, q⟩ := h
      exact ⟨x, c.n, rfl, List.mem_range.mp hx, fun H'' p sm _ hp => q H'' p sm hp⟩
    · have hs' : l.Pairwise (Lx (Cb.weight c.n)) := hs.imp fun z => by
        unfold Bf at z
        unfold Lx
        simp only [id] at z
        omega
      have hlen : l.length ≤ 1024 := by rw [hp.length_eq, List.length_range]; exact hpow
      have nDp : D ≠ p := fun e => by
        subst e
        rw [upd_same] at hpf; cases hpf
      have hpH : H p = none := sD.free hpf
      refine ⟨p, rfl, ⟨_, SqL.of upd_same⟩, for_list (K := K) (a := p) (xs := nl l) (fun i σ H' => ∃ u v, σ = [some (.ref a), some (.ref D), u, v] ∧ Same H H' ∧ H' p = some (.lst (nl l)) ∧ H' D = some (.dK (dkv (bld c.rows (l.take i)))))
        ⟨none, none, rfl, same_upd hpH (sD.trans s1), upd_same, ?_⟩ (fun i σ H' _ ⟨_, _, _, _, q, _⟩ => SqL.of q) ?_ ?_⟩
      · rw [upd_ne nDp]; exact s1 _ _ upd_same
      · rintro i y σ H' hi ⟨u, v, rfl, sm, hp', hD'⟩
        obtain ⟨x, hx, rfl⟩ := nl_at hi
        refine ⟨_, rfl, a, C, dx, _, _, rfl, sm _ _ ha, T.cl, T.nR, cf_rows _ _, _, rfl, lr, c.rows, x, rfl, SqL.of (sm _ _ hl), g.form.nz, ?_⟩
        have eb : bld c.rows (l.take (i + 1)) = ins c.rows (bld c.rows (l.take i)) x := by rw [take_snoc' hx, bld_snoc]
        have hbl : (bld c.rows (l.take i)).length ≤ 1024 := by
          have := bld_length c.rows (l.take i)
          rw [List.length_take] at this
          omega
        refine ⟨_, rfl, _, rfl, D, _, rfl, DGet.k (k := Sum.inl ((rdc c.rows x : Nat) : Int)) hD', _, rfl, ?_⟩
        rw [dkv_some]
        refine ite2 (fun q => ?_) fun q => ?_
        · have q' : ((bld c.rows (l.take i)).map Prod.fst).contains (rdc c.rows x) = false := by simpa using q
          refine ⟨_, rfl, _, rfl, _, rfl, D, _, rfl, DPut.k (k := Sum.inl ((rdc c.rows x : Nat) : Int)) hD' ?_, some (nv x), some (nv (rdc c.rows x)), rfl, same_upd hD sm, ?_, ?_⟩
          · unfold dkv
            rw [List.length_map]
            exact small' (by omega)
          · rw [upd_ne (Ne.symm nDp)]; exact hp'
          · rw [upd_same, dkv_put q', eb]
            unfold ins
            rw [if_neg (by rw [q']; decide)]
        · refine ⟨some (nv x), some (nv (rdc c.rows x)), rfl, sm, hp', ?_⟩
          rw [hD', eb]
          unfold ins
          rw [if_pos (by simpa using q)]
      · rintro σ H' ⟨u, v, rfl, sm, hp', hD'⟩
        rw [nl_length, List.take_length] at hD'
        exact ⟨_, rfl, k H' D _ sm hD hD' (ldr_of g.form hp hs')⟩
end
end Sc
end
section
set_option Elab.async false
set_option linter.all false
set_option maxRecDepth 100000
set_option maxHeartbeats 4000000
namespace Sc
open PySem PySem.Spec PyProof.Rows L2 CM
open PySem.W (Codec)
def spFarthest (C : Addr) : L2.Sp := fun vs H Q _ => ∃ (a : Addr) (c : Cb.Code), vs = [.ref a] ∧ CodeAt C H a c ∧ Good c ∧ ∀ (H' : Hp) (p : Addr), Same H H' → H p = none → H' p = some (.lst [nv (Cb.radius c), nv (Cb.farthest c)]) → Q (.ref p) H'
def spNeverTie (C : Addr) : L2.Sp := fun vs H Q _ => ∃ (a : Addr) (c : Cb.Code), vs = [.ref a] ∧ CodeAt C H a c ∧ Good c ∧ ∀ H', Same H H' → Q (.bl ((Cb.coset c).all fun (y : Nat) => Cb.ties c y == 1)) H'
def spSyndrome (C : Addr) : L2.Sp := fun vs H Q _ => ∃ (a : Addr) (c : Cb.Code) (y : Nat), vs = [.ref a, nv y] ∧ CodeAt C H a c ∧ Good c ∧ y < 2 ^ c.n ∧ ∀ H', Same H H' → Q (nv (Cb.syndrome c y)) H'
theorem same_lock {H H' : Hp} {d : Addr} {u : HO} {od : Obj} (s : Same (upd H d (.frz od u)) H') (hd : H d = some u) : Same H (upd H' d u) := fun b o e => by
  by_cases q : b = d
  · subst q
    rw [upd_same, ← e, hd]
  · rw [upd_ne q]
    exact s b o ((upd_ne q).trans e)
theorem keys_at {d : List (Nat × Nat)} {i : Nat} {k : Key} {v : V} (h : (dkv d)[i]? = some (k, v)) : ∃ n, (d.map Prod.fst)[i]? = some n ∧ kV k = nv n := by
  unfold dkv at h
  rw [List.getElem?_map] at h
  cases e : d[i]? with
  | none => rw [e] at h; cases h
  | some p =>
    rw [e] at h
    have := Option.some.inj h
    cases this
    exact ⟨p.1, by rw [List.getElem?_map, e]; rfl, rfl⟩
theorem vals_at {d : List (Nat × Nat)} {i : Nat} {k : Key} {v : V} (h : (dkv d)[i]? = some (k, v)) : ∃ n, (d.map Prod.snd)[i]? = some n ∧ v = nv n := by
  unfold dkv at h
  rw [List.getElem?_map] at h
  cases e : d[i]? with
  | none => rw [e] at h; cases h
  | some p =>
    rw [e] at h
    have := Option.some.inj h
    cases this
    exact ⟨p.2, by rw [List.getElem?_map, e]; rfl, rfl⟩
theorem dkv_len (d : List (Nat × Nat)) : (dkv d).length = d.length := List.length_map ..
section
variable {P : Program} {w : World} {K : PySem.W.Frag} {mg : Str → Option Value} {base : Heap} {C : Addr}
theorem scFarthest : FnScope ["code", "leaders", "distance", "leader", "lowest"] ["code"] (defScope sFarthestOf) := ⟨rfl, rfl, rfl, by decide +kernel, rfl, by decide +kernel, by decide +kernel⟩
theorem ok_farthest {f : Addr} {fd : FuncData} (F : Fun K "farthest_of" "farthest_of" sFarthestOf f fd) (T : Tx K mg C) (mx : mg "max" = none) (mm : mg "min" = none) (CG : Cal P w K mg base 1 "weight" ["word"] spWeight) (CL : Cal P w K mg base 5 "leaders_of" ["code"] (spLeadersOf C)) :
    FnOk P w K mg base CX0 6 f fd ["code"] (spFarthest C) := by
  refine F.ok scFarthest (fun vs H Q E h => ?_) (fun cdv A outer s H vs Q E hr h => ?_)
  · obtain ⟨a, c, rfl, _⟩ := h; rfl
  · obtain ⟨a, c, rfl, hc, g, k⟩ := h
    have hu := hu_of hr
    refine ⟨_, pss_cons (ps_set (i := 1) scFarthest.nd rfl (Or.inr rfl) (pe_cal CL hr rfl (pa_cons (pv 0) pa_nil)))
      (pss_cons (ps_set (i := 2) scFarthest.nd rfl (Or.inr rfl) (pe_callB (cr_max rfl) rfl mx boot_max (pa_cons (pe_lock
        (pe_lc (own := [("leader", 3)]) rfl scFarthest.nd (pi_values (pv 1)) (blkOk_by (by show blkC ["code", "leaders", "distance", "leader", "lowest"] (defScope sFarthestOf) _ _ = true; decide +kernel)) (fun _ _ _ _ _ => pg_name (i := 3) scFarthest.nd rfl (Or.inl rfl))
          (fun _ _ _ _ _ => pts_nil) (fun _ _ _ _ _ => pe_cal CG hr rfl (pa_cons (pv 3) pa_nil)))) pa_nil)))
      (pss_one (ps_ret (pe_lst (pa_cons (pv 2) (pa_cons (pe_callB (cr_min rfl) rfl mm boot_min (pa_cons (pe_lock
        (pe_lc (own := [("lowest", 4)]) rfl scFarthest.nd (pi_keys (pv 1)) (blkOk_by (by show blkC ["code", "leaders", "distance", "leader", "lowest"] (defScope sFarthestOf) _ _ = true; decide +kernel)) (fun _ _ _ _ _ => pg_name (i := 4) scFarthest.nd rfl (Or.inl rfl))
          (fun _ _ _ _ _ => pts_one (pt_cmpR op_eq (pe_cal CG hr rfl (pa_cons (pe_dget (hu_of hr) (pv 1) (pv 4) (fun _ _ => rfl)) pa_nil)) (pv 2) (nomark _))) (fun _ _ _ _ _ => pv 4))) pa_nil)) pa_nil)))))), ?_⟩
    have hpow := pow_small g
    refine ⟨_, rfl, a, c, rfl, hc, g, fun H1 d ld s1 hdf hd L => ?_⟩
    have hlen := L.len
    have wlt : ∀ p ∈ ld, p.2 < 2 ^ c.n := fun p hp => by
      rw [L.val p hp]
      exact leader_lt g.form ((L.key p.1).mp (List.mem_map.mpr ⟨p, hp, rfl⟩)).1
    have zero : (0, Cb.leader c 0) ∈ ld := by
      have := L.get g.form (Nat.two_pow_pos c.n)
      have e0 : rdc c.rows 0 = 0 := g.form.rdc_zero.mpr .zero
      rwa [e0] at this
    refine ⟨d, _, hd, trivial, fun od => ?_⟩
    have hfz : (upd H1 d (.frz od (.dK (dkv ld)))) d = some (.frz od (.dK (dkv ld))) := upd_same
    refine ⟨_, rfl, d, od, _, rfl, hfz, fun D hD => lc_natsJ (l := ld.map Prod.snd) (p := fun _ => true) (f := Cb.weight c.n) hD (fun i H' hi sm => ⟨sm _ _ hfz, by rw [dkv_len]; simpa using hi⟩) (fun H' sm => ⟨sm _ _ hfz, by rw [dkv_len]; simp⟩) (fun i H' x H'' hy => ?_) (by rw [List.length_map]; omega) ?_ ?_⟩
    · obtain ⟨e, kk, hk⟩ := hy
      obtain ⟨n, h1, h2⟩ := vals_at hk
      exact ⟨e, n, h1, h2⟩
    · intro x hx H' sm Y N hY _
      obtain ⟨p, hp, rfl⟩ := List.mem_map.mp hx
      exact ⟨rfl, _, rfl, p.2, c.n, rfl, wlt p hp, hY rfl H' (Same.refl _)⟩
    · intro H2 s2 hD2
      rw [filter_yes] at hD2
      refine ⟨s2 _ _ hfz, ?_⟩
      have s12 : Same H1 (upd H2 d (.dK (dkv ld))) := same_lock s2 hd
      have nDd : D ≠ d := fun e => by
        subst e
        rw [hfz] at hD; cases hD
      have hD2' : (upd H2 d (.dK (dkv ld))) D = some (.lst (nl ((ld.map Prod.snd).map (Cb.weight c.n)))) := (upd_ne nDd).trans hD2
      refine ⟨D, _, rfl, by rw [← nl_ints]; exact SqL.of hD2', ?_, fun m hm hmax => ?_⟩
      · rw [List.length_map, List.length_map, List.length_map]
        exact List.length_pos_of_mem zero
      obtain ⟨mn, hmn, rfl⟩ := List.mem_map.mp hm
      have er : Cb.radius c = mn := by
        refine L.radius_eq g.form ?_ fun p hp => ?_
        · obtain ⟨x, hx, e⟩ := List.mem_map.mp hmn
          obtain ⟨p, hp, rfl⟩ := List.mem_map.mp hx
          exact ⟨p, hp, e⟩
        · have := hmax ((Cb.weight c.n p.2 : Nat) : Int) (List.mem_map.mpr ⟨_, List.mem_map.mpr ⟨_, List.mem_map.mpr ⟨p, hp, rfl⟩, rfl⟩, rfl⟩)
          omega
      subst er
      have hd2 : (upd H2 d (.dK (dkv ld))) d = some (.dK (dkv ld)) := upd_same
      generalize upd H2 d (.dK (dkv ld)) = H3 at s12 hd2 hD2' ⊢
      refine ⟨_, rfl, d, _, hd2, trivial, fun od2 => ?_⟩
      have hfz2 : (upd H3 d (.frz od2 (.dK (dkv ld)))) d = some (.frz od2 (.dK (dkv ld))) := upd_same
      refine ⟨_, rfl, d, od2, rfl, .inl ⟨_, hfz2, fun D2 hE => lc_natsJ (l := ld.map Prod.fst) (p := fun k => Cb.weight c.n (Cb.leader c k) == Cb.radius c) (f := id) hE (fun i H' hi sm => ⟨sm _ _ hfz2, by rw [dkv_len]; simpa using hi⟩) (fun H' sm => ⟨sm _ _ hfz2, by rw [dkv_len]; simp⟩) (fun i H' x H'' hy => ?_) (by rw [List.length_map]; omega) ?_ ?_⟩⟩
      · obtain ⟨e, kk, v, hk, ex⟩ := hy
        obtain ⟨n, h1, h2⟩ := keys_at hk
        exact ⟨e, n, h1, ex.trans h2⟩
      · intro x hx H' sm Y N hY hN
        have kx := (L.key x).mp hx
        refine ⟨rfl, _, rfl, _, rfl, d, _, rfl, .inl ⟨_, Sum.inl (x : Int), .inr ⟨od2, sm _ _ hfz2⟩, rfl, (dkv_get L g.form hx).symm⟩, _, c.n, rfl, leader_lt g.form kx.1, _, rfl, rfl, _, rfl, ite2 (fun q => ?_) fun q => ?_⟩
        · refine ⟨_, rfl, hY ?_ H' (Same.refl _)⟩
          have : nv (Cb.weight c.n (Cb.leader c x)) = nv (Cb.radius c) := by simpa using q
          have := V.int.inj this
          exact beq_iff_eq.mpr (by omega)
        · refine hN ?_ H' (Same.refl _)
          refine beq_eq_false_iff_ne.mpr fun z => q ?_
          rw [z]; simp
      · intro H4 s4 hE4
        rw [List.map_id] at hE4
        refine ⟨s4 _ _ hfz2, ?_⟩
        have s34 : Same H3 (upd H4 d (.dK (dkv ld))) := same_lock s4 hd2
        have nEd : D2 ≠ d := fun e => by
          subst e
          rw [hfz2] at hE; cases hE
        have hE4' := (upd_ne (o := .dK (dkv ld)) nEd).trans hE4
        have memf : ∀ x, x ∈ (ld.map Prod.fst).filter (fun k => Cb.weight c.n (Cb.leader c k) == Cb.radius c) ↔ ∃ p ∈ ld, p.1 = x ∧ Cb.weight c.n p.2 = Cb.radius c := fun x => by
          rw [List.mem_filter, List.mem_map, beq_iff_eq]
          constructor
          · rintro ⟨⟨p, hp, rfl⟩, e⟩
            exact ⟨p, hp, rfl, by rw [L.val p hp]; exact e⟩
          · rintro ⟨p, hp, rfl, e⟩
            exact ⟨⟨p, hp, rfl⟩, by rw [← L.val p hp]; exact e⟩
        refine ⟨D2, _, rfl, by rw [← nl_ints]; exact SqL.of hE4', ?_, fun m2 hm2 hmin => ?_⟩
        · rw [List.length_map]
          obtain ⟨x, hx, e⟩ := List.mem_map.mp hmn
          obtain ⟨p, hp, rfl⟩ := List.mem_map.mp hx
          exact List.length_pos_of_mem ((memf p.1).mpr ⟨p, hp, rfl, e⟩)
        obtain ⟨n2, hn2, rfl⟩ := List.mem_map.mp hm2
        have ef : Cb.farthest c = n2 := by
          refine L.farthest_eq g.form ((memf n2).mp hn2) fun p hp e => ?_
          have := hmin ((p.1 : Nat) : Int) (List.mem_map.mpr ⟨_, (memf p.1).mpr ⟨p, hp, rfl, e⟩, rfl⟩)
          omega
        subst ef
        refine ⟨(by show 2 ≤ sizeLine; decide), fun p hp => ?_⟩
        have sm := (s1.trans s12).trans s34
        exact k _ p (sm.trans (same_new hp)) (sm.free hp) upd_same
theorem scNeverTie : FnScope ["code", "leaders", "word", "leader"] ["code"] (defScope sNeverTie) := ⟨rfl, rfl, rfl, by decide +kernel, rfl, by decide +kernel, by decide +kernel⟩
theorem ok_neverTie {f : Addr} {fd : FuncData} (F : Fun K "nearest_never_tie" "nearest_never_tie" sNeverTie f fd) (T : Tx K mg C) (mr : mg "range" = none) (CG : Cal P w K mg base 1 "weight" ["word"] spWeight) (CR : Cal P w K mg base 2 "reduced" ["form", "word"] (spReduced K)) (CL : Cal P w K mg base 5 "leaders_of" ["code"] (spLeadersOf C)) :
    FnOk P w K mg base CX0 6 f fd ["code"] (spNeverTie C) := by
  refine F.ok scNeverTie (fun vs H Q E h => ?_) (fun cdv A outer s H vs Q E hr h => ?_)
  · obtain ⟨a, c, rfl, _⟩ := h; rfl
  · obtain ⟨a, c, rfl, hc, g, k⟩ := h
    obtain ⟨dx, lr, ha, hl⟩ := id hc
    have hu := hu_of hr
    refine ⟨_, pss_cons (ps_set (i := 1) scNeverTie.nd rfl (Or.inl rfl) (pe_cal CL hr rfl (pa_cons (pv 0) pa_nil)))
      (pss_cons (ps_for PassesOwn.never rfl (pi_range1 rfl mr (pa_cons (pe_op op_shl pe_int (pe_fld (pv 0) rfl)) pa_nil)) (pg_name (i := 2) scNeverTie.nd rfl (Or.inl rfl))
        (pss_cons (ps_set (i := 3) scNeverTie.nd rfl (Or.inl rfl) (pe_dget hu (pv 1) (pe_cal CR hr rfl (pa_cons (pe_fld (pv 0) rfl) (pa_cons (pv 2) pa_nil))) (fun _ _ => rfl)))
        (pss_one (ps_if (PW.pt (pw_and (pt_cmpR op_ne (pv 2) (pv 3) (nomark _)) (pw_and1 (pt_cmpR op_eq (pe_cal CG hr rfl (pa_cons (pv 2) pa_nil)) (pe_cal CG hr rfl (pa_cons (pv 3) pa_nil)) (nomark _)))))
          (pss_one (ps_ret pe_bl)) pss_nil))))
      (pss_one (ps_ret pe_bl))), ?_⟩
    have hpow := pow_small g
    have h10 := g.hi
    have esh : (1 : Int) * 2 ^ ((c.n : Nat) : Int).toNat = ((2 ^ c.n : Nat) : Int) := by
      have := shl_nat 1 c.n
      rw [Nat.one_mul] at this
      exact this
    refine ⟨_, rfl, a, c, rfl, hc, g, fun H1 d ld s1 hdf hd L => ?_⟩
    refine ⟨_, rfl, a, C, dx, _, _, rfl, s1 _ _ ha, T.cl, T.nN, cf_n _ _, _, _, rfl, rfl, ⟨by omega, by omega, by decide⟩, _, rfl, by rw [esh]; generalize 2 ^ c.n = N at hpow ⊢; omega, by rw [esh]; generalize 2 ^ c.n = N at hpow ⊢; omega, ?_⟩
    rw [show ((1 : Int) * 2 ^ ((c.n : Nat) : Int).toNat).toNat = 2 ^ c.n by rw [esh]; exact Int.toNat_natCast _]
    refine for_range (lo := 0) (n := 2 ^ c.n) (fun i σ H' => H' = H1 ∧ (∃ u v, σ = [some (.ref a), some (.ref d), u, v]) ∧ ∀ z, z < i → Cb.weight c.n z = Cb.weight c.n (Cb.leader c z) → z = Cb.leader c z)
      ⟨rfl, ⟨none, none, rfl⟩, fun z hz => absurd hz (Nat.not_lt_zero z)⟩ ?_ ?_
    · rintro i σ H' hi ⟨rfl, ⟨u, v, rfl⟩, inv⟩
      rw [show (0 : Int) + (i : Int) = (i : Int) by omega]
      have hkey : rdc c.rows i ∈ ld.map Prod.fst := (L.key _).mpr ⟨g.form.rdc_lt hi, g.form.rdc_idem i⟩
      have hget := dkv_get L g.form hkey
      rw [leader_rdc g.form] at hget
      have hlt := leader_lt g.form hi
      refine ⟨_, rfl, _, rfl, a, C, dx, _, _, rfl, s1 _ _ ha, T.cl, T.nR, cf_rows _ _, _, rfl, lr, c.rows, i, rfl, SqL.of (s1 _ _ hl), g.form.nz, d, _, rfl, .inl ⟨_, Sum.inl ((rdc c.rows i : Nat) : Int), .inl hd, rfl, hget.symm⟩, ?_⟩
      refine ⟨_, rfl, _, rfl, rfl, _, rfl, ite2 (fun q => ?_) fun q => ?_⟩
      · have ne : i ≠ Cb.leader c i := fun e => by
          rw [← e] at q; simp at q
        refine ⟨_, rfl, i, c.n, rfl, hi, _, rfl, _, c.n, rfl, hlt, rfl, _, rfl, ite2 (fun q2 => ?_) fun q2 => ?_⟩
        · have ew : Cb.weight c.n i = Cb.weight c.n (Cb.leader c i) := by
            have : nv (Cb.weight c.n i) = nv (Cb.weight c.n (Cb.leader c i)) := by simpa using q2
            have := V.int.inj this
            omega
          have ef : ((Cb.coset c).all fun (y : Nat) => Cb.ties c y == 1) = false := Bool.eq_false_iff.mpr fun z => ne ((tie_iff g.form).mp z i hi ew)
          have kk := k H' s1
          rw [ef] at kk
          exact kk
        · refine ⟨rfl, ⟨some (nv i), some (nv (Cb.leader c i)), rfl⟩, fun z hz e => ?_⟩
          rcases Nat.lt_or_eq_of_le (Nat.le_of_lt_succ hz) with z1 | z1
          · exact inv z z1 e
          · subst z1
            rw [e] at q2
            exact absurd (by simp) q2
      · have e0 : i = Cb.leader c i := by
          have : nv i = nv (Cb.leader c i) := by simpa using q
          have := V.int.inj this
          omega
        refine ⟨rfl, ⟨some (nv i), some (nv (Cb.leader c i)), rfl⟩, fun z hz e => ?_⟩
        rcases Nat.lt_or_eq_of_le (Nat.le_of_lt_succ hz) with z1 | z1
        · exact inv z z1 e
        · subst z1; exact e0
    · rintro σ H' ⟨rfl, ⟨u, v, rfl⟩, inv⟩
      have et : ((Cb.coset c).all fun (y : Nat) => Cb.ties c y == 1) = true := (tie_iff g.form).mpr inv
      have kk := k H' s1
      rw [et] at kk
      exact kk
theorem scSyndromeOf : FnScope ["code", "y", "syndrome", "j", "row"] ["code", "y"] (defScope sSyndromeOf) := ⟨rfl, rfl, rfl, by decide +kernel, rfl, by decide +kernel, by decide +kernel⟩
theorem ok_syndromeOf {f : Addr} {fd : FuncData} (F : Fun K "syndrome_of" "syndrome_of" sSyndromeOf f fd) (T : Tx K mg C) (me : mg "enumerate" = none) (CG : Cal P w K mg base 1 "weight" ["word"] spWeight) (CD : Cal P w K mg base 7 "dual_of" ["code"] (spMake1 C Cb.dual)) :
    FnOk P w K mg base CX0 8 f fd ["code", "y"] (spSyndrome C) := by
  refine F.ok scSyndromeOf (fun vs H Q E h => ?_) (fun cdv A outer s H vs Q E hr h => ?_)
  · obtain ⟨a, c, y, rfl, _⟩ := h; rfl
  · obtain ⟨a, c, y, rfl, hc, g, hy, k⟩ := h
    refine ⟨_, pss_cons (ps_set (i := 2) scSyndromeOf.nd rfl (Or.inl rfl) pe_int)
      (pss_cons (ps_for PassesOwn.never rfl (pi_enum rfl me (pa_cons (pe_fld (pe_cal CD hr rfl (pa_cons (pv 0) pa_nil)) rfl) pa_nil)) (pg_tup rfl (pgs_cons (pg_name (i := 3) scSyndromeOf.nd rfl (Or.inl rfl)) (pgs_cons (pg_name (i := 4) scSyndromeOf.nd rfl (Or.inl rfl)) pgs_nil)))
        (pss_one (ps_if (pt_cmpR op_eq (pe_op op_mod (pe_cal CG hr rfl (pa_cons (pe_op op_and (pv 1) (pv 4)) pa_nil)) pe_int) pe_int (nomark _))
          (pss_one (ps_aug (i := 2) scSyndromeOf.nd rfl (Or.inl rfl) (pe_op op_shl pe_int (pv 3)) iop_or)) pss_nil)))
      (pss_one (ps_ret (pv 2)))), ?_⟩
    refine ⟨_, rfl, a, c, rfl, hc, g, fun H1 pd s1 _ hcd => ?_⟩
    obtain ⟨dx, l, ha, hl⟩ := hcd
    have gd := g.dual
    have hlen := good_small gd
    refine ⟨pd, C, dx, _, _, rfl, ha, T.cl, T.nR, cf_rows _ _, l, _, rfl, SqL.of hl, for_enum (K := K) (a := l) (xs := nl (Cb.dual c).rows) (fun i σ H' => Same H1 H' ∧ ∃ u v, σ = [some (.ref a), some (nv y), some (nv (bts (fun r => Cb.odd c.n r y) ((Cb.dual c).rows.take i))), u, v])
      ⟨Same.refl _, none, none, rfl⟩ (fun i σ H' _ ⟨q, _⟩ => SqL.of (q _ _ hl)) ?_ ?_⟩
    · rintro i z σ H' T' hi ⟨sm, u, v, rfl⟩ hT'
      obtain ⟨r, hr', rfl⟩ := nl_at hi
      have hm := List.mem_of_getElem? hr'
      have s2 := same_new (o := .tup [.int (i : Nat), nv r]) hT'
      have hi' : i < 10 := by have := (List.getElem?_eq_some_iff.mp hr').1; omega
      have step := bts_or (p := fun r => Cb.odd c.n r y) (fun r => odd_lt _ _ _) hr'
      have ea := and_nat y r
      have lt1 : y &&& r < 2 ^ c.n := Nat.and_lt_two_pow _ (gd.form.lt r hm)
      refine pair_read upd_same ?_
      refine ⟨_, rfl, _, rfl, _, _, rfl, rfl, y &&& r, c.n, congrArg (fun z => [V.int z]) ea, lt1, _, _, rfl, rfl, (show (0 : Int) < 2 by decide), rfl, _, rfl, ite2 (fun q => ?_) fun q => ?_⟩
      · have eo : Cb.odd c.n r y = 1 := by
          have : V.int (((Cb.weight c.n (y &&& r) : Nat) : Int) % 2) = V.int 1 := by simpa using q
          have := V.int.inj this
          unfold Cb.odd
          rw [Nat.and_comm]
          omega
        refine ⟨_, rfl, _, rfl, _, _, rfl, rfl, ⟨by omega, by omega, by decide⟩, _, _, rfl, rfl, sm.trans s2, some (nv i), some (nv r), ?_⟩
        have e := shl_nat 1 i
        have e2 := or_nat (bts (fun r => Cb.odd c.n r y) ((Cb.dual c).rows.take i)) (2 ^ i)
        rw [step, if_pos eo]
        show [some (V.ref a), some (nv y), some (V.int (Builtin.bitOr ((bts (fun r => Cb.odd c.n r y) ((Cb.dual c).rows.take i) : Nat) : Int) (((1 : Nat) : Int) * 2 ^ ((i : Nat) : Int).toNat))), some (nv i), some (nv r)] = _
        rw [e, Nat.one_mul, e2]
      · have eo : ¬ Cb.odd c.n r y = 1 := fun z => q (by
          unfold Cb.odd at z
          rw [Nat.and_comm] at z
          refine decide_eq_true ?_
          show V.int (((Cb.weight c.n (y &&& r) : Nat) : Int) % 2) = V.int 1
          congr 1
          omega)
        refine ⟨sm.trans s2, some (nv i), some (nv r), ?_⟩
        rw [step, if_neg eo]; rfl
    · rintro σ H' ⟨sm, u, v, rfl⟩
      rw [nl_length, List.take_length]
      refine ⟨_, rfl, ?_⟩
      rw [← syndrome_eq]
      exact k H' (s1.trans sm)
end
end Sc
end
section
set_option Elab.async false
set_option linter.all false
set_option maxRecDepth 100000
set_option maxHeartbeats 4000000
namespace Sc
open PySem PySem.Spec PyProof.Rows L2 CM
open PySem.W (Codec)
def spMultiples (C : Addr) : L2.Sp := fun vs H Q _ => ∃ (a : Addr) (c : Cb.Code) (m : Nat), vs = [.ref a, nv m] ∧ CodeAt C H a c ∧ Good c ∧ 0 < m ∧ ∀ H', Same H H' → Q (.bl ((Cb.wordsOf c).all fun (x : Nat) => Cb.weight c.n x % m == 0)) H'
def spTurned : L2.Sp := fun vs H Q _ => ∃ n x : Nat, vs = [nv n, nv x] ∧ 1 ≤ n ∧ n ≤ 10 ∧ x < 2 ^ n ∧ Q (nv (Cb.turned n x)) H
def spStays (C : Addr) : L2.Sp := fun vs H Q _ => ∃ (a : Addr) (c : Cb.Code), vs = [.ref a] ∧ CodeAt C H a c ∧ Good c ∧ ∀ H', Same H H' → Q (.bl (c.rows.all fun (r : Nat) => Cb.holds c (Cb.turned c.n r))) H'
def spKindOf (C : Addr) : L2.Sp := fun vs H Q _ => ∃ (a : Addr) (c : Cb.Code), vs = [.ref a] ∧ CodeAt C H a c ∧ Good c ∧ ∀ H', Same H H' → Q (nv (Cs.kindOf c)) H'
def trues (bs : List Bool) (i : Nat) : List Nat := ((List.range i).filter fun j => bs.getD j false).map fun j => 2 ^ j
theorem trues_snoc (bs : List Bool) (i : Nat) : trues bs (i + 1) = if bs.getD i false = true then trues bs i ++ [2 ^ i] else trues bs i := by
  unfold trues
  rw [List.range_succ, filter_map_snoc]
theorem kind_sum (b0 b1 b2 b3 b4 b5 : Bool) : ((trues [b0, b1, b2, b3, b4, b5] 6).map fun (z : Nat) => (z : Int)).sum =
    (((if b0 = true then 1 else 0) + ((if b1 = true then 2 else 0) + ((if b2 = true then 4 else 0) + ((if b3 = true then 8 else 0) + ((if b4 = true then 16 else 0) + if b5 = true then 32 else 0)))) : Nat) : Int) := by
  cases b0 <;> cases b1 <;> cases b2 <;> cases b3 <;> cases b4 <;> cases b5 <;> rfl
theorem kind_eq {c : Cb.Code} (g : Good c) : Cs.kindOf c = ((if ((Cb.wordsOf c).all fun (x : Nat) => Cb.weight c.n x % 2 == 0) = true then 1 else 0) + ((if ((Cb.wordsOf c).all fun (x : Nat) => Cb.weight c.n x % 4 == 0) = true then 2 else 0) + ((if Cb.within c (Cb.dual c) = true then 4 else 0) +
    ((if decide (c.n = (Cb.dual c).n ∧ c.rows = (Cb.dual c).rows) = true then 8 else 0) + ((if (c.rows.all fun (r : Nat) => Cb.holds c (Cb.turned c.n r)) = true then 16 else 0) + if ((Cb.coset c).all fun (y : Nat) => Cb.ties c y == 1) = true then 32 else 0))))) := by
  have e : (if Cb.within c (Cb.dual c) = true ∧ Cb.within (Cb.dual c) c = true then 8 else 0) = if decide (c.n = (Cb.dual c).n ∧ c.rows = (Cb.dual c).rows) = true then 8 else 0 := by
    have o := own_dual (c := c) g.form (d := Cb.dual c) g.dual.form rfl
    by_cases q : c.n = (Cb.dual c).n ∧ c.rows = (Cb.dual c).rows
    · rw [if_pos (o.mpr q), if_pos (decide_eq_true q)]
    · rw [if_neg (fun z => q (o.mp z)), if_neg (by rw [decide_eq_false q]; decide)]
  unfold Cs.kindOf
  rw [e]
theorem pg_tupK {X : Cx} {K : PySem.W.Frag} {es : List Expr} {k : Nat} {t : TGs} {n : Nat} {pos : Pos} (hc : X.calm = true) (h : PGs X es t) (hK : X.K = K := by rfl)
    (hn : (assignEach es X.env).length = n := by rfl) (hst : (assignEach es X.env).findIdx? (·.1) = none := by rfl) : PG X (.Tuple es k pos) (gTup K n t) := hK ▸ pg_tup hc h hn hst
section
variable {P : Program} {w : World} {K : PySem.W.Frag} {mg : Str → Option Value} {base : Heap} {C : Addr}
theorem scMultiples : FnScope ["code", "step", "word"] ["code", "step"] (defScope sMultiples) := ⟨rfl, rfl, rfl, by decide +kernel, rfl, by decide +kernel, by decide +kernel⟩
theorem ok_multiples {f : Addr} {fd : FuncData} (F : Fun K "weights_are_multiples" "weights_are_multiples" sMultiples f fd) (T : Tx K mg C) (mall : mg "all" = none) (CW : Cal P w K mg base 1 "words_of" ["code"] (spWords C)) (CG : Cal P w K mg base 1 "weight" ["word"] spWeight) :
    FnOk P w K mg base CX0 2 f fd ["code", "step"] (spMultiples C) := by
  refine F.ok scMultiples (fun vs H Q E h => ?_) (fun cdv A outer s H vs Q E hr h => ?_)
  · obtain ⟨a, c, m, rfl, _⟩ := h; rfl
  · obtain ⟨a, c, m, rfl, hc, g, hm, k⟩ := h
    refine ⟨_, pss_one (ps_ret (pe_callB (cr_all rfl) rfl mall boot_all (pa_cons
      (pe_lc (own := [("word", 2)]) rfl scMultiples.nd (pi_list (pe_cal CW hr rfl (pa_cons (pv 0) pa_nil))) (blkOk_by (by show blkC ["code", "step", "word"] (defScope sMultiples) _ _ = true; decide +kernel)) (fun _ _ _ _ _ => pg_name (i := 2) scMultiples.nd rfl (Or.inl rfl))
          (fun _ _ _ _ _ => pts_nil) (fun _ _ _ _ _ => pe_cmpR op_eq (pe_op op_mod (pe_cal CG hr rfl (pa_cons (pv 2) pa_nil)) (pv 1)) pe_int (nomark _))) pa_nil))), ?_⟩
    have hlen := words_small g
    refine ⟨_, rfl, a, c, rfl, hc, good_small g, fun H1 pw s1 _ hpw => ?_⟩
    refine ⟨pw, rfl, ⟨_, SqL.of hpw⟩, fun D hD => lc_bools (K := K) (a := pw) (l := wds c.rows) (p := fun x => Cb.weight c.n x % m == 0) hD (fun H' q => SqL.of (q _ _ hpw)) (by omega) ?_ ?_⟩
    · intro x hx H' sm Y hY
      refine ⟨rfl, _, rfl, x, c.n, rfl, (mem_wds.mp hx).lt g.form.lt, _, rfl, _, _, rfl, rfl, (show (0 : Int) < (m : Int) by omega), rfl, ?_⟩
      have e : decide (V.int (((Cb.weight c.n x : Nat) : Int) % (m : Int)) = V.int 0) = (Cb.weight c.n x % m == 0) := by
        rw [← Int.natCast_emod]
        exact int_zero _
      rw [e]
      exact hY H' (Same.refl _)
    · intro H2 s2 hD2
      refine ⟨D, _, rfl, SqL.of hD2, ?_⟩
      have e : ((wds c.rows).map fun x => Cb.weight c.n x % m == 0).all id = (Cb.wordsOf c).all fun (x : Nat) => Cb.weight c.n x % m == 0 := by
        rw [List.all_map, ← all_wds g.form]; rfl
      rw [e]
      exact k H2 (s1.trans s2)
theorem scTurned : FnScope ["n", "word", "highest", "rest"] ["n", "word"] (defScope sTurned) := ⟨rfl, rfl, rfl, by decide +kernel, rfl, by decide +kernel, by decide +kernel⟩
theorem ok_turned {f : Addr} {fd : FuncData} (F : Fun K "turned" "turned" sTurned f fd) : FnOk P w K mg base CX0 1 f fd ["n", "word"] spTurned := by
  refine F.ok scTurned (fun vs H Q E h => ?_) (fun cdv A outer s H vs Q E hr h => ?_)
  · obtain ⟨n, x, rfl, _⟩ := h; rfl
  · obtain ⟨n, x, rfl, h1, h10, hx, k⟩ := h
    have hx' : x < 1024 := two_le (m := 10) hx h10
    refine ⟨_, pss_cons (ps_set (i := 2) scTurned.nd rfl (Or.inl rfl) (pe_op op_shr (pv 1) (pe_op op_sub (pv 0) pe_int)))
      (pss_cons (ps_set (i := 3) scTurned.nd rfl (Or.inl rfl) (pe_op op_and (pv 1) (pe_op op_sub (pe_op op_shl pe_int (pe_op op_sub (pv 0) pe_int)) pe_int)))
      (pss_one (ps_ret (pe_op op_or (pe_op op_shl (pv 3) pe_int) (pv 2))))), ?_⟩
    have en : (n : Int) - 1 = ((n - 1 : Nat) : Int) := by omega
    refine ⟨_, rfl, _, rfl, _, _, rfl, rfl, _, _, rfl, rfl, (show (0 : Int) ≤ (n : Int) - 1 by omega), ?_⟩
    refine ⟨_, rfl, _, rfl, _, _, rfl, rfl, _, _, rfl, rfl, ⟨by omega, by omega, by decide⟩, _, _, rfl, rfl, _, _, rfl, rfl, ?_⟩
    have e1 : (x : Int) / 2 ^ ((n : Int) - 1).toNat = ((x / 2 ^ (n - 1) : Nat) : Int) := by rw [en]; exact shr_nat x (n - 1)
    have e2 : (1 : Int) * 2 ^ ((n : Int) - 1).toNat - 1 = ((2 ^ (n - 1) - 1 : Nat) : Int) := by
      rw [en, Int.one_mul, Int.toNat_natCast, two_pow_cast]
      have := Nat.two_pow_pos (n - 1)
      omega
    have e3 : Builtin.bitAnd (x : Int) (1 * 2 ^ ((n : Int) - 1).toNat - 1) = ((x % 2 ^ (n - 1) : Nat) : Int) := by
      rw [e2, and_nat, Nat.and_two_pow_sub_one_eq_mod]
    have lt3 : x % 2 ^ (n - 1) ≤ x := Nat.mod_le _ _
    refine ⟨_, rfl, _, _, rfl, rfl, ⟨by decide, by decide, ?_⟩, _, rfl, _, _, rfl, rfl, ?_⟩
    · rw [e3, Int.natAbs_natCast]
      omega
    · show Q (V.int (Builtin.bitOr (Builtin.bitAnd (x : Int) (1 * 2 ^ ((n : Int) - 1).toNat - 1) * 2 ^ ((1 : Nat) : Int).toNat) ((x : Int) / 2 ^ ((n : Int) - 1).toNat))) H
      rw [e3, e1, shl_nat, or_nat, Nat.pow_one, turned_eq h1 hx]
      exact k
theorem scStays : FnScope ["code", "row"] ["code"] (defScope sStaysTurned) := ⟨rfl, rfl, rfl, by decide +kernel, rfl, by decide +kernel, by decide +kernel⟩
theorem ok_stays {f : Addr} {fd : FuncData} (F : Fun K "stays_when_turned" "stays_when_turned" sStaysTurned f fd) (T : Tx K mg C) (mall : mg "all" = none) (CH : Cal P w K mg base 3 "has_word" ["code", "word"] (spHasWord C)) (CT : Cal P w K mg base 1 "turned" ["n", "word"] spTurned) :
    FnOk P w K mg base CX0 4 f fd ["code"] (spStays C) := by
  refine F.ok scStays (fun vs H Q E h => ?_) (fun cdv A outer s H vs Q E hr h => ?_)
  · obtain ⟨a, c, rfl, _⟩ := h; rfl
  · obtain ⟨a, c, rfl, hc, g, k⟩ := h
    obtain ⟨dx, l, ha, hl⟩ := id hc
    refine ⟨_, pss_one (ps_ret (pe_callB (cr_all rfl) rfl mall boot_all (pa_cons
      (pe_lc (own := [("row", 1)]) rfl scStays.nd (pi_list (pe_fld (pv 0) rfl)) (blkOk_by (by show blkC ["code", "row"] (defScope sStaysTurned) _ _ = true; decide +kernel)) (fun _ _ _ _ _ => pg_name (i := 1) scStays.nd rfl (Or.inl rfl))
          (fun _ _ _ _ _ => pts_nil) (fun _ _ _ _ _ => pe_cal CH hr rfl (pa_cons (pv 0) (pa_cons (pe_cal CT hr rfl (pa_cons (pe_fldK (K := K) (pv 0)) (pa_cons (pv 1) pa_nil))) pa_nil)))) pa_nil))), ?_⟩
    have hlen := good_small g
    refine ⟨_, rfl, a, C, dx, _, _, rfl, ha, T.cl, T.nR, cf_rows _ _, l, rfl, ⟨_, SqL.of hl⟩, fun D hD => lc_bools (K := K) (a := l) (l := c.rows) (p := fun r => rdc c.rows (Cb.turned c.n r) == 0) hD (fun H' q => SqL.of (q _ _ hl)) (by omega) ?_ ?_⟩
    · intro x hx H' sm Y hY
      exact ⟨rfl, _, rfl, _, rfl, a, C, dx, _, _, rfl, sm _ _ ha, T.cl, T.nN, cf_n _ _, _, rfl, c.n, x, rfl, g.lo, g.hi, g.form.lt x hx, a, c, _, rfl, hc.same sm, g, hY H' (Same.refl _)⟩
    · intro H2 s2 hD2
      refine ⟨D, _, rfl, SqL.of hD2, ?_⟩
      have e : (c.rows.map fun r => rdc c.rows (Cb.turned c.n r) == 0).all id = c.rows.all fun (r : Nat) => Cb.holds c (Cb.turned c.n r) := by
        rw [List.all_map]
        refine congrArg c.rows.all (funext fun r => ?_)
        show (rdc c.rows (Cb.turned c.n r) == 0) = (Cb.lessTops c.n c.rows (Cb.turned c.n r) == 0)
        rw [g.form.less]
      rw [e]
      exact k H2 s2
theorem scKindOf : FnScope ["code", "dual", "traits", "j", "has_trait"] ["code"] (defScope sKindOf) := ⟨rfl, rfl, rfl, by decide +kernel, rfl, by decide +kernel, by decide +kernel⟩
theorem ok_kindOf {f : Addr} {fd : FuncData} (F : Fun K "kind_of" "kind_of" sKindOf f fd) (T : Tx K mg C) (me : mg "enumerate" = none) (msu : mg "sum" = none) (CD : Cal P w K mg base 7 "dual_of" ["code"] (spMake1 C Cb.dual)) (CM' : Cal P w K mg base 2 "weights_are_multiples" ["code", "step"] (spMultiples C))
    (CI : Cal P w K mg base 4 "is_within" ["first", "second"] (spIsWithin C)) (CS : Cal P w K mg base 1 "same_codes" ["first", "second"] (spSameCodes C)) (CT : Cal P w K mg base 4 "stays_when_turned" ["code"] (spStays C)) (CN : Cal P w K mg base 6 "nearest_never_tie" ["code"] (spNeverTie C)) :
    FnOk P w K mg base CX0 8 f fd ["code"] (spKindOf C) := by
  refine F.ok scKindOf (fun vs H Q E h => ?_) (fun cdv A outer s H vs Q E hr h => ?_)
  · obtain ⟨a, c, rfl, _⟩ := h; rfl
  · obtain ⟨a, c, rfl, hc, g, k⟩ := h
    refine ⟨_, pss_cons (ps_set (i := 1) scKindOf.nd rfl (Or.inl rfl) (pe_cal CD hr rfl (pa_cons (pv 0) pa_nil)))
      (pss_cons (ps_set (i := 2) scKindOf.nd rfl (Or.inl rfl) (pe_lst (pa_cons (pe_cal CM' hr rfl (pa_cons (pv 0) (pa_cons pe_int pa_nil))) (pa_cons (pe_cal CM' hr rfl (pa_cons (pv 0) (pa_cons pe_int pa_nil))) (pa_cons (pe_cal CI hr rfl (pa_cons (pv 0) (pa_cons (pv 1) pa_nil)))
        (pa_cons (pe_cal CS hr rfl (pa_cons (pv 0) (pa_cons (pv 1) pa_nil))) (pa_cons (pe_cal CT hr rfl (pa_cons (pv 0) pa_nil)) (pa_cons (pe_cal CN hr rfl (pa_cons (pv 0) pa_nil)) pa_nil))))))))
      (pss_one (ps_ret (pe_callB (cr_sum rfl) rfl msu boot_sum (pa_cons
        (pe_lc (own := [("j", 3), ("has_trait", 4)]) rfl scKindOf.nd (pi_enum rfl me (pa_cons (pv 2) pa_nil)) (blkOk_by (by show blkC ["code", "dual", "traits", "j", "has_trait"] (defScope sKindOf) _ _ = true; decide +kernel))
          (fun _ _ _ _ _ => pg_tupK (K := K) (n := 2) rfl (pgs_cons (pg_name (i := 3) scKindOf.nd rfl (Or.inl rfl) (Or.inr rfl)) (pgs_cons (pg_name (i := 4) scKindOf.nd rfl (Or.inl rfl) (Or.inr rfl)) pgs_nil)))
          (fun _ _ _ _ _ => pts_one (pt_val (pv 4))) (fun _ _ _ _ _ => pe_op op_shl pe_int (pv 3))) pa_nil))))), ?_⟩
    refine ⟨_, rfl, a, c, rfl, hc, g, fun H1 pd s1 _ hcd => ?_⟩
    have hc1 := hc.same s1
    refine ⟨_, rfl, a, c, 2, rfl, hc1, g, by decide, fun H2 s2 => ?_⟩
    refine ⟨_, rfl, a, c, 4, rfl, hc1.same s2, g, by decide, fun H3 s3 => ?_⟩
    refine ⟨_, rfl, _, rfl, a, pd, c, _, rfl, (hc1.same s2).same s3, (hcd.same s2).same s3, g, g.dual, fun H4 s4 => ?_⟩
    refine ⟨_, rfl, _, rfl, a, pd, c, _, rfl, ((hc1.same s2).same s3).same s4, ((hcd.same s2).same s3).same s4, ?_⟩
    refine ⟨_, rfl, a, c, rfl, ((hc1.same s2).same s3).same s4, g, fun H5 s5 => ?_⟩
    refine ⟨_, rfl, a, c, rfl, (((hc1.same s2).same s3).same s4).same s5, g, fun H6 s6 => ?_⟩
    have s06 : Same H H6 := ((((s1.trans s2).trans s3).trans s4).trans s5).trans s6
    refine ⟨(by show 6 ≤ sizeLine; decide), fun p hp => ?_⟩
    generalize hb0 : ((Cb.wordsOf c).all fun (x : Nat) => Cb.weight c.n x % 2 == 0) = b0
    generalize hb1 : ((Cb.wordsOf c).all fun (x : Nat) => Cb.weight c.n x % 4 == 0) = b1
    generalize hb2 : Cb.within c (Cb.dual c) = b2
    generalize hb3 : decide (c.n = (Cb.dual c).n ∧ c.rows = (Cb.dual c).rows) = b3
    generalize hb4 : (c.rows.all fun (r : Nat) => Cb.holds c (Cb.turned c.n r)) = b4
    generalize hb5 : ((Cb.coset c).all fun (y : Nat) => Cb.ties c y == 1) = b5
    have hsum := kind_sum b0 b1 b2 b3 b4 b5
    have hkind := kind_eq g
    rw [hb0, hb1, hb2, hb3, hb4, hb5] at hkind
    have hP : (upd H6 p (.lst [.bl b0, .bl b1, .bl b2, .bl b3, .bl b4, .bl b5])) p = some (.lst ([b0, b1, b2, b3, b4, b5].map V.bl)) := upd_same
    have s07 : Same H (upd H6 p (.lst [.bl b0, .bl b1, .bl b2, .bl b3, .bl b4, .bl b5])) := s06.trans (same_new hp)
    generalize hbs : [b0, b1, b2, b3, b4, b5] = bs at hP hsum
    have hbl : bs.length = 6 := by rw [← hbs]; rfl
    generalize upd H6 p (.lst [.bl b0, .bl b1, .bl b2, .bl b3, .bl b4, .bl b5]) = H7 at hP s07 ⊢
    refine ⟨_, rfl, p, _, rfl, SqL.of hP, fun D hD => lc_enum (K := K) (a := p) (xs := bs.map V.bl) (fun i H' => Same H7 H' ∧ H' D = some (.lst (nl (trues bs i)))) ⟨same_new hD, upd_same⟩ (fun i H' _ q => SqL.of (q.1 _ _ hP)) ?_ ?_⟩
    · rintro i x H' T' hi ⟨sm, hD'⟩ hT'
      rw [List.getElem?_map] at hi
      cases eb : bs[i]? with
      | none => rw [eb] at hi; cases hi
      | some b =>
        rw [eb] at hi
        cases hi
        have hi6 : i < 6 := by have := (List.getElem?_eq_some_iff.mp eb).1; omega
        have hgd : bs.getD i false = b := by rw [List.getD_eq_getElem?_getD, eb]; rfl
        have s2' := same_new (o := .tup [.int (i : Nat), .bl b]) hT'
        have nDT : D ≠ T' := ne_of_none hD' hT'
        refine pair_read upd_same ⟨rfl, _, rfl, _, rfl, ite2 (fun q => ?_) fun q => ?_⟩
        · refine ⟨_, rfl, _, _, rfl, rfl, ⟨by omega, by omega, by decide⟩, _, (upd_ne nDT).trans hD', ?_, ?_, ?_⟩
          · rw [nl_length]
            unfold trues
            rw [List.length_map]
            have := List.length_filter_le (fun j => bs.getD j false) (List.range i)
            rw [List.length_range] at this
            exact small' (by omega)
          · exact same_upd hD (sm.trans s2')
          · have e := shl_nat 1 i
            rw [Nat.one_mul] at e
            rw [upd_same, trues_snoc, if_pos (hgd.trans q), nl_snoc]
            show some (HO.lst (nl (trues bs i) ++ [V.int (((1 : Nat) : Int) * 2 ^ ((i : Nat) : Int).toNat)])) = _
            rw [e]
        · refine ⟨sm.trans s2', ?_⟩
          rw [upd_ne nDT, hD', trues_snoc, if_neg (fun z => q (hgd.symm.trans z))]
    · rintro H' ⟨sm, hD'⟩
      rw [List.length_map, hbl] at hD'
      refine ⟨D, _, rfl, by rw [← nl_ints]; exact SqL.of hD', ?_⟩
      rw [hsum, ← hkind]
      exact k H' (s07.trans sm)
end
end Sc
end
section
set_option Elab.async false
set_option linter.all false
set_option maxRecDepth 100000
set_option maxHeartbeats 4000000
namespace Sc
open PySem PySem.Spec PyProof.Rows L2 CM
open PySem.W (Codec)
def spLacksWord (C : Addr) : L2.Sp := fun vs H Q _ => ∃ (l : Addr) (as : List Addr) (s : Cs.State) (o y : Nat), vs = [.ref l, nv o, nv y] ∧ SlotsAt C H l as s ∧ Q (.bl (decide (Cs.SLOTS ≤ o) || !Cs.isWord (Cs.codeAt s o) y)) H
def spLacksPlace (C : Addr) : L2.Sp := fun vs H Q _ => ∃ (l : Addr) (as : List Addr) (s : Cs.State) (o y : Nat), vs = [.ref l, nv o, nv y] ∧ SlotsAt C H l as s ∧ Q (.bl (decide (Cs.SLOTS ≤ o) || decide (2 ^ (Cs.codeAt s o).rows.length ≤ y))) H
structure Gt (mg : Str → Option Value) : Prop where
  int : mg "int" = none
  list : mg "list" = none
theorem boot_intN : bootBuiltins "int" = some (.type "int") := by decide +kernel
theorem word_no {s : Cs.State} {o y : Nat} {f : Cb.Code → Cs.Answer} (h : (decide (Cs.SLOTS ≤ o) || !Cs.isWord (Cs.codeAt s o) y) = true) : (s, Cs.ofOne s o fun (c : Cb.Code) => if Cs.isWord c y = false then Cs.no 1 else f c) = (s, Cs.no 1) := by
  unfold Cs.ofOne
  by_cases e : Cs.SLOTS ≤ o
  · rw [if_pos e]
  · rw [decide_eq_false e, Bool.false_or, Bool.not_eq_true'] at h
    rw [if_neg e]
    show (s, if Cs.isWord (Cs.codeAt s o) y = false then Cs.no 1 else f (Cs.codeAt s o)) = _
    rw [if_pos h]
theorem word_is {s : Cs.State} {o y : Nat} {f : Cb.Code → Cs.Answer} (h : ¬ (decide (Cs.SLOTS ≤ o) || !Cs.isWord (Cs.codeAt s o) y) = true) : o < 8 ∧ y < 2 ^ (Cs.codeAt s o).n ∧ (s, Cs.ofOne s o fun (c : Cb.Code) => if Cs.isWord c y = false then Cs.no 1 else f c) = (s, f (Cs.codeAt s o)) := by
  rw [Bool.or_eq_true, not_or, decide_eq_true_eq, Bool.not_eq_true', Bool.not_eq_false] at h
  refine ⟨lt8 h.1, of_decide_eq_true h.2, ?_⟩
  unfold Cs.ofOne
  rw [if_neg h.1]
  show (s, if Cs.isWord (Cs.codeAt s o) y = false then Cs.no 1 else f (Cs.codeAt s o)) = _
  rw [if_neg (by rw [h.2]; decide)]
theorem place_no {s : Cs.State} {o k : Nat} (h : (decide (Cs.SLOTS ≤ o) || decide (2 ^ (Cs.codeAt s o).rows.length ≤ k)) = true) : Cs.SLOTS ≤ o ∨ (¬ Cs.SLOTS ≤ o ∧ 2 ^ (Cs.codeAt s o).rows.length ≤ k) := by
  by_cases e : Cs.SLOTS ≤ o
  · exact .inl e
  · rw [decide_eq_false e, Bool.false_or, decide_eq_true_eq] at h
    exact .inr ⟨e, h⟩
theorem place_is {s : Cs.State} {o k : Nat} (h : ¬ (decide (Cs.SLOTS ≤ o) || decide (2 ^ (Cs.codeAt s o).rows.length ≤ k)) = true) : ¬ Cs.SLOTS ≤ o ∧ k < 2 ^ (Cs.codeAt s o).rows.length := by
  rw [Bool.or_eq_true, not_or, decide_eq_true_eq, decide_eq_true_eq] at h
  exact ⟨h.1, by omega⟩
theorem one_zero (b : Bool) : (if b then (1 : Int) else 0) = ((if b = true then 1 else 0 : Nat) : Int) := by cases b <;> rfl
theorem same_no {s : Cs.State} {o p : Nat} {f : Cb.Code → Cb.Code → Cs.Answer} (h : Cs.SLOTS ≤ o ∨ Cs.SLOTS ≤ p) : (s, Cs.ofOne s o fun (c : Cb.Code) => Cs.ofOne s p fun (d : Cb.Code) => f c d) = (s, Cs.no 1) := by
  unfold Cs.ofOne
  by_cases e : Cs.SLOTS ≤ o
  · rw [if_pos e]
  · rw [if_neg e]
    show (s, if Cs.SLOTS ≤ p then Cs.no 1 else f (Cs.codeAt s o) (Cs.codeAt s p)) = _
    rw [if_pos (h.resolve_left e)]
theorem same_is {s : Cs.State} {o p : Nat} {f : Cb.Code → Cb.Code → Cs.Answer} (h : ¬ (Cs.SLOTS ≤ o ∨ Cs.SLOTS ≤ p)) : (s, Cs.ofOne s o fun (c : Cb.Code) => Cs.ofOne s p fun (d : Cb.Code) => f c d) = (s, f (Cs.codeAt s o) (Cs.codeAt s p)) := by
  unfold Cs.ofOne
  rw [if_neg (fun z => h (.inl z))]
  show (s, if Cs.SLOTS ≤ p then Cs.no 1 else f (Cs.codeAt s o) (Cs.codeAt s p)) = _
  rw [if_neg (fun z => h (.inr z))]
theorem ans_no' {C l : Addr} {H H1 : Hp} {as : List Addr} {s : Cs.State} {Q : VK} {call : Cs.Call} {n : Nat} (k : AnsOk C l H s Q call) (hs : SlotsAt C H l as s) (es : Cs.step s call = (s, Cs.no n)) (s1 : Same H H1) {p : Addr} (hp : H1 p = none) : Q (.ref p) (upd H1 p (.lst [V.int (-(n : Int))])) :=
  ans_no (fun H' q as' h1 h2 h3 h4 => k H' q as' h1 ((KeepBut.of s1).trans h2) (s1.free h3) h4) (hs.same s1) es hp
section
variable {P : Program} {w : World} {K : PySem.W.Frag} {mg : Str → Option Value} {base : Heap} {C : Addr}
theorem scLacksWord : FnScope ["slots", "o", "y"] ["slots", "o", "y"] (defScope sLacksWord) := ⟨rfl, rfl, rfl, by decide +kernel, rfl, by decide +kernel, by decide +kernel⟩
theorem ok_lacksWord {f : Addr} {fd : FuncData} (F : Fun K "lacks_word" "lacks_word" sLacksWord f fd) (T : Tx K mg C) (G : Gs mg) : FnOk P w K mg base CX0 1 f fd ["slots", "o", "y"] (spLacksWord C) := by
  obtain ⟨tl, hlast⟩ := G.last
  refine F.ok scLacksWord (fun vs H Q E h => ?_) (fun cdv A outer s H vs Q E hr h => ?_)
  · obtain ⟨l, as, s, o, y, rfl, _⟩ := h; rfl
  · obtain ⟨l, as, s, o, y, rfl, hs, k⟩ := h
    refine ⟨_, pss_one (ps_ret (pe_or (pe_cmpR op_gt (pv 1) (pe_glob (v := .int 7) rfl hlast ⟨_, rfl⟩) (nomark _)) (pe_one (pe_cmpR op_ge (pv 2) (pe_op op_shl pe_int (pe_fld (pe_ix ix_list (pv 0) (pv 1) (fun _ _ => rfl)) rfl)) (nomark _))))), ?_⟩
    refine ⟨_, rfl, _, _, rfl, rfl, _, rfl, ite2 (fun c => ?_) fun c => ?_⟩
    · have ho : Cs.SLOTS ≤ o := slots_le.mp (by simpa using c)
      rw [decide_eq_true ho, Bool.true_or] at k
      exact k
    · have ho : ¬ Cs.SLOTS ≤ o := fun z => c (by simpa using slots_le.mpr z)
      rw [decide_eq_false ho, Bool.false_or] at k
      obtain ⟨a, ha, hc, g⟩ := hs.get (lt8 ho)
      obtain ⟨dx, m, h1, h2⟩ := id hc
      have h10 := g.hi
      have esh : (1 : Int) * 2 ^ (((Cs.codeAt s o).n : Nat) : Int).toNat = ((2 ^ (Cs.codeAt s o).n : Nat) : Int) := by
        have := shl_nat 1 (Cs.codeAt s o).n
        rw [Nat.one_mul] at this
        exact this
      refine ⟨_, rfl, _, rfl, _, rfl, l, _, _, _, rfl, rfl, SqL.of hs.lst, atI_nat ha, a, C, dx, _, _, rfl, h1, T.cl, T.nN, cf_n _ _, _, _, rfl, rfl, ⟨by omega, by omega, by decide⟩, _, _, rfl, rfl, ?_⟩
      have e : decide ((1 : Int) * 2 ^ (((Cs.codeAt s o).n : Nat) : Int).toNat ≤ (y : Int)) = !Cs.isWord (Cs.codeAt s o) y := by
        rw [esh]
        unfold Cs.isWord
        rw [Bool.eq_iff_iff, decide_eq_true_eq, Bool.not_eq_true', decide_eq_false_iff_not]
        generalize 2 ^ (Cs.codeAt s o).n = N
        omega
      show Q (.bl (decide ((1 : Int) * 2 ^ (((Cs.codeAt s o).n : Nat) : Int).toNat ≤ (y : Int)))) H
      rw [e]
      exact k
theorem scLacksPlace : FnScope ["slots", "o", "k"] ["slots", "o", "k"] (defScope sLacksPlace) := ⟨rfl, rfl, rfl, by decide +kernel, rfl, by decide +kernel, by decide +kernel⟩
theorem ok_lacksPlace {f : Addr} {fd : FuncData} (F : Fun K "lacks_place" "lacks_place" sLacksPlace f fd) (T : Tx K mg C) (G : Gs mg) : FnOk P w K mg base CX0 1 f fd ["slots", "o", "k"] (spLacksPlace C) := by
  obtain ⟨tl, hlast⟩ := G.last
  refine F.ok scLacksPlace (fun vs H Q E h => ?_) (fun cdv A outer s H vs Q E hr h => ?_)
  · obtain ⟨l, as, s, o, y, rfl, _⟩ := h; rfl
  · obtain ⟨l, as, s, o, y, rfl, hs, k⟩ := h
    refine ⟨_, pss_one (ps_ret (pe_or (pe_cmpR op_gt (pv 1) (pe_glob (v := .int 7) rfl hlast ⟨_, rfl⟩) (nomark _)) (pe_one (pe_cmpR op_ge (pv 2) (pe_op op_shl pe_int (pe_callB call_len_seq rfl G.len boot_len (pa_cons (pe_fld (pe_ix ix_list (pv 0) (pv 1) (fun _ _ => rfl)) rfl) pa_nil))) (nomark _))))), ?_⟩
    refine ⟨_, rfl, _, _, rfl, rfl, _, rfl, ite2 (fun c => ?_) fun c => ?_⟩
    · have ho : Cs.SLOTS ≤ o := slots_le.mp (by simpa using c)
      rw [decide_eq_true ho, Bool.true_or] at k
      exact k
    · have ho : ¬ Cs.SLOTS ≤ o := fun z => c (by simpa using slots_le.mpr z)
      rw [decide_eq_false ho, Bool.false_or] at k
      obtain ⟨a, ha, hc, g⟩ := hs.get (lt8 ho)
      obtain ⟨dx, m, h1, h2⟩ := id hc
      have hlen := good_small g
      have esh : (1 : Int) * 2 ^ (((nl (Cs.codeAt s o).rows).length : Nat) : Int).toNat = ((2 ^ (Cs.codeAt s o).rows.length : Nat) : Int) := by
        have := shl_nat 1 (nl (Cs.codeAt s o).rows).length
        rw [Nat.one_mul] at this
        rw [← nl_length (Cs.codeAt s o).rows]
        exact this
      refine ⟨_, rfl, _, rfl, _, rfl, l, _, _, _, rfl, rfl, SqL.of hs.lst, atI_nat ha, a, C, dx, _, _, rfl, h1, T.cl, T.nR, cf_rows _ _, m, _, rfl, .inl (SqL.of h2), _, _, rfl, rfl, ⟨by omega, by rw [nl_length]; omega, by decide⟩, _, _, rfl, rfl, ?_⟩
      have e : decide ((1 : Int) * 2 ^ (((nl (Cs.codeAt s o).rows).length : Nat) : Int).toNat ≤ (y : Int)) = decide (2 ^ (Cs.codeAt s o).rows.length ≤ y) := by
        rw [esh, Bool.eq_iff_iff, decide_eq_true_eq, decide_eq_true_eq]
        generalize 2 ^ (Cs.codeAt s o).rows.length = N
        omega
      show Q (.bl (decide ((1 : Int) * 2 ^ (((nl (Cs.codeAt s o).rows).length : Nat) : Int).toNat ≤ (y : Int)))) H
      rw [e]
      exact k
theorem scHolds : FnScope ["slots", "o", "x"] ["slots", "o", "x"] (defScope sHolds) := ⟨rfl, rfl, rfl, by decide +kernel, rfl, by decide +kernel, by decide +kernel⟩
theorem ok_holds {f : Addr} {fd : FuncData} (F : Fun K "answer_holds" "answer_holds" sHolds f fd) (T : Tx K mg C) (G' : Gt mg) (CL : Cal P w K mg base 1 "lacks_word" ["slots", "o", "y"] (spLacksWord C)) (CH : Cal P w K mg base 3 "has_word" ["code", "word"] (spHasWord C)) :
    FnOk P w K mg base CX0 4 f fd ["slots", "o", "x"] (sp2 C .holds) := by
  refine F.ok scHolds (fun vs H Q E h => ?_) (fun cdv A outer s H vs Q E hr h => ?_)
  · obtain ⟨l, as, s, o, y, rfl, _⟩ := h; rfl
  · obtain ⟨l, as, s, o, y, rfl, hs, k⟩ := h
    have es0 : Cs.step s (.holds o y) = (s, Cs.ofOne s o fun (c : Cb.Code) => if Cs.isWord c y = false then Cs.no 1 else .nums [if Cb.holds c y = true then 1 else 0]) := rfl
    refine ⟨_, pss_cons (ps_if (pt_val (pe_cal CL hr rfl (pa_cons (pv 0) (pa_cons (pv 1) (pa_cons (pv 2) pa_nil))))) (pss_one (ps_ret (pe_lst (pa_cons (pe_un un_neg pe_int) pa_nil)))) pss_nil)
      (pss_one (ps_ret (pe_lst (pa_cons pe_int (pa_cons (pe_callTy call_int1 rfl G'.int boot_intN (pa_cons (pe_cal CH hr rfl (pa_cons (pe_ix ix_list (pv 0) (pv 1) (fun _ _ => rfl)) (pa_cons (pv 2) pa_nil))) pa_nil)) pa_nil))))), ?_⟩
    refine ⟨_, rfl, _, rfl, _, rfl, l, as, s, o, y, rfl, hs, _, rfl, ite2 (fun c => ?_) fun c => ?_⟩
    · exact ⟨_, rfl, (by show 1 ≤ sizeLine; decide), fun p hp => ans_no k hs (es0.trans (word_no c)) hp⟩
    · obtain ⟨ho, hy, es⟩ := word_is (f := fun c => .nums [if Cb.holds c y = true then 1 else 0]) c
      obtain ⟨a, ha, hc, g⟩ := hs.get ho
      refine ⟨_, rfl, _, rfl, l, _, _, _, rfl, rfl, SqL.of hs.lst, atI_nat ha, _, rfl, a, _, y, rfl, hc, g, .inr ⟨_, rfl, (by show 2 ≤ sizeLine; decide), fun p hp => ?_⟩⟩
      refine ans_nums k hs (es0.trans es) (same_new hp) hp (upd_same.trans ?_)
      have e : Cb.holds (Cs.codeAt s o) y = (rdc (Cs.codeAt s o).rows y == 0) := by
        show (Cb.lessTops _ _ _ == 0) = _
        rw [g.form.less]
      rw [e, one_zero]
      rfl
theorem scNear : FnScope ["slots", "o", "y", "words"] ["slots", "o", "y"] (defScope sNear) := ⟨rfl, rfl, rfl, by decide +kernel, rfl, by decide +kernel, by decide +kernel⟩
theorem near_lt {c : Cb.Code} (g : Good c) {y : Nat} (hy : y < 2 ^ c.n) : Cb.near c y ^^^ y < 2 ^ c.n := Nat.xor_lt_two_pow ((near_spec g.form y).1.lt g.form.lt) hy
theorem toCode_xor (c : Cb.Code) (y : Nat) : Cb.toCode c y = Cb.weight c.n (Cb.near c y ^^^ y) := by
  unfold Cb.toCode
  rw [far_eq, Nat.xor_comm]
theorem ok_near {f : Addr} {fd : FuncData} (F : Fun K "answer_near" "answer_near" sNear f fd) (T : Tx K mg C) (G : Gs mg) (CL : Cal P w K mg base 1 "lacks_word" ["slots", "o", "y"] (spLacksWord C)) (CN : Cal P w K mg base 5 "nearest_words" ["code", "y"] (spNearest C)) (CG : Cal P w K mg base 1 "weight" ["word"] spWeight) :
    FnOk P w K mg base CX0 6 f fd ["slots", "o", "y"] (sp2 C .near) := by
  refine F.ok scNear (fun vs H Q E h => ?_) (fun cdv A outer s H vs Q E hr h => ?_)
  · obtain ⟨l, as, s, o, y, rfl, _⟩ := h; rfl
  · obtain ⟨l, as, s, o, y, rfl, hs, k⟩ := h
    have es0 : Cs.step s (.near o y) = (s, Cs.ofOne s o fun (c : Cb.Code) => if Cs.isWord c y = false then Cs.no 1 else .nums [Cb.toCode c y, Cb.near c y, Cb.ties c y]) := rfl
    refine ⟨_, pss_cons (ps_if (pt_val (pe_cal CL hr rfl (pa_cons (pv 0) (pa_cons (pv 1) (pa_cons (pv 2) pa_nil))))) (pss_one (ps_ret (pe_lst (pa_cons (pe_un un_neg pe_int) pa_nil)))) pss_nil)
      (pss_cons (ps_set (i := 3) scNear.nd rfl (Or.inl rfl) (pe_cal CN hr rfl (pa_cons (pe_ix ix_list (pv 0) (pv 1) (fun _ _ => rfl)) (pa_cons (pv 2) pa_nil))))
      (pss_one (ps_ret (pe_lst (pa_cons pe_int (pa_cons (pe_cal CG hr rfl (pa_cons (pe_op op_xor (pe_ix ix_list (pv 3) pe_int (fun _ _ => rfl)) (pv 2)) pa_nil)) (pa_cons (pe_ix ix_list (pv 3) pe_int (fun _ _ => rfl)) (pa_cons (pe_callB call_len_seq rfl G.len boot_len (pa_cons (pv 3) pa_nil)) pa_nil)))))))), ?_⟩
    refine ⟨_, rfl, _, rfl, _, rfl, l, as, s, o, y, rfl, hs, _, rfl, ite2 (fun c => ?_) fun c => ?_⟩
    · exact ⟨_, rfl, (by show 1 ≤ sizeLine; decide), fun p hp => ans_no k hs (es0.trans (word_no c)) hp⟩
    · obtain ⟨ho, hy, es⟩ := word_is (f := fun c => .nums [Cb.toCode c y, Cb.near c y, Cb.ties c y]) c
      obtain ⟨a, ha, hc, g⟩ := hs.get ho
      generalize hcd : Cs.codeAt s o = cd at hc g es hy
      refine ⟨_, rfl, _, rfl, l, _, _, _, rfl, rfl, SqL.of hs.lst, atI_nat ha, _, rfl, a, cd, y, rfl, hc, g, hy, fun H1 pw s1 _ hpw => ?_⟩
      obtain ⟨rest, er⟩ := nws_first g.form y
      have h0 : (nl (nws cd y))[0]? = some (nv (Cb.near cd y)) := by rw [er]; rfl
      have ex := xor_nat (Cb.near cd y) y
      refine ⟨_, rfl, pw, _, _, _, rfl, rfl, SqL.of hpw, at_of (j := 0) rfl h0, _, rfl, _, _, rfl, rfl, Cb.near cd y ^^^ y, cd.n, congrArg (fun z => [V.int z]) ex, near_lt g hy, _, rfl, pw, _, _, _, rfl, rfl, SqL.of hpw, at_of (j := 0) rfl h0, _, rfl, pw, _, rfl, .inl (SqL.of hpw), (by show 4 ≤ sizeLine; decide), fun p hp => ?_⟩
      refine ans_nums k hs (es0.trans es) (s1.trans (same_new hp)) (s1.free hp) (upd_same.trans ?_)
      rw [toCode_xor, ties_eq, nl_length]
      rfl
theorem scRadius : FnScope ["slots", "o"] ["slots", "o"] (defScope sRadius) := ⟨rfl, rfl, rfl, by decide +kernel, rfl, by decide +kernel, by decide +kernel⟩
theorem ok_radius {f : Addr} {fd : FuncData} (F : Fun K "answer_radius" "answer_radius" sRadius f fd) (T : Tx K mg C) (G : Gs mg) (CF : Cal P w K mg base 6 "farthest_of" ["code"] (spFarthest C)) : FnOk P w K mg base CX0 7 f fd ["slots", "o"] (sp1 C .radius) := by
  obtain ⟨tl, hlast⟩ := G.last
  refine F.ok scRadius (fun vs H Q E h => ?_) (fun cdv A outer s H vs Q E hr h => ?_)
  · obtain ⟨l, as, s, o, rfl, _⟩ := h; rfl
  · obtain ⟨l, as, s, o, rfl, hs, k⟩ := h
    have es0 : Cs.step s (.radius o) = (s, Cs.ofOne s o fun (c : Cb.Code) => .nums [Cb.radius c, Cb.farthest c]) := rfl
    refine ⟨_, pss_cons (ps_if (pt_cmpR op_gt (pv 1) (pe_glob (v := .int 7) rfl hlast ⟨_, rfl⟩) (nomark _)) (pss_one (ps_ret (pe_lst (pa_cons (pe_un un_neg pe_int) pa_nil)))) pss_nil)
      (pss_one (ps_ret (pe_op op_cat (pe_lst (pa_cons pe_int pa_nil)) (pe_cal CF hr rfl (pa_cons (pe_ix ix_list (pv 0) (pv 1) (fun _ _ => rfl)) pa_nil))))), ?_⟩
    refine ⟨_, rfl, _, _, rfl, rfl, _, rfl, ite2 (fun c => ?_) fun c => ?_⟩
    · have ho : Cs.SLOTS ≤ o := slots_le.mp (by simpa using c)
      exact ⟨_, rfl, (by show 1 ≤ sizeLine; decide), fun p hp => ans_no k hs (es0.trans (one_no ho)) hp⟩
    · have ho : ¬ Cs.SLOTS ≤ o := fun z => c (by simpa using slots_le.mpr z)
      obtain ⟨a, ha, hc, g⟩ := hs.get (lt8 ho)
      refine ⟨(by show 1 ≤ sizeLine; decide), fun p hp => ?_⟩
      have s1 := same_new (o := .lst [.int 0]) hp
      refine ⟨_, rfl, _, rfl, l, _, _, _, rfl, rfl, SqL.of (s1 _ _ hs.lst), atI_nat ha, a, _, rfl, hc.same s1, g, fun H2 p2 s2 f2 hp2 => ?_⟩
      refine ⟨p, p2, _, _, rfl, rfl, s2 _ _ upd_same, hp2, (by show 3 ≤ sizeLine; decide), fun q hq => ?_⟩
      exact ans_nums k hs (es0.trans (one_is ho)) ((s1.trans s2).trans (same_new hq)) ((s1.trans s2).free hq) (upd_same.trans rfl)
theorem scLeader : FnScope ["slots", "o", "y"] ["slots", "o", "y"] (defScope sLeader) := ⟨rfl, rfl, rfl, by decide +kernel, rfl, by decide +kernel, by decide +kernel⟩
theorem ok_leader {f : Addr} {fd : FuncData} (F : Fun K "answer_leader" "answer_leader" sLeader f fd) (T : Tx K mg C) (CL : Cal P w K mg base 1 "lacks_word" ["slots", "o", "y"] (spLacksWord C)) (CN : Cal P w K mg base 4 "leader_of" ["code", "y"] (spLeaderOf C)) :
    FnOk P w K mg base CX0 5 f fd ["slots", "o", "y"] (sp2 C .leader) := by
  refine F.ok scLeader (fun vs H Q E h => ?_) (fun cdv A outer s H vs Q E hr h => ?_)
  · obtain ⟨l, as, s, o, y, rfl, _⟩ := h; rfl
  · obtain ⟨l, as, s, o, y, rfl, hs, k⟩ := h
    have es0 : Cs.step s (.leader o y) = (s, Cs.ofOne s o fun (c : Cb.Code) => if Cs.isWord c y = false then Cs.no 1 else .nums [Cb.leader c y]) := rfl
    refine ⟨_, pss_cons (ps_if (pt_val (pe_cal CL hr rfl (pa_cons (pv 0) (pa_cons (pv 1) (pa_cons (pv 2) pa_nil))))) (pss_one (ps_ret (pe_lst (pa_cons (pe_un un_neg pe_int) pa_nil)))) pss_nil)
      (pss_one (ps_ret (pe_lst (pa_cons pe_int (pa_cons (pe_cal CN hr rfl (pa_cons (pe_ix ix_list (pv 0) (pv 1) (fun _ _ => rfl)) (pa_cons (pv 2) pa_nil))) pa_nil))))), ?_⟩
    refine ⟨_, rfl, _, rfl, _, rfl, l, as, s, o, y, rfl, hs, _, rfl, ite2 (fun c => ?_) fun c => ?_⟩
    · exact ⟨_, rfl, (by show 1 ≤ sizeLine; decide), fun p hp => ans_no k hs (es0.trans (word_no c)) hp⟩
    · obtain ⟨ho, hy, es⟩ := word_is (f := fun c => .nums [Cb.leader c y]) c
      obtain ⟨a, ha, hc, g⟩ := hs.get ho
      refine ⟨_, rfl, _, rfl, l, _, _, _, rfl, rfl, SqL.of hs.lst, atI_nat ha, _, rfl, a, _, y, rfl, hc, g, hy, fun H1 s1 => ⟨(by show 2 ≤ sizeLine; decide), fun p hp => ?_⟩⟩
      exact ans_nums k hs (es0.trans es) (s1.trans (same_new hp)) (s1.free hp) (upd_same.trans rfl)
end
end Sc
end
section
set_option Elab.async false
set_option linter.all false
set_option maxRecDepth 100000
set_option maxHeartbeats 4000000
namespace Sc
open PySem PySem.Spec PyProof.Rows L2 CM
open PySem.W (Codec)
theorem dkv_vals (d : List (Nat × Nat)) : (dkv d).map (·.2) = nl (d.map Prod.snd) := by
  unfold dkv nl
  rw [List.map_map, List.map_map]; rfl
section
variable {P : Program} {w : World} {K : PySem.W.Frag} {mg : Str → Option Value} {base : Heap} {C : Addr}
theorem scLeaders : FnScope ["slots", "o", "leaders"] ["slots", "o"] (defScope sLeaders) := ⟨rfl, rfl, rfl, by decide +kernel, rfl, by decide +kernel, by decide +kernel⟩
theorem ok_leaders {f : Addr} {fd : FuncData} (F : Fun K "answer_leaders" "answer_leaders" sLeaders f fd) (T : Tx K mg C) (G : Gs mg) (G' : Gt mg) (CL : Cal P w K mg base 5 "leaders_of" ["code"] (spLeadersOf C)) (CC : Cal P w K mg base 2 "counts_by_weight" ["n", "words"] (spCounts K)) :
    FnOk P w K mg base CX0 6 f fd ["slots", "o"] (sp1 C .leaders) := by
  obtain ⟨tl, hlast⟩ := G.last
  refine F.ok scLeaders (fun vs H Q E h => ?_) (fun cdv A outer s H vs Q E hr h => ?_)
  · obtain ⟨l, as, s, o, rfl, _⟩ := h; rfl
  · obtain ⟨l, as, s, o, rfl, hs, k⟩ := h
    have es0 : Cs.step s (.leaders o) = (s, Cs.ofOne s o fun (c : Cb.Code) => .nums (Cb.spread c.n (Cb.leaders c))) := rfl
    refine ⟨_, pss_cons (ps_if (pt_cmpR op_gt (pv 1) (pe_glob (v := .int 7) rfl hlast ⟨_, rfl⟩) (nomark _)) (pss_one (ps_ret (pe_lst (pa_cons (pe_un un_neg pe_int) pa_nil)))) pss_nil)
      (pss_cons (ps_set (i := 2) scLeaders.nd rfl (Or.inl rfl) (pe_cal CL hr rfl (pa_cons (pe_ix ix_list (pv 0) (pv 1) (fun _ _ => rfl)) pa_nil)))
      (pss_one (ps_ret (pe_op op_cat (pe_lst (pa_cons pe_int pa_nil)) (pe_cal CC hr rfl (pa_cons (pe_fld (pe_ix ix_list (pv 0) (pv 1) (fun _ _ => rfl)) rfl) (pa_cons (pe_listVals (pv 2) rfl rfl G'.list) pa_nil))))))), ?_⟩
    refine ⟨_, rfl, _, _, rfl, rfl, _, rfl, ite2 (fun c => ?_) fun c => ?_⟩
    · have ho : Cs.SLOTS ≤ o := slots_le.mp (by simpa using c)
      exact ⟨_, rfl, (by show 1 ≤ sizeLine; decide), fun p hp => ans_no k hs (es0.trans (one_no ho)) hp⟩
    · have ho : ¬ Cs.SLOTS ≤ o := fun z => c (by simpa using slots_le.mpr z)
      obtain ⟨a, ha, hc, g⟩ := hs.get (lt8 ho)
      have h10 := g.hi
      obtain ⟨dx, m, h1, h2⟩ := id hc
      refine ⟨_, rfl, _, rfl, l, _, _, _, rfl, rfl, SqL.of hs.lst, atI_nat ha, a, _, rfl, hc, g, fun H1 d ld s1 hdf hd L => ?_⟩
      refine ⟨(by show 1 ≤ sizeLine; decide), fun p hp => ?_⟩
      have s2 := same_new (o := .lst [.int 0]) hp
      have s12 := s1.trans s2
      refine ⟨_, rfl, _, rfl, l, _, _, _, rfl, rfl, SqL.of (s12 _ _ hs.lst), atI_nat ha, a, C, dx, _, _, rfl, s12 _ _ h1, T.cl, T.nN, cf_n _ _, _, rfl, d, _, rfl, s2 _ _ hd, fun q hq => ?_⟩
      rw [dkv_vals]
      have s3 := same_new (o := .lst (nl (ld.map Prod.snd))) hq
      refine ⟨q, _, _, rfl, h10, SqL.of upd_same, fun x hx => ?_, fun H3 p3 s4 f3 hp3 => ?_⟩
      · obtain ⟨e, he, rfl⟩ := List.mem_map.mp hx
        rw [L.val e he]
        exact leader_lt g.form ((L.key e.1).mp (List.mem_map.mpr ⟨e, he, rfl⟩)).1
      · refine ⟨p, p3, _, _, rfl, rfl, s4 _ _ (s3 _ _ upd_same), hp3, ?_, fun r hr' => ?_⟩
        · rw [nl_length]
          unfold Cb.spread
          rw [List.length_map, List.length_range]
          exact small (by show 1 + _ ≤ _; omega)
        · have sm := (s12.trans s3).trans s4
          refine ans_nums k hs (es0.trans (one_is ho)) (sm.trans (same_new hr')) (sm.free hr') (upd_same.trans ?_)
          rw [L.spread_eq g.form]; rfl
theorem scSyndrome : FnScope ["slots", "o", "y"] ["slots", "o", "y"] (defScope sSyndrome) := ⟨rfl, rfl, rfl, by decide +kernel, rfl, by decide +kernel, by decide +kernel⟩
theorem ok_syndrome {f : Addr} {fd : FuncData} (F : Fun K "answer_syndrome" "answer_syndrome" sSyndrome f fd) (T : Tx K mg C) (CL : Cal P w K mg base 1 "lacks_word" ["slots", "o", "y"] (spLacksWord C)) (CN : Cal P w K mg base 8 "syndrome_of" ["code", "y"] (spSyndrome C)) :
    FnOk P w K mg base CX0 9 f fd ["slots", "o", "y"] (sp2 C .syndrome) := by
  refine F.ok scSyndrome (fun vs H Q E h => ?_) (fun cdv A outer s H vs Q E hr h => ?_)
  · obtain ⟨l, as, s, o, y, rfl, _⟩ := h; rfl
  · obtain ⟨l, as, s, o, y, rfl, hs, k⟩ := h
    have es0 : Cs.step s (.syndrome o y) = (s, Cs.ofOne s o fun (c : Cb.Code) => if Cs.isWord c y = false then Cs.no 1 else .nums [Cb.syndrome c y]) := rfl
    refine ⟨_, pss_cons (ps_if (pt_val (pe_cal CL hr rfl (pa_cons (pv 0) (pa_cons (pv 1) (pa_cons (pv 2) pa_nil))))) (pss_one (ps_ret (pe_lst (pa_cons (pe_un un_neg pe_int) pa_nil)))) pss_nil)
      (pss_one (ps_ret (pe_lst (pa_cons pe_int (pa_cons (pe_cal CN hr rfl (pa_cons (pe_ix ix_list (pv 0) (pv 1) (fun _ _ => rfl)) (pa_cons (pv 2) pa_nil))) pa_nil))))), ?_⟩
    refine ⟨_, rfl, _, rfl, _, rfl, l, as, s, o, y, rfl, hs, _, rfl, ite2 (fun c => ?_) fun c => ?_⟩
    · exact ⟨_, rfl, (by show 1 ≤ sizeLine; decide), fun p hp => ans_no k hs (es0.trans (word_no c)) hp⟩
    · obtain ⟨ho, hy, es⟩ := word_is (f := fun c => .nums [Cb.syndrome c y]) c
      obtain ⟨a, ha, hc, g⟩ := hs.get ho
      refine ⟨_, rfl, _, rfl, l, _, _, _, rfl, rfl, SqL.of hs.lst, atI_nat ha, _, rfl, a, _, y, rfl, hc, g, hy, fun H1 s1 => ⟨(by show 2 ≤ sizeLine; decide), fun p hp => ?_⟩⟩
      exact ans_nums k hs (es0.trans es) (s1.trans (same_new hp)) (s1.free hp) (upd_same.trans rfl)
theorem scEncode : FnScope ["slots", "o", "m"] ["slots", "o", "m"] (defScope sEncode) := ⟨rfl, rfl, rfl, by decide +kernel, rfl, by decide +kernel, by decide +kernel⟩
theorem ok_encode {f : Addr} {fd : FuncData} (F : Fun K "answer_encode" "answer_encode" sEncode f fd) (T : Tx K mg C) (CL : Cal P w K mg base 1 "lacks_place" ["slots", "o", "k"] (spLacksPlace C)) (CN : Cal P w K mg base 2 "sum_of_picked" ["code", "picks"] (spSumPicked C)) :
    FnOk P w K mg base CX0 3 f fd ["slots", "o", "m"] (sp2 C .encode) := by
  refine F.ok scEncode (fun vs H Q E h => ?_) (fun cdv A outer s H vs Q E hr h => ?_)
  · obtain ⟨l, as, s, o, y, rfl, _⟩ := h; rfl
  · obtain ⟨l, as, s, o, y, rfl, hs, k⟩ := h
    have es0 : Cs.step s (.encode o y) = (s, Cs.ofOne s o fun (c : Cb.Code) => if 2 ^ c.rows.length ≤ y then Cs.no 1 else .nums [Cb.encoded c y]) := rfl
    refine ⟨_, pss_cons (ps_if (pt_val (pe_cal CL hr rfl (pa_cons (pv 0) (pa_cons (pv 1) (pa_cons (pv 2) pa_nil))))) (pss_one (ps_ret (pe_lst (pa_cons (pe_un un_neg pe_int) pa_nil)))) pss_nil)
      (pss_one (ps_ret (pe_lst (pa_cons pe_int (pa_cons (pe_cal CN hr rfl (pa_cons (pe_ix ix_list (pv 0) (pv 1) (fun _ _ => rfl)) (pa_cons (pv 2) pa_nil))) pa_nil))))), ?_⟩
    refine ⟨_, rfl, _, rfl, _, rfl, l, as, s, o, y, rfl, hs, _, rfl, ite2 (fun c => ?_) fun c => ?_⟩
    · have es : Cs.step s (.encode o y) = (s, Cs.no 1) := by
        rcases place_no c with z | ⟨z1, z2⟩
        · exact es0.trans (one_no z)
        · refine es0.trans ((one_is z1).trans ?_)
          show (s, if 2 ^ (Cs.codeAt s o).rows.length ≤ y then Cs.no 1 else _) = _
          rw [if_pos z2]
      exact ⟨_, rfl, (by show 1 ≤ sizeLine; decide), fun p hp => ans_no k hs es hp⟩
    · obtain ⟨ho, hy⟩ := place_is c
      have es : Cs.step s (.encode o y) = (s, .nums [Cb.encoded (Cs.codeAt s o) y]) := by
        refine es0.trans ((one_is ho).trans ?_)
        show (s, if 2 ^ (Cs.codeAt s o).rows.length ≤ y then Cs.no 1 else Cs.Answer.nums [Cb.encoded (Cs.codeAt s o) y]) = _
        rw [if_neg (by omega)]
      obtain ⟨a, ha, hc, g⟩ := hs.get (lt8 ho)
      refine ⟨_, rfl, _, rfl, l, _, _, _, rfl, rfl, SqL.of hs.lst, atI_nat ha, _, rfl, a, _, y, rfl, hc, fun H1 s1 => ⟨(by show 2 ≤ sizeLine; decide), fun p hp => ?_⟩⟩
      exact ans_nums k hs es (s1.trans (same_new hp)) (s1.free hp) (upd_same.trans rfl)
theorem scDecode : FnScope ["slots", "o", "y", "nearest"] ["slots", "o", "y"] (defScope sDecode) := ⟨rfl, rfl, rfl, by decide +kernel, rfl, by decide +kernel, by decide +kernel⟩
theorem ok_decode {f : Addr} {fd : FuncData} (F : Fun K "answer_decode" "answer_decode" sDecode f fd) (T : Tx K mg C) (CL : Cal P w K mg base 1 "lacks_word" ["slots", "o", "y"] (spLacksWord C)) (CN : Cal P w K mg base 5 "nearest_words" ["code", "y"] (spNearest C)) (CG : Cal P w K mg base 1 "weight" ["word"] spWeight) (CP : Cal P w K mg base 2 "picks_of" ["code", "word"] (spPicksOf C)) :
    FnOk P w K mg base CX0 6 f fd ["slots", "o", "y"] (sp2 C .decode) := by
  refine F.ok scDecode (fun vs H Q E h => ?_) (fun cdv A outer s H vs Q E hr h => ?_)
  · obtain ⟨l, as, s, o, y, rfl, _⟩ := h; rfl
  · obtain ⟨l, as, s, o, y, rfl, hs, k⟩ := h
    have es0 : Cs.step s (.decode o y) = (s, Cs.ofOne s o fun (c : Cb.Code) => if Cs.isWord c y = false then Cs.no 1 else .nums [Cb.message c (Cb.near c y), Cb.toCode c y]) := rfl
    refine ⟨_, pss_cons (ps_if (pt_val (pe_cal CL hr rfl (pa_cons (pv 0) (pa_cons (pv 1) (pa_cons (pv 2) pa_nil))))) (pss_one (ps_ret (pe_lst (pa_cons (pe_un un_neg pe_int) pa_nil)))) pss_nil)
      (pss_cons (ps_set (i := 3) scDecode.nd rfl (Or.inl rfl) (pe_ix ix_list (pe_cal CN hr rfl (pa_cons (pe_ix ix_list (pv 0) (pv 1) (fun _ _ => rfl)) (pa_cons (pv 2) pa_nil))) pe_int (fun _ _ => rfl)))
      (pss_one (ps_ret (pe_lst (pa_cons pe_int (pa_cons (pe_cal CP hr rfl (pa_cons (pe_ix ix_list (pv 0) (pv 1) (fun _ _ => rfl)) (pa_cons (pv 3) pa_nil))) (pa_cons (pe_cal CG hr rfl (pa_cons (pe_op op_xor (pv 3) (pv 2)) pa_nil)) pa_nil))))))), ?_⟩
    refine ⟨_, rfl, _, rfl, _, rfl, l, as, s, o, y, rfl, hs, _, rfl, ite2 (fun c => ?_) fun c => ?_⟩
    · exact ⟨_, rfl, (by show 1 ≤ sizeLine; decide), fun p hp => ans_no k hs (es0.trans (word_no c)) hp⟩
    · obtain ⟨ho, hy, es⟩ := word_is (f := fun c => .nums [Cb.message c (Cb.near c y), Cb.toCode c y]) c
      obtain ⟨a, ha, hc, g⟩ := hs.get ho
      generalize hcd : Cs.codeAt s o = cd at hc g es hy
      refine ⟨_, rfl, _, rfl, l, _, _, _, rfl, rfl, SqL.of hs.lst, atI_nat ha, _, rfl, a, cd, y, rfl, hc, g, hy, fun H1 pw s1 _ hpw => ?_⟩
      obtain ⟨rest, er⟩ := nws_first g.form y
      have h0 : (nl (nws cd y))[0]? = some (nv (Cb.near cd y)) := by rw [er]; rfl
      have ex := xor_nat (Cb.near cd y) y
      refine ⟨pw, _, _, _, rfl, rfl, SqL.of hpw, at_of (j := 0) rfl h0, ?_⟩
      refine ⟨_, rfl, _, rfl, l, _, _, _, rfl, rfl, SqL.of (s1 _ _ hs.lst), atI_nat ha, _, rfl, a, cd, _, rfl, hc.same s1, g, fun H2 s2 => ?_⟩
      refine ⟨_, rfl, _, rfl, _, _, rfl, rfl, Cb.near cd y ^^^ y, cd.n, congrArg (fun z => [V.int z]) ex, near_lt g hy, (by show 3 ≤ sizeLine; decide), fun p hp => ?_⟩
      refine ans_nums k hs (es0.trans es) ((s1.trans s2).trans (same_new hp)) ((s1.trans s2).free hp) (upd_same.trans ?_)
      rw [toCode_xor]
      rfl
theorem scSame : FnScope ["slots", "o", "p"] ["slots", "o", "p"] (defScope sSame) := ⟨rfl, rfl, rfl, by decide +kernel, rfl, by decide +kernel, by decide +kernel⟩
theorem ok_same {f : Addr} {fd : FuncData} (F : Fun K "answer_same" "answer_same" sSame f fd) (T : Tx K mg C) (G : Gs mg) (G' : Gt mg) (CS : Cal P w K mg base 1 "same_codes" ["first", "second"] (spSameCodes C)) : FnOk P w K mg base CX0 2 f fd ["slots", "o", "p"] (sp2 C .same) := by
  obtain ⟨tl, hlast⟩ := G.last
  refine F.ok scSame (fun vs H Q E h => ?_) (fun cdv A outer s H vs Q E hr h => ?_)
  · obtain ⟨l, as, s, o, y, rfl, _⟩ := h; rfl
  · obtain ⟨l, as, s, o, y, rfl, hs, k⟩ := h
    have es0 : Cs.step s (.same o y) = (s, Cs.ofOne s o fun (c : Cb.Code) => Cs.ofOne s y fun (d : Cb.Code) => .nums [if c.n = d.n ∧ c.rows = d.rows then 1 else 0]) := rfl
    refine ⟨_, pss_cons (ps_if (pt_cmpR op_gt (pe_callB (call_max2 rfl) rfl G.max boot_max (pa_cons (pv 1) (pa_cons (pv 2) pa_nil))) (pe_glob (v := .int 7) rfl hlast ⟨_, rfl⟩) (nomark _)) (pss_one (ps_ret (pe_lst (pa_cons (pe_un un_neg pe_int) pa_nil)))) pss_nil)
      (pss_one (ps_ret (pe_lst (pa_cons pe_int (pa_cons (pe_callTy call_int1 rfl G'.int boot_intN (pa_cons (pe_cal CS hr rfl (pa_cons (pe_ix ix_list (pv 0) (pv 1) (fun _ _ => rfl)) (pa_cons (pe_ix ix_list (pv 0) (pv 2) (fun _ _ => rfl)) pa_nil))) pa_nil)) pa_nil))))), ?_⟩
    refine ⟨_, rfl, _, rfl, _, _, rfl, _, _, rfl, rfl, _, rfl, ite2 (fun c => ?_) fun c => ?_⟩
    · have ho := max2_lt.mp (by simpa using c)
      exact ⟨_, rfl, (by show 1 ≤ sizeLine; decide), fun p' hp => ans_no k hs (es0.trans (same_no (f := fun c d => .nums [if c.n = d.n ∧ c.rows = d.rows then 1 else 0]) ho)) hp⟩
    · have hno : ¬ (Cs.SLOTS ≤ o ∨ Cs.SLOTS ≤ y) := fun z => c (by simpa using max2_lt.mpr z)
      obtain ⟨a, ha, hc, g⟩ := hs.get (lt8 fun z => hno (.inl z))
      obtain ⟨b, hb, hd, g'⟩ := hs.get (lt8 fun z => hno (.inr z))
      refine ⟨_, rfl, _, rfl, l, _, _, _, rfl, rfl, SqL.of hs.lst, atI_nat ha, _, rfl, _, rfl, l, _, _, _, rfl, rfl, SqL.of hs.lst, atI_nat hb, a, b, _, _, rfl, hc, hd, .inr ⟨_, rfl, (by show 2 ≤ sizeLine; decide), fun p hp => ?_⟩⟩
      refine ans_nums k hs (es0.trans (same_is (f := fun c d => .nums [if c.n = d.n ∧ c.rows = d.rows then 1 else 0]) hno)) (same_new hp) hp (upd_same.trans ?_)
      rw [one_zero]
      by_cases q : (Cs.codeAt s o).n = (Cs.codeAt s y).n ∧ (Cs.codeAt s o).rows = (Cs.codeAt s y).rows
      · rw [if_pos (decide_eq_true q), if_pos q]; rfl
      · rw [if_neg (by rw [decide_eq_false q]; decide), if_neg q]; rfl
theorem scWithin : FnScope ["slots", "o", "p"] ["slots", "o", "p"] (defScope sWithin) := ⟨rfl, rfl, rfl, by decide +kernel, rfl, by decide +kernel, by decide +kernel⟩
theorem ok_within {f : Addr} {fd : FuncData} (F : Fun K "answer_within" "answer_within" sWithin f fd) (T : Tx K mg C) (G : Gs mg) (G' : Gt mg) (CS : Cal P w K mg base 4 "is_within" ["first", "second"] (spIsWithin C)) : FnOk P w K mg base CX0 5 f fd ["slots", "o", "p"] (sp2 C .within) := by
  obtain ⟨tl, hlast⟩ := G.last
  refine F.ok scWithin (fun vs H Q E h => ?_) (fun cdv A outer s H vs Q E hr h => ?_)
  · obtain ⟨l, as, s, o, y, rfl, _⟩ := h; rfl
  · obtain ⟨l, as, s, o, y, rfl, hs, k⟩ := h
    have es0 : Cs.step s (.within o y) = (s, Cs.ofOne s o fun (c : Cb.Code) => Cs.ofOne s y fun (d : Cb.Code) => if Cs.alike c d = false then Cs.no 2 else .nums [if Cb.within c d = true then 1 else 0]) := rfl
    refine ⟨_, pss_cons (ps_if (pt_cmpR op_gt (pe_callB (call_max2 rfl) rfl G.max boot_max (pa_cons (pv 1) (pa_cons (pv 2) pa_nil))) (pe_glob (v := .int 7) rfl hlast ⟨_, rfl⟩) (nomark _)) (pss_one (ps_ret (pe_lst (pa_cons (pe_un un_neg pe_int) pa_nil)))) pss_nil)
      (pss_cons (ps_if (pt_cmpR op_ne (pe_fld (pe_ix ix_list (pv 0) (pv 1) (fun _ _ => rfl)) rfl) (pe_fld (pe_ix ix_list (pv 0) (pv 2) (fun _ _ => rfl)) rfl) (nomark _)) (pss_one (ps_ret (pe_lst (pa_cons (pe_un un_neg pe_int) pa_nil)))) pss_nil)
      (pss_one (ps_ret (pe_lst (pa_cons pe_int (pa_cons (pe_callTy call_int1 rfl G'.int boot_intN (pa_cons (pe_cal CS hr rfl (pa_cons (pe_ix ix_list (pv 0) (pv 1) (fun _ _ => rfl)) (pa_cons (pe_ix ix_list (pv 0) (pv 2) (fun _ _ => rfl)) pa_nil))) pa_nil)) pa_nil)))))), ?_⟩
    refine ⟨_, rfl, _, rfl, _, _, rfl, _, _, rfl, rfl, _, rfl, ite2 (fun c => ?_) fun c => ?_⟩
    · have ho := max2_lt.mp (by simpa using c)
      exact ⟨_, rfl, (by show 1 ≤ sizeLine; decide), fun p' hp => ans_no k hs (es0.trans (same_no (f := fun c d => if Cs.alike c d = false then Cs.no 2 else .nums [if Cb.within c d = true then 1 else 0]) ho)) hp⟩
    · have hno : ¬ (Cs.SLOTS ≤ o ∨ Cs.SLOTS ≤ y) := fun z => c (by simpa using max2_lt.mpr z)
      obtain ⟨a, ha, hc, g⟩ := hs.get (lt8 fun z => hno (.inl z))
      obtain ⟨b, hb, hd, g'⟩ := hs.get (lt8 fun z => hno (.inr z))
      obtain ⟨dx, m, h1, h2⟩ := id hc
      obtain ⟨dy, m', h3, h4⟩ := id hd
      have es1 := es0.trans (same_is (f := fun c d => if Cs.alike c d = false then Cs.no 2 else .nums [if Cb.within c d = true then 1 else 0]) hno)
      refine ⟨_, rfl, _, rfl, l, _, _, _, rfl, rfl, SqL.of hs.lst, atI_nat ha, a, C, dx, _, _, rfl, h1, T.cl, T.nN, cf_n _ _, _, rfl, _, rfl, l, _, _, _, rfl, rfl, SqL.of hs.lst, atI_nat hb, b, C, dy, _, _, rfl, h3, T.cl, T.nN, cf_n _ _, rfl, _, rfl, ite2 (fun z => ?_) fun z => ?_⟩
      · have ne : Cs.alike (Cs.codeAt s o) (Cs.codeAt s y) = false := by
          have : ¬ ((Cs.codeAt s o).n = (Cs.codeAt s y).n) := fun e => by
            rw [e] at z; simp at z
          show ((Cs.codeAt s o).n == (Cs.codeAt s y).n) = false
          simpa using this
        exact ⟨_, rfl, (by show 1 ≤ sizeLine; decide), fun p' hp => ans_no k hs (es1.trans (by rw [if_pos ne])) hp⟩
      · have e : (Cs.codeAt s o).n = (Cs.codeAt s y).n := by
          have : nv (Cs.codeAt s o).n = nv (Cs.codeAt s y).n := by simpa using z
          have := V.int.inj this
          omega
        have al : Cs.alike (Cs.codeAt s o) (Cs.codeAt s y) = true := by
          show ((Cs.codeAt s o).n == (Cs.codeAt s y).n) = true
          rw [e]; simp
        refine ⟨_, rfl, _, rfl, l, _, _, _, rfl, rfl, SqL.of hs.lst, atI_nat ha, _, rfl, _, rfl, l, _, _, _, rfl, rfl, SqL.of hs.lst, atI_nat hb, a, b, _, _, rfl, hc, hd, g, g', fun H1 s1 => .inr ⟨_, rfl, (by show 2 ≤ sizeLine; decide), fun p hp => ?_⟩⟩
        refine ans_nums k hs (es1.trans (by rw [if_neg (by rw [al]; decide)])) (s1.trans (same_new hp)) (s1.free hp) (upd_same.trans ?_)
        rw [one_zero]
        rfl
theorem scKind : FnScope ["slots", "o"] ["slots", "o"] (defScope sKind) := ⟨rfl, rfl, rfl, by decide +kernel, rfl, by decide +kernel, by decide +kernel⟩
theorem ok_kind {f : Addr} {fd : FuncData} (F : Fun K "answer_kind" "answer_kind" sKind f fd) (T : Tx K mg C) (G : Gs mg) (CF : Cal P w K mg base 8 "kind_of" ["code"] (spKindOf C)) : FnOk P w K mg base CX0 9 f fd ["slots", "o"] (sp1 C .kind) := by
  obtain ⟨tl, hlast⟩ := G.last
  refine F.ok scKind (fun vs H Q E h => ?_) (fun cdv A outer s H vs Q E hr h => ?_)
  · obtain ⟨l, as, s, o, rfl, _⟩ := h; rfl
  · obtain ⟨l, as, s, o, rfl, hs, k⟩ := h
    have es0 : Cs.step s (.kind o) = (s, Cs.ofOne s o fun (c : Cb.Code) => .nums [Cs.kindOf c]) := rfl
    refine ⟨_, pss_cons (ps_if (pt_cmpR op_gt (pv 1) (pe_glob (v := .int 7) rfl hlast ⟨_, rfl⟩) (nomark _)) (pss_one (ps_ret (pe_lst (pa_cons (pe_un un_neg pe_int) pa_nil)))) pss_nil)
      (pss_one (ps_ret (pe_lst (pa_cons pe_int (pa_cons (pe_cal CF hr rfl (pa_cons (pe_ix ix_list (pv 0) (pv 1) (fun _ _ => rfl)) pa_nil)) pa_nil))))), ?_⟩
    refine ⟨_, rfl, _, _, rfl, rfl, _, rfl, ite2 (fun c => ?_) fun c => ?_⟩
    · have ho : Cs.SLOTS ≤ o := slots_le.mp (by simpa using c)
      exact ⟨_, rfl, (by show 1 ≤ sizeLine; decide), fun p hp => ans_no k hs (es0.trans (one_no ho)) hp⟩
    · have ho : ¬ Cs.SLOTS ≤ o := fun z => c (by simpa using slots_le.mpr z)
      obtain ⟨a, ha, hc, g⟩ := hs.get (lt8 ho)
      refine ⟨_, rfl, _, rfl, l, _, _, _, rfl, rfl, SqL.of hs.lst, atI_nat ha, a, _, rfl, hc, g, fun H1 s1 => ⟨(by show 2 ≤ sizeLine; decide), fun p hp => ?_⟩⟩
      exact ans_nums k hs (es0.trans (one_is ho)) (s1.trans (same_new hp)) (s1.free hp) (upd_same.trans rfl)
theorem scWord : FnScope ["slots", "o", "k"] ["slots", "o", "k"] (defScope sWord) := ⟨rfl, rfl, rfl, by decide +kernel, rfl, by decide +kernel, by decide +kernel⟩
theorem ok_word {f : Addr} {fd : FuncData} (F : Fun K "answer_word" "answer_word" sWord f fd) (T : Tx K mg C) (G : Gs mg) (CL : Cal P w K mg base 1 "lacks_place" ["slots", "o", "k"] (spLacksPlace C)) (CW : Cal P w K mg base 1 "words_of" ["code"] (spWords C)) :
    FnOk P w K mg base CX0 2 f fd ["slots", "o", "k"] (sp2 C .word) := by
  refine F.ok scWord (fun vs H Q E h => ?_) (fun cdv A outer s H vs Q E hr h => ?_)
  · obtain ⟨l, as, s, o, y, rfl, _⟩ := h; rfl
  · obtain ⟨l, as, s, o, y, rfl, hs, k⟩ := h
    have es0 : Cs.step s (.word o y) = (s, Cs.ofOne s o fun (c : Cb.Code) => match (Cb.wordsOf c)[y]? with
      | some x => .nums [x]
      | none => Cs.no 1) := rfl
    refine ⟨_, pss_cons (ps_if (pt_val (pe_cal CL hr rfl (pa_cons (pv 0) (pa_cons (pv 1) (pa_cons (pv 2) pa_nil))))) (pss_one (ps_ret (pe_lst (pa_cons (pe_un un_neg pe_int) pa_nil)))) pss_nil)
      (pss_one (ps_ret (pe_lst (pa_cons pe_int (pa_cons (pe_ix ix_list (pe_callB cr_sortedN rfl G.sorted boot_sorted (pa_cons (pe_cal CW hr rfl (pa_cons (pe_ix ix_list (pv 0) (pv 1) (fun _ _ => rfl)) pa_nil)) pa_nil)) (pv 2) (fun _ _ => rfl)) pa_nil))))), ?_⟩
    refine ⟨_, rfl, _, rfl, _, rfl, l, as, s, o, y, rfl, hs, _, rfl, ite2 (fun c => ?_) fun c => ?_⟩
    · have es : Cs.step s (.word o y) = (s, Cs.no 1) := by
        rcases place_no c with z | ⟨z1, z2⟩
        · exact es0.trans (one_no z)
        · refine es0.trans ((one_is z1).trans ?_)
          obtain ⟨_, _, g⟩ := (hs.get (lt8 z1)).choose_spec
          have e : (Cb.wordsOf (Cs.codeAt s o))[y]? = none := List.getElem?_eq_none (by
            have := words_count (n := (Cs.codeAt s o).n) (F := (Cs.codeAt s o).rows) g.form
            show (Cb.wordsOf ⟨(Cs.codeAt s o).n, (Cs.codeAt s o).rows⟩).length ≤ y
            omega)
          rw [e]
      exact ⟨_, rfl, (by show 1 ≤ sizeLine; decide), fun p hp => ans_no k hs es hp⟩
    · obtain ⟨ho, hy⟩ := place_is c
      obtain ⟨a, ha, hc, g⟩ := hs.get (lt8 ho)
      have hlt : y < (Cb.wordsOf (Cs.codeAt s o)).length := by
        have := words_count (n := (Cs.codeAt s o).n) (F := (Cs.codeAt s o).rows) g.form
        show y < (Cb.wordsOf ⟨(Cs.codeAt s o).n, (Cs.codeAt s o).rows⟩).length
        omega
      obtain ⟨x, hx⟩ : ∃ x, (Cb.wordsOf (Cs.codeAt s o))[y]? = some x := ⟨_, List.getElem?_eq_getElem hlt⟩
      have es : Cs.step s (.word o y) = (s, .nums [x]) := by
        refine es0.trans ((one_is ho).trans ?_)
        rw [hx]
      have hlen := words_small g
      refine ⟨_, rfl, _, rfl, l, _, _, _, rfl, rfl, SqL.of hs.lst, atI_nat ha, a, _, rfl, hc, good_small g, fun H1 pw s1 _ hpw => ?_⟩
      refine ⟨pw, _, rfl, SqL.of hpw, by omega, fun l' q hp' hs' hq => ?_⟩
      have el : l' = Cb.wordsOf (Cs.codeAt s o) := by
        have := sorted_filter (n := (Cs.codeAt s o).n) (p := fun _ => true) g.form (by rw [filter_yes]; exact hp') hs'
        rwa [filter_yes] at this
      subst el
      have s2 := same_new (o := .lst (nl (Cb.wordsOf (Cs.codeAt s o)))) hq
      refine ⟨_, rfl, q, _, _, _, rfl, rfl, SqL.of upd_same, atI_nat (by rw [List.getElem?_map, hx]; rfl), (by show 2 ≤ sizeLine; decide), fun p hp => ?_⟩
      exact ans_nums k hs es ((s1.trans s2).trans (same_new hp)) ((s1.trans s2).free hp) (upd_same.trans rfl)
end
end Sc
end
section
set_option Elab.async false
set_option linter.all false
set_option maxRecDepth 100000
set_option maxHeartbeats 4000000
namespace Sc
open PySem PySem.Spec PyProof.Rows L2 CM
open PySem.W (Codec)
theorem ifY {p A B : Prop} [Decidable p] (hp : p) (h : A) : if decide p = true then A else B := by
  rw [if_pos (decide_eq_true hp)]; exact h
theorem ifN {p A B : Prop} [Decidable p] (hp : ¬ p) (h : B) : if decide p = true then A else B := by
  rw [if_neg (by rw [decide_eq_false hp]; decide)]; exact h
def keys1 : List Int := [2, 11, 12, 15, 17, 23]
def keys2 : List Int := [3, 8, 13, 14, 16, 18, 19, 20, 21, 22, 24]
def keys3 : List Int := [4, 5, 6, 7, 9, 10]
inductive Shape : Cs.Call → Prop
  | put (o n : Nat) (rows : List Nat) : Shape (.put o n rows)
  | one {c : Cs.Call} (k o : Nat) : flat c = [k, o] → keys1.contains (k : Int) = true → k ≠ 1 → Shape c
  | two {c : Cs.Call} (k o p : Nat) : flat c = [k, o, p] → keys1.contains (k : Int) = false → keys2.contains (k : Int) = true → k ≠ 1 → Shape c
  | three {c : Cs.Call} (k o p q : Nat) : flat c = [k, o, p, q] → keys1.contains (k : Int) = false → keys2.contains (k : Int) = false → k ≠ 1 → Shape c
theorem shape (c : Cs.Call) : Shape c := by
  cases c
  case put o n rows => exact .put o n rows
  case form o => exact .one 2 o rfl rfl (by decide)
  case weights o => exact .one 11 o rfl rfl (by decide)
  case least o => exact .one 12 o rfl rfl (by decide)
  case radius o => exact .one 15 o rfl rfl (by decide)
  case leaders o => exact .one 17 o rfl rfl (by decide)
  case kind o => exact .one 23 o rfl rfl (by decide)
  case dual o q => exact .two 3 o q rfl rfl rfl (by decide)
  case extend o q => exact .two 8 o q rfl rfl rfl (by decide)
  case holds o q => exact .two 13 o q rfl rfl rfl (by decide)
  case near o q => exact .two 14 o q rfl rfl rfl (by decide)
  case leader o q => exact .two 16 o q rfl rfl rfl (by decide)
  case syndrome o q => exact .two 18 o q rfl rfl rfl (by decide)
  case encode o q => exact .two 19 o q rfl rfl rfl (by decide)
  case decode o q => exact .two 20 o q rfl rfl rfl (by decide)
  case same o q => exact .two 21 o q rfl rfl rfl (by decide)
  case within o q => exact .two 22 o q rfl rfl rfl (by decide)
  case word o q => exact .two 24 o q rfl rfl rfl (by decide)
  case both o p q => exact .three 4 o p q rfl rfl rfl (by decide)
  case meet o p q => exact .three 5 o p q rfl rfl rfl (by decide)
  case puncture o p q => exact .three 6 o p q rfl rfl rfl (by decide)
  case shorten o p q => exact .three 7 o p q rfl rfl rfl (by decide)
  case beside o p q => exact .three 9 o p q rfl rfl rfl (by decide)
  case double o p q => exact .three 10 o p q rfl rfl rfl (by decide)
theorem tab_isSome (i : Int) : ∀ tab : List (Int × Addr), (tabAt tab i).isSome = (tab.map (·.1)).contains i
  | [] => rfl
  | p :: r => by
    have ih := tab_isSome i r
    unfold tabAt at ih ⊢
    rw [List.find?_cons, List.map_cons, List.contains_cons]
    by_cases e : p.1 = i
    · subst e; simp
    · rw [show (p.1 == i) = false from beq_eq_false_iff_ne.mpr e, show (i == p.1) = false from beq_eq_false_iff_ne.mpr fun z => e z.symm, Bool.false_or]
      exact ih
def Has (P : Program) (w : World) (K : PySem.W.Frag) (mg : Str → Option Value) (base : Heap) (m : Nat) (f : Addr) (sp : L2.Sp) : Prop :=
  ∃ (fd : FuncData) (ps : List Str), FnOk P w K mg base CX0 m f fd ps sp ∧ PySem.W.keepIn K (.ref f) = true ∧ L2.Binds K fd ps []
def spc (C : Addr) (c : Cs.Call) (args : List Nat) : L2.Sp := fun vs H Q _ => ∃ (l : Addr) (as : List Addr) (s : Cs.State), vs = .ref l :: nl args ∧ SlotsAt C H l as s ∧ AnsOk C l H s Q c
theorem Cal.has {P : Program} {w : World} {K : PySem.W.Frag} {mg : Str → Option Value} {base : Heap} {k m : Nat} {x : Str} {ps : List Str} {sp sp' : L2.Sp} {f : Addr} (c : Cal P w K mg base k x ps sp) (hm : mg x = some (.ref f)) (hk : k ≤ m) (h : ∀ vs H Q E, sp' vs H Q E → sp vs H Q E) : Has P w K mg base m f sp' := by
  obtain ⟨f', fd, F, hm', kp, b⟩ := c.ex
  rw [hm] at hm'
  cases hm'
  exact ⟨fd, ps, (F.mono hk).imp h, kp, b⟩
def spEnd (K : PySem.W.Frag) : L2.Sp := fun vs H Q _ => ∃ (a : Addr) (pre post : List Nat) (c : Cs.Call), vs = [.ref a, nv pre.length] ∧ SqL K H a (nl (pre ++ flat c ++ post)) ∧ Q (nv (pre.length + (flat c).length)) H
def spCall (C : Addr) : L2.Sp := fun vs H Q _ => ∃ (l p : Addr) (as : List Addr) (s : Cs.State) (c : Cs.Call), vs = [.ref l, .ref p] ∧ SlotsAt C H l as s ∧ H p = some (.lst (nl (flat c))) ∧ AnsOk C l H s Q c
theorem at_mid {pre post : List Nat} {f : List Nat} {j x : Nat} (h : f[j]? = some x) : (nl (pre ++ f ++ post))[pre.length + j]? = some (nv x) := by
  rw [List.getElem?_map, List.append_assoc, List.getElem?_append_right (by omega), Nat.add_sub_cancel_left, List.getElem?_append_left (List.getElem?_eq_some_iff.mp h).1, h]
  rfl
structure Tbs (P : Program) (w : World) (K : PySem.W.Frag) (mg : Str → Option Value) (base : Heap) (C : Addr) (m : Nat) : Prop where
  one : ∃ d tab, mg "CALLS_OF_ONE" = some (.ref d) ∧ GD K d tab ∧ tab.map (·.1) = keys1 ∧ ∀ c k o, flat c = [k, o] → ∃ f, tabAt tab (k : Int) = some f ∧ Has P w K mg base m f (spc C c [o])
  two : ∃ d tab, mg "CALLS_OF_TWO" = some (.ref d) ∧ GD K d tab ∧ tab.map (·.1) = keys2 ∧ ∀ c k o p, flat c = [k, o, p] → ∃ f, tabAt tab (k : Int) = some f ∧ Has P w K mg base m f (spc C c [o, p])
  three : ∃ d tab, mg "CALLS_OF_THREE" = some (.ref d) ∧ GD K d tab ∧ tab.map (·.1) = keys3 ∧ ∀ c k o p q, (∀ u n r, c ≠ .put u n r) → flat c = [k, o, p, q] → ∃ f, tabAt tab (k : Int) = some f ∧ Has P w K mg base m f (spc C c [o, p, q])
section
variable {P : Program} {w : World} {K : PySem.W.Frag} {mg : Str → Option Value} {base : Heap} {C : Addr}
theorem scEnd : FnScope ["calls", "start", "number"] ["calls", "start"] (defScope sEndOf) := ⟨rfl, rfl, rfl, by decide +kernel, rfl, by decide +kernel, by decide +kernel⟩
theorem ok_end {f : Addr} {fd : FuncData} {m : Nat} (F : Fun K "end_of_call" "end_of_call" sEndOf f fd) (G : Gs mg) (Tb : Tbs P w K mg base C m) : FnOk P w K mg base CX0 1 f fd ["calls", "start"] (spEnd K) := by
  obtain ⟨tp, hput⟩ := G.put
  obtain ⟨d1, tab1, m1, g1, k1, -⟩ := Tb.one
  obtain ⟨d2, tab2, m2, g2, k2, -⟩ := Tb.two
  refine F.ok scEnd (fun vs H Q E h => ?_) (fun cdv A outer s H vs Q E hr h => ?_)
  · obtain ⟨a, pre, post, c, rfl, _⟩ := h; rfl
  · obtain ⟨a, pre, post, c, rfl, hS, k⟩ := h
    refine ⟨_, pss_cons (ps_set (i := 2) scEnd.nd rfl (Or.inl rfl) (pe_ix ix_list (pv 0) (pv 1) (fun _ _ => rfl)))
      (pss_cons (ps_if (pt_cmpR op_eq (pv 2) (pe_glob (v := .int 1) rfl hput ⟨_, rfl⟩) (nomark _)) (pss_one (ps_ret (pe_op op_add (pe_op op_add (pv 1) pe_int) (pe_ix ix_list (pv 0) (pe_op op_add (pv 1) pe_int) (fun _ _ => rfl))))) pss_nil)
      (pss_cons (ps_if (pt_cmp (pc_gin g1 rfl m1 (pv 2)) (by with_unfolding_all rfl)) (pss_one (ps_ret (pe_op op_add (pv 1) pe_int))) pss_nil)
      (pss_cons (ps_if (pt_cmp (pc_gin g2 rfl m2 (pv 2)) (by with_unfolding_all rfl)) (pss_one (ps_ret (pe_op op_add (pv 1) pe_int))) pss_nil)
      (pss_one (ps_ret (pe_op op_add (pv 1) pe_int)))))), ?_⟩
    have first : ∀ {x : Nat} {r : List Nat}, flat c = x :: r → (nl (pre ++ flat c ++ post))[pre.length]? = some (nv x) := fun e => by
      have := at_mid (pre := pre) (post := post) (f := flat c) (j := 0) (by rw [e]; rfl)
      exact this
    cases shape c with
    | put o n rows =>
      have h3 := at_mid (pre := pre) (post := post) (f := flat (.put o n rows)) (j := 3) (x := rows.length) rfl
      refine ⟨_, rfl, _, rfl, a, _, _, _, rfl, rfl, hS, atI_nat (first rfl), ?_⟩
      refine ⟨_, rfl, rfl, _, rfl, ifY rfl ?_⟩
      refine ⟨_, rfl, _, _, rfl, rfl, _, rfl, _, rfl, _, _, rfl, rfl, a, _, _, _, rfl, rfl, hS, at_of (j := pre.length + 3) (by omega) h3, _, _, rfl, rfl, ?_⟩
      have e : (pre.length : Int) + 4 + (rows.length : Int) = ((pre.length + (flat (.put o n rows)).length : Nat) : Int) := by
        show _ = ((pre.length + ([1, o, n, rows.length] ++ rows).length : Nat) : Int)
        rw [List.length_append]
        simp only [List.length_cons, List.length_nil]
        omega
      show Q (V.int ((pre.length : Int) + 4 + (rows.length : Int))) H
      rw [e]; exact k
    | one x o e h1 hne =>
      refine ⟨_, rfl, _, rfl, a, _, _, _, rfl, rfl, hS, atI_nat (first e), ?_⟩
      refine ⟨_, rfl, rfl, _, rfl, ifN (fun z => hne (by have := V.int.inj z; omega)) ?_⟩
      refine ⟨_, rfl, _, rfl, _, rfl, ?_⟩
      rw [tab_isSome, k1, h1]
      refine iteT ⟨_, rfl, _, _, rfl, rfl, ?_⟩
      rw [e] at k
      exact k
    | two x o p e h1 h2 hne =>
      refine ⟨_, rfl, _, rfl, a, _, _, _, rfl, rfl, hS, atI_nat (first e), ?_⟩
      refine ⟨_, rfl, rfl, _, rfl, ifN (fun z => hne (by have := V.int.inj z; omega)) ?_⟩
      refine ⟨_, rfl, _, rfl, _, rfl, ?_⟩
      rw [tab_isSome, k1, h1]
      refine iteF ⟨_, rfl, _, rfl, _, rfl, ?_⟩
      rw [tab_isSome, k2, h2]
      refine iteT ⟨_, rfl, _, _, rfl, rfl, ?_⟩
      rw [e] at k
      exact k
    | three x o p q e h1 h2 hne =>
      refine ⟨_, rfl, _, rfl, a, _, _, _, rfl, rfl, hS, atI_nat (first e), ?_⟩
      refine ⟨_, rfl, rfl, _, rfl, ifN (fun z => hne (by have := V.int.inj z; omega)) ?_⟩
      refine ⟨_, rfl, _, rfl, _, rfl, ?_⟩
      rw [tab_isSome, k1, h1]
      refine iteF ⟨_, rfl, _, rfl, _, rfl, ?_⟩
      rw [tab_isSome, k2, h2]
      refine iteF ⟨_, rfl, _, _, rfl, rfl, ?_⟩
      rw [e] at k
      exact k
theorem scCall : FnScope ["slots", "call", "number", "answer_one", "answer_two", "answer_three"] ["slots", "call"] (defScope sCall) := ⟨rfl, rfl, rfl, by decide +kernel, rfl, by decide +kernel, by decide +kernel⟩
theorem ok_call {f : Addr} {fd : FuncData} (F : Fun K "answer_call" "answer_call" sCall f fd) (G : Gs mg) (Tb : Tbs P w K mg base C 9) (CP : Cal P w K mg base 8 "answer_put" ["slots", "o", "n", "rows"] (spPut K C)) : FnOk P w K mg base CX0 10 f fd ["slots", "call"] (spCall C) := by
  obtain ⟨tp, hput⟩ := G.put
  obtain ⟨d1, tab1, m1, g1, k1, o1⟩ := Tb.one
  obtain ⟨d2, tab2, m2, g2, k2, o2⟩ := Tb.two
  obtain ⟨d3, tab3, m3, g3, k3, o3⟩ := Tb.three
  refine F.ok scCall (fun vs H Q E h => ?_) (fun cdv A outer s H vs Q E hr h => ?_)
  · obtain ⟨l, p, as, s, c, rfl, _⟩ := h; rfl
  · obtain ⟨l, pc, as, s, c, rfl, hs, hp, k⟩ := h
    refine ⟨_, pss_cons (ps_set (i := 2) scCall.nd rfl (Or.inl rfl) (pe_ix ix_list (pv 1) pe_int (fun _ _ => rfl)))
      (pss_cons (ps_if (pt_cmpR op_eq (pv 2) (pe_glob (v := .int 1) rfl hput ⟨_, rfl⟩) (nomark _))
        (pss_one (ps_ret (pe_cal CP hr rfl (pa_cons (pv 0) (pa_cons (pe_ix ix_list (pv 1) pe_int (fun _ _ => rfl)) (pa_cons (pe_ix ix_list (pv 1) pe_int (fun _ _ => rfl)) (pa_cons (pe_slice sl_list (pv 1) (po_some pe_int) po_none) pa_nil))))))) pss_nil)
      (pss_cons (ps_if (pt_cmp (pc_gin g1 rfl m1 (pv 2)) (by with_unfolding_all rfl))
        (pss_cons (ps_set (i := 3) scCall.nd rfl (Or.inl rfl) (pe_gget g1 rfl m1 (pv 2) (fun _ _ => rfl))) (pss_one (ps_ret (pe_calV 3 hr rfl (pa_cons (pv 0) (pa_cons (pe_ix ix_list (pv 1) pe_int (fun _ _ => rfl)) pa_nil)))))) pss_nil)
      (pss_cons (ps_if (pt_cmp (pc_gin g2 rfl m2 (pv 2)) (by with_unfolding_all rfl))
        (pss_cons (ps_set (i := 4) scCall.nd rfl (Or.inl rfl) (pe_gget g2 rfl m2 (pv 2) (fun _ _ => rfl))) (pss_one (ps_ret (pe_calV 4 hr rfl (pa_cons (pv 0) (pa_cons (pe_ix ix_list (pv 1) pe_int (fun _ _ => rfl)) (pa_cons (pe_ix ix_list (pv 1) pe_int (fun _ _ => rfl)) pa_nil))))))) pss_nil)
      (pss_cons (ps_set (i := 5) scCall.nd rfl (Or.inl rfl) (pe_gget g3 rfl m3 (pv 2) (fun _ _ => rfl)))
        (pss_one (ps_ret (pe_calV 5 hr rfl (pa_cons (pv 0) (pa_cons (pe_ix ix_list (pv 1) pe_int (fun _ _ => rfl)) (pa_cons (pe_ix ix_list (pv 1) pe_int (fun _ _ => rfl)) (pa_cons (pe_ix ix_list (pv 1) pe_int (fun _ _ => rfl)) pa_nil))))))))))), ?_⟩
    have it : ∀ {f : List Nat} {j x : Nat}, f[j]? = some x → (nl f)[j]? = some (nv x) := fun e => by rw [List.getElem?_map, e]; rfl
    cases hsh : shape c with
    | put o n rows =>
      refine ⟨_, rfl, pc, _, _, _, rfl, rfl, SqL.of hp, at_of (j := 0) rfl (it rfl), ?_⟩
      refine ⟨_, rfl, rfl, _, rfl, ifY rfl ?_⟩
      refine ⟨_, rfl, _, rfl, pc, _, _, _, rfl, rfl, SqL.of hp, at_of (j := 1) rfl (it rfl), _, rfl, pc, _, _, _, rfl, rfl, SqL.of hp, at_of (j := 2) rfl (it rfl), _, rfl, 4, rfl, pc, _, rfl, SqL.of hp, fun q hq => ?_⟩
      have ec : cutV (nl (flat (.put o n rows))) (some 4) none = nl rows := by
        unfold cutV
        have e4 : HT.sIx (nl (flat (.put o n rows))).length 0 (some (4 : Int)) = 4 := by
          have := HT.sIx_nat (nl (flat (.put o n rows))).length 0 4
          refine this.trans ?_
          rw [nl_length]
          show min 4 ([1, o, n, rows.length] ++ rows).length = 4
          rw [List.length_append]
          simp only [List.length_cons, List.length_nil]
          omega
        rw [e4, HT.sIx_none, ← List.length_drop, List.take_length]
        rfl
      rw [ec]
      have s1 := same_new (o := .lst (nl rows)) hq
      refine ⟨l, q, as, s, o, n, rows, rfl, hs.same s1, SqL.of upd_same, fun H' p' as' h1 h2 h3 h4 => k H' p' as' h1 ((KeepBut.of s1).trans h2) (s1.free h3) h4⟩
    | one x o e h1 hne =>
      rw [e] at hp
      obtain ⟨f1, hf1, fd1, ps1, F1, kp1, b1⟩ := o1 c x o e
      refine ⟨_, rfl, pc, _, _, _, rfl, rfl, SqL.of hp, at_of (j := 0) rfl (it rfl), ?_⟩
      refine ⟨_, rfl, rfl, _, rfl, ifN (fun z => hne (by have := V.int.inj z; omega)) ?_⟩
      refine ⟨_, rfl, _, rfl, _, rfl, ?_⟩
      rw [tab_isSome, k1, h1]
      refine iteT ⟨_, rfl, _, f1, rfl, hf1, ?_⟩
      exact ⟨f1, fd1, ps1, _, rfl, F1, kp1, b1, _, rfl, _, rfl, pc, _, _, _, rfl, rfl, SqL.of hp, at_of (j := 1) rfl (it rfl), l, as, s, rfl, hs, k⟩
    | two x o p e h1 h2 hne =>
      rw [e] at hp
      obtain ⟨f1, hf1, fd1, ps1, F1, kp1, b1⟩ := o2 c x o p e
      refine ⟨_, rfl, pc, _, _, _, rfl, rfl, SqL.of hp, at_of (j := 0) rfl (it rfl), ?_⟩
      refine ⟨_, rfl, rfl, _, rfl, ifN (fun z => hne (by have := V.int.inj z; omega)) ?_⟩
      refine ⟨_, rfl, _, rfl, _, rfl, ?_⟩
      rw [tab_isSome, k1, h1]
      refine iteF ⟨_, rfl, _, rfl, _, rfl, ?_⟩
      rw [tab_isSome, k2, h2]
      refine iteT ⟨_, rfl, _, f1, rfl, hf1, ?_⟩
      exact ⟨f1, fd1, ps1, _, rfl, F1, kp1, b1, _, rfl, _, rfl, pc, _, _, _, rfl, rfl, SqL.of hp, at_of (j := 1) rfl (it rfl), _, rfl, pc, _, _, _, rfl, rfl, SqL.of hp, at_of (j := 2) rfl (it rfl), l, as, s, rfl, hs, k⟩
    | three x o p q e h1 h2 hne =>
      rw [e] at hp
      obtain ⟨f1, hf1, fd1, ps1, F1, kp1, b1⟩ := o3 c x o p q (fun u n r z => hne (by
        subst z
        exact ((List.cons.inj e).1).symm)) e
      refine ⟨_, rfl, pc, _, _, _, rfl, rfl, SqL.of hp, at_of (j := 0) rfl (it rfl), ?_⟩
      refine ⟨_, rfl, rfl, _, rfl, ifN (fun z => hne (by have := V.int.inj z; omega)) ?_⟩
      refine ⟨_, rfl, _, rfl, _, rfl, ?_⟩
      rw [tab_isSome, k1, h1]
      refine iteF ⟨_, rfl, _, rfl, _, rfl, ?_⟩
      rw [tab_isSome, k2, h2]
      refine iteF ⟨_, rfl, _, f1, rfl, hf1, ?_⟩
      exact ⟨f1, fd1, ps1, _, rfl, F1, kp1, b1, _, rfl, _, rfl, pc, _, _, _, rfl, rfl, SqL.of hp, at_of (j := 1) rfl (it rfl), _, rfl, pc, _, _, _, rfl, rfl, SqL.of hp, at_of (j := 2) rfl (it rfl), _, rfl, pc, _, _, _, rfl, rfl, SqL.of hp, at_of (j := 3) rfl (it rfl), l, as, s, rfl, hs, k⟩
end
end Sc
end
section
set_option Elab.async false
set_option linter.all false
set_option maxRecDepth 100000
set_option maxHeartbeats 4000000
namespace Sc
open PySem PySem.Spec PyProof.Rows L2 CM
open PySem.W (Codec)
def wout (H : Hp) (t : Addr) : Hp := fun b => if b = t then none else H b
theorem wout_ne {H : Hp} {t b : Addr} (h : b ≠ t) : wout H t b = H b := if_neg h
theorem wout_upd {H : Hp} {t : Addr} {o : HO} : wout (upd H t o) t = wout H t := funext fun b => by
  by_cases e : b = t
  · subst e; unfold wout; rw [if_pos rfl, if_pos rfl]
  · rw [wout_ne e, wout_ne e, upd_ne e]
theorem wout_new {H : Hp} {t : Addr} (h : H t = none) : wout H t = H := funext fun b => by
  by_cases e : b = t
  · subst e; unfold wout; rw [if_pos rfl, h]
  · exact wout_ne e
theorem wout_same {H H' : Hp} {t : Addr} (h : ∀ b, b ≠ t → H' b = H b) : Same (wout H t) H' := fun b o e => by
  by_cases q : b = t
  · subst q; unfold wout at e; rw [if_pos rfl] at e; cases e
  · rw [wout_ne q] at e; rw [h b q]; exact e
theorem CodeAt.off {C : Addr} {H : Hp} {a t : Addr} {c : Cb.Code} {od : Obj} {u : HO} (h : CodeAt C H a c) (ht : H t = some (.frz od u)) : CodeAt C (wout H t) a c := by
  obtain ⟨dx, l, h1, h2⟩ := h
  exact ⟨dx, l, (wout_ne (ne_of h1 ht (by intro z; cases z))).trans h1, (wout_ne (ne_of h2 ht (by intro z; cases z))).trans h2⟩
theorem SlotsAt.off {C : Addr} {H : Hp} {l t : Addr} {as : List Addr} {s : Cs.State} {od : Obj} {u : HO} (h : SlotsAt C H l as s) (ht : H t = some (.frz od u)) : SlotsAt C (wout H t) l as s :=
  ⟨(wout_ne (ne_of h.lst ht (by intro z; cases z))).trans h.lst, h.len, h.slen, fun j a ha => let ⟨c, h1, h2, h3⟩ := h.at_ j a ha; ⟨c, h1, h2.off ht, h3⟩⟩
theorem SlotsAt.good {C : Addr} {H : Hp} {l : Addr} {as : List Addr} {s : Cs.State} (h : SlotsAt C H l as s) (o : Nat) : Good (Cs.codeAt s o) := by
  by_cases ho : o < 8
  · obtain ⟨_, _, _, g⟩ := h.get ho
    exact g
  · unfold Cs.codeAt
    rw [List.getD_eq_getElem?_getD, List.getElem?_eq_none (by rw [h.slen]; omega)]
    exact Good.zero
abbrev lenA (a : Cs.Answer) : Nat := (CsNeutral.told a).length
theorem lenA_nums (l : List Nat) : lenA (.nums l) = l.length + 1 := by
  show (0 :: CsNeutral.ints l).length = _
  rw [List.length_cons]
  unfold CsNeutral.ints
  rw [List.length_map]
theorem lenA_one {s : Cs.State} {o : Nat} {f : Cb.Code → Cs.Answer} (hs : ∀ o, Good (Cs.codeAt s o)) (h : ∀ c, Good c → lenA (f c) ≤ 20) : lenA (Cs.ofOne s o f) ≤ 20 := by
  unfold Cs.ofOne
  split
  · exact Nat.le_of_ble_eq_true rfl
  · exact h _ (hs o)
theorem lenA_makes {s : Cs.State} {o q : Nat} {ok : Cb.Code → Bool} {f : Cb.Code → Cb.Code} : lenA (Cs.makes s o q ok f).2 ≤ 20 := by
  unfold Cs.makes
  split
  · exact Nat.le_of_ble_eq_true rfl
  · split
    · exact Nat.le_of_ble_eq_true rfl
    · exact Nat.le_of_ble_eq_true rfl
theorem lenA_two {s : Cs.State} {o p q : Nat} {ok : Cb.Code → Cb.Code → Bool} {f : Cb.Code → Cb.Code → Cb.Code} : lenA (Cs.makesTwo s o p q ok f).2 ≤ 20 := by
  unfold Cs.makesTwo
  split
  · exact Nat.le_of_ble_eq_true rfl
  · split
    · exact Nat.le_of_ble_eq_true rfl
    · exact Nat.le_of_ble_eq_true rfl
theorem lenA_if {p : Prop} [Decidable p] {a b : Cs.Answer} (ha : lenA a ≤ 20) (hb : lenA b ≤ 20) : lenA (if p then a else b) ≤ 20 := by
  split
  · exact ha
  · exact hb
theorem lenA_spread {n : Nat} (h : n ≤ 10) (l : List Nat) : lenA (.nums (Cb.spread n l)) ≤ 20 := by
  rw [lenA_nums]
  unfold Cb.spread
  rw [List.length_map, List.length_range]
  omega
theorem lenA_step {s : Cs.State} (hs : ∀ o, Good (Cs.codeAt s o)) (c : Cs.Call) : lenA (Cs.step s c).2 ≤ 20 := by
  have no : ∀ n, lenA (Cs.no n) ≤ 20 := fun n => Nat.le_of_ble_eq_true rfl
  cases c
  case put o n rows =>
    show lenA (if _ then (s, Cs.no 1) else Cs.goes s o ⟨n, Cb.formOf n rows⟩).2 ≤ 20
    split
    · exact no 1
    · exact Nat.le_of_ble_eq_true rfl
  case form o =>
    show lenA (Cs.ofOne s o fun (c : Cb.Code) => .nums (c.n :: c.rows)) ≤ 20
    refine lenA_one hs fun c g => ?_
    rw [lenA_nums, List.length_cons]
    have := good_small g
    omega
  case dual o q => exact lenA_makes
  case both o p q => exact lenA_two
  case meet o p q => exact lenA_two
  case puncture o i q => exact lenA_makes
  case shorten o i q => exact lenA_makes
  case extend o q => exact lenA_makes
  case beside o p q => exact lenA_two
  case double o p q => exact lenA_two
  case weights o => exact lenA_one hs fun c g => lenA_spread g.hi _
  case least o =>
    show lenA (Cs.ofOne s o fun (c : Cb.Code) => match Cb.least c with
      | none => Cs.no 5
      | some x => .nums [Cb.weight c.n x, x]) ≤ 20
    refine lenA_one hs fun c g => ?_
    cases Cb.least c with
    | none => exact no 5
    | some x => exact Nat.le_of_ble_eq_true rfl
  case holds o x => exact lenA_one hs fun c g => lenA_if (no 1) (Nat.le_of_ble_eq_true rfl)
  case near o y => exact lenA_one hs fun c g => lenA_if (no 1) (Nat.le_of_ble_eq_true rfl)
  case radius o => exact lenA_one (f := fun (c : Cb.Code) => .nums [Cb.radius c, Cb.farthest c]) hs fun c g => Nat.le_of_ble_eq_true rfl
  case leader o y => exact lenA_one hs fun c g => lenA_if (no 1) (Nat.le_of_ble_eq_true rfl)
  case leaders o => exact lenA_one hs fun c g => lenA_spread g.hi _
  case syndrome o y => exact lenA_one hs fun c g => lenA_if (no 1) (Nat.le_of_ble_eq_true rfl)
  case encode o m => exact lenA_one hs fun c g => lenA_if (no 1) (Nat.le_of_ble_eq_true rfl)
  case decode o y => exact lenA_one hs fun c g => lenA_if (no 1) (Nat.le_of_ble_eq_true rfl)
  case same o p => exact lenA_one hs fun c g => lenA_one hs fun d g' => Nat.le_of_ble_eq_true rfl
  case within o p => exact lenA_one hs fun c g => lenA_one hs fun d g' => lenA_if (no 2) (Nat.le_of_ble_eq_true rfl)
  case kind o => exact lenA_one (f := fun (c : Cb.Code) => .nums [Cs.kindOf c]) hs fun c g => Nat.le_of_ble_eq_true rfl
  case word o k =>
    show lenA (Cs.ofOne s o fun (c : Cb.Code) => match (Cb.wordsOf c)[k]? with
      | some x => .nums [x]
      | none => Cs.no 1) ≤ 20
    refine lenA_one hs fun c g => ?_
    cases (Cb.wordsOf c)[k]? with
    | none => exact no 1
    | some x => exact Nat.le_of_ble_eq_true rfl
theorem run_snoc {done : List Cs.Call} {s : Cs.State} (h : ∀ r, run Cs.start (done ++ r) = run Cs.start done ++ run s r) (c : Cs.Call) :
    run Cs.start (done ++ [c]) = run Cs.start done ++ [CsNeutral.told (Cs.step s c).2] ∧ ∀ r, run Cs.start ((done ++ [c]) ++ r) = run Cs.start (done ++ [c]) ++ run (Cs.step s c).1 r := by
  have e1 : run Cs.start (done ++ [c]) = run Cs.start done ++ [CsNeutral.told (Cs.step s c).2] := h [c]
  refine ⟨e1, fun r => ?_⟩
  rw [List.append_assoc, h, e1, List.append_assoc]
  rfl
theorem told_snoc (l : List (List Int)) (x : List Int) : PyFlat.told (l ++ [x]) = PyFlat.told l ++ ((x.length : Int) :: x) := by
  unfold PyFlat.told
  rw [List.flatMap_append]
  simp
theorem flat_pos (c : Cs.Call) : 2 ≤ (flat c).length := by
  cases c
  case put o n rows => show 2 ≤ ([1, o, n, rows.length] ++ rows).length; rw [List.length_append]; simp only [List.length_cons]; omega
  all_goals exact Nat.le_of_ble_eq_true rfl
theorem pe_codeL {X : Cx} {K : PySem.W.Frag} {k m : Nat} {C : Addr} {e : Expr} {es : List Expr} {t : TA} {p pos : Pos} (M : MkC X.prog X.w X.K X.mg X.base k C) (T : Tx X.K X.mg C) (hr : Room m X.A) (hx : X.xe = fun _ _ => False) (ha : PA X (e :: es) t) (hk : k + 1 ≤ m := by decide) (hK : X.K = K := by rfl) (hg : Gl X "Code" := by rfl)
    (he : starEach (e :: es) X.env = (false, eval e X.env) :: starEach es X.env := by rfl) (hpl : (backTo pos (starEach es X.env)).any (·.1) = false := by rfl) :
    PE X (.Call (.Name "Code" p) (e :: es) [] pos) (tLockE (tCode K C t)) := by
  subst hK
  exact pe_lock (pe_code M T hr hx ha hk hg he hpl)
def spAnswers (K : PySem.W.Frag) : L2.Sp := fun vs H Q _ => ∃ (a : Addr) (cs : List Cs.Call), vs = [.ref a] ∧ SqL K H a (nl (cs.flatMap flat)) ∧ cs.length ≤ 60 ∧ ∀ (H' : Hp) (p : Addr), H' p = some (.lst ((PyFlat.told (run Cs.start cs)).map V.int)) → Q (.ref p) H'
section
variable {P : Program} {w : World} {K : PySem.W.Frag} {mg : Str → Option Value} {base : Heap} {C : Addr}
theorem scAnswers : FnScope ["calls", "slots", "told", "start", "end", "answer", "slot"] ["calls"] (defScope sAnswers) := ⟨rfl, rfl, rfl, by decide +kernel, rfl, by decide +kernel, by decide +kernel⟩
theorem ok_answers {f : Addr} {fd : FuncData} (F : Fun K "answers" "answers" sAnswers f fd) (T : Tx K mg C) (G : Gs mg) (M : MkC P w K mg base 5 C) (CE : Cal P w K mg base 1 "end_of_call" ["calls", "start"] (spEnd K)) (CC : Cal P w K mg base 10 "answer_call" ["slots", "call"] (spCall C)) :
    FnOk P w K mg base CX0 11 f fd ["calls"] (spAnswers K) := by
  obtain ⟨tl, hlast⟩ := G.last
  refine F.ok scAnswers (fun vs H Q E h => ?_) (fun cdv A outer s H vs Q E hr h => ?_)
  · obtain ⟨a, cs, rfl, _⟩ := h; rfl
  · obtain ⟨a, cs, rfl, hS, h60, k⟩ := h
    refine ⟨_, pss_cons (ps_setLc (i := 1) (own := [("slot", 6)]) rfl scAnswers.nd rfl rfl (sw_true rfl rfl rfl rfl) (pi_range1 rfl G.range (pa_cons (pe_op op_add (pe_glob (v := .int 7) rfl hlast ⟨_, rfl⟩) pe_int) pa_nil)) (blkOk_by (by show blkC ["calls", "slots", "told", "start", "end", "answer", "slot"] (defScope sAnswers) _ _ = true; decide +kernel)) (fun _ _ _ _ _ => pg_name (i := 6) scAnswers.nd rfl (Or.inl rfl)) (fun _ _ _ _ _ => pts_nil)
        (fun _ _ _ _ _ => pe_codeL (K := K) M T hr rfl (pa_cons pe_int (pa_cons (pe_lst pa_nil) pa_nil))))
      (pss_cons (ps_set (i := 2) scAnswers.nd rfl (Or.inl rfl) (pe_lst pa_nil))
      (pss_cons (ps_set (i := 3) scAnswers.nd rfl (Or.inl rfl) pe_int)
      (pss_cons (ps_while PassesOwn.never (pt_cmpR op_lt (pv 3) (pe_callB call_len_seq rfl G.len boot_len (pa_cons (pv 0) pa_nil)) (nomark _))
        (pss_cons (ps_set (i := 4) scAnswers.nd rfl (Or.inl rfl) (pe_cal CE hr rfl (pa_cons (pv 0) (pa_cons (pv 3) pa_nil))))
        (pss_cons (ps_lock (ps_set (i := 5) scAnswers.nd rfl (Or.inl rfl) (pe_cal CC hr rfl (pa_cons (pv 1) (pa_cons (pe_slice sl_list (pv 0) (po_some (pv 3)) (po_some (pv 4))) pa_nil)))))
        (pss_cons (ps_expr (pe_bm PySem.F.plainAttrs_list PySem.F.slot_list_append PySem.F.type_list_append mt_append (pv 2) (pa_cons (pe_callB call_len_seq rfl G.len boot_len (pa_cons (pv 5) pa_nil)) pa_nil)))
        (pss_cons (ps_expr (pe_bm PySem.F.plainAttrs_list PySem.F.slot_list_extend PySem.F.type_list_extend mt_extend (pv 2) (pa_cons (pv 5) pa_nil)))
        (pss_one (ps_set (i := 3) scAnswers.nd rfl (Or.inl rfl) (pv 4))))))))
      (pss_one (ps_ret (pv 2)))))), ?_⟩
    refine ⟨_, _, rfl, rfl, _, rfl, by decide, by decide, fun D hD => ?_⟩
    rw [show ((7 : Int) + 1).toNat = 8 from rfl]
    refine lc_range (lo := 0) (n := 8) (fun i H' => ∃ as : List Addr, as.length = i ∧ H' D = some (.lst (as.map V.ref)) ∧ Same H H' ∧ ∀ b ∈ as, CodeAt C (wout H' D) b ⟨1, []⟩) ⟨[], rfl, upd_same, same_new hD, fun b hb => (List.not_mem_nil hb).elim⟩ ?_ ?_
    · rintro i H' hi ⟨as, hl, hD', sm, hco⟩
      refine ⟨rfl, D, _, hD', trivial, fun od => ?_⟩
      have hfz : (upd H' D (.frz od (.lst (as.map V.ref)))) D = some (.frz od (.lst (as.map V.ref))) := upd_same
      refine ⟨Nat.zero_le _, fun p0 hp0 => ?_⟩
      have s1 := same_new (o := .lst []) hp0
      refine code_read (K := K) (C := C) (n := 1) (rows := []) (Q := fun v H2 => H2 D = some (.frz od (.lst (as.map V.ref))) ∧ ∃ acc, (upd H2 D (.lst (as.map V.ref))) D = some (.lst acc) ∧ acc.length < sizeLine ∧
        ∃ as2 : List Addr, as2.length = i + 1 ∧ (upd (upd H2 D (.lst (as.map V.ref))) D (.lst (acc ++ [v]))) D = some (.lst (as2.map V.ref)) ∧ Same H (upd (upd H2 D (.lst (as.map V.ref))) D (.lst (acc ++ [v]))) ∧ ∀ b ∈ as2, CodeAt C (wout (upd (upd H2 D (.lst (as.map V.ref))) D (.lst (acc ++ [v]))) D) b ⟨1, []⟩)
        (SqL.of upd_same) (by decide) (by simp) fun H2 x s2 hx hcx => ?_
      have s12 := s1.trans s2
      have hfz2 := s12 _ _ hfz
      refine ⟨hfz2, as.map V.ref, upd_same, ?_, as ++ [x], by rw [List.length_append, hl]; rfl, ?_, ?_, ?_⟩
      · rw [List.length_map, hl]
        exact small' (by omega)
      · rw [upd_same, List.map_append]; rfl
      · intro b o e
        have nb : b ≠ D := ne_of_none e hD
        rw [upd_ne nb, upd_ne nb]
        exact s12 _ _ ((upd_ne nb).trans (sm b o e))
      · intro b hb
        rw [wout_upd, wout_upd]
        rcases List.mem_append.mp hb with z | z
        · refine (hco b z).same ?_
          intro c o e
          have nc : c ≠ D := fun q => by
            subst q; unfold wout at e; rw [if_pos rfl] at e; cases e
          rw [wout_ne nc] at e ⊢
          exact s12 _ _ ((upd_ne nc).trans e)
        · rw [List.mem_singleton.mp z]
          exact hcx.off hfz2
    · rintro H1 ⟨as, hl, hD1, sm1, hco⟩
      have hs1 : SlotsAt C H1 D as Cs.start := by
        refine ⟨hD1, hl, rfl, fun j b hb => ⟨⟨1, []⟩, ?_, (hco b (List.mem_of_getElem? hb)).same (wout_same fun _ _ => rfl), Good.zero⟩⟩
        have hj : j < 8 := by have := (List.getElem?_eq_some_iff.mp hb).1; omega
        unfold Cs.start Cs.SLOTS
        rw [List.getElem?_replicate, if_pos hj]
      refine ⟨Nat.zero_le _, fun t ht => ?_⟩
      have htH : H t = none := sm1.free ht
      have nDt : D ≠ t := ne_of_none hD1 ht
      refine ⟨fun m σ H' => ∃ (done rest : List Cs.Call) (st : Cs.State) (as : List Addr) (e4 e5 : Option V), cs = done ++ rest ∧ rest.length = m ∧ σ = [some (.ref a), some (.ref D), some (.ref t), some (nv (done.flatMap flat).length), e4, e5, none] ∧ Same H H' ∧ SlotsAt C (wout H' t) D as st ∧
          H' t = some (.lst ((PyFlat.told (run Cs.start done)).map V.int)) ∧ (∀ r, run Cs.start (done ++ r) = run Cs.start done ++ run st r) ∧ (PyFlat.told (run Cs.start done)).length ≤ 21 * done.length,
        ⟨cs.length, [], cs, Cs.start, as, none, none, rfl, rfl, rfl, same_upd htH sm1, ?_, upd_same, fun r => rfl, Nat.le_refl _⟩, ?_⟩
      · rw [wout_upd, wout_new ht]; exact hs1
      rintro m σ H' ⟨done, rest, st, as', e4, e5, ecs, hm, rfl, sm, hsl, hT, hrun, hbd⟩
      have hS' : SqL K H' a (nl (cs.flatMap flat)) := sm.seq hS
      have hdone : done.length ≤ 60 := by
        rw [ecs, List.length_append] at h60
        omega
      refine ⟨_, rfl, _, rfl, a, _, rfl, .inl hS', _, _, rfl, rfl, _, rfl, ite2 (fun q => ?_) fun q => ?_⟩
      · have q' : (done.flatMap flat).length < (cs.flatMap flat).length := by
          have : (((done.flatMap flat).length : Nat) : Int) < (((nl (cs.flatMap flat)).length : Nat) : Int) := of_decide_eq_true q
          rw [nl_length] at this
          omega
        cases rest with
        | nil => rw [ecs, List.append_nil] at q'; omega
        | cons c rest =>
          have efl : cs.flatMap flat = done.flatMap flat ++ flat c ++ rest.flatMap flat := by
            rw [ecs, List.flatMap_append, List.flatMap_cons, List.append_assoc]
          have hdone1 : done.length + 1 ≤ 60 := by
            rw [ecs, List.length_append, List.length_cons] at h60
            omega
          refine ⟨_, fun _ _ h => h, ?_⟩
          refine ⟨_, rfl, _, rfl, a, done.flatMap flat, rest.flatMap flat, c, rfl, efl ▸ hS', ?_⟩
          refine ⟨t, _, hT, trivial, fun od => ?_⟩
          have hfz : (upd H' t (.frz od (.lst ((PyFlat.told (run Cs.start done)).map V.int)))) t = some (.frz od (.lst ((PyFlat.told (run Cs.start done)).map V.int))) := upd_same
          have smf : Same H (upd H' t (.frz od (.lst ((PyFlat.told (run Cs.start done)).map V.int)))) := same_upd htH sm
          have hslf : SlotsAt C (upd H' t (.frz od (.lst ((PyFlat.told (run Cs.start done)).map V.int)))) D as' st := hsl.same (wout_same fun b hb => upd_ne hb)
          generalize upd H' t (.frz od (.lst ((PyFlat.told (run Cs.start done)).map V.int))) = Hf at hfz smf hslf ⊢
          refine ⟨_, rfl, _, rfl, _, rfl, _, rfl, _, rfl, _, rfl, a, _, rfl, smf.seq hS, fun p2 hp2 => ?_⟩
          have ecut : cutV (nl (cs.flatMap flat)) (some (((done.flatMap flat).length : Nat) : Int)) (some (((done.flatMap flat).length + (flat c).length : Nat) : Int)) = nl (flat c) := by
            unfold cutV
            rw [HT.sIx_nat, HT.sIx_nat, nl_length, efl]
            have l1 : (done.flatMap flat ++ flat c ++ rest.flatMap flat).length = (done.flatMap flat).length + (flat c).length + (rest.flatMap flat).length := by rw [List.length_append, List.length_append]
            rw [l1, Nat.min_eq_left (by omega), Nat.min_eq_left (by omega), Nat.add_sub_cancel_left, List.append_assoc, nl_append, nl_append]
            rw [List.drop_left' (by rw [nl_length]), List.take_left' (by rw [nl_length])]
          rw [ecut]
          have s2 := same_new (o := .lst (nl (flat c))) hp2
          have hlen : (CsNeutral.told (Cs.step st c).2).length ≤ 20 := lenA_step hslf.good c
          refine ⟨D, p2, as', st, c, rfl, hslf.same s2, upd_same, fun H1' p as2 h1 h2 h3 h4 => ?_⟩
          have hDt' : t ≠ D := Ne.symm nDt
          have ht1 : H1' t = some (.frz od (.lst ((PyFlat.told (run Cs.start done)).map V.int))) := h2 t _ (s2 _ _ hfz) hDt'
          have npt : p ≠ t := ne_of h4 ht1 (by intro z; cases z)
          refine ⟨ht1, ?_⟩
          have hp' : (upd H1' t (.lst ((PyFlat.told (run Cs.start done)).map V.int))) p = some (.lst (toldV (Cs.step st c).2)) := (upd_ne npt).trans h4
          refine ⟨_, rfl, .inl ⟨rfl, _, SqL.of upd_same⟩, _, rfl, p, _, rfl, .inl (SqL.of hp'), t, _, _, rfl, rfl, upd_same, ?_, ?_⟩
          · rw [List.length_map]
            exact small' (by omega)
          have hp2' := (upd_ne (o := .lst ((PyFlat.told (run Cs.start done)).map V.int ++ [V.int ((toldV (Cs.step st c).2).length : Nat)])) npt).trans hp'
          refine ⟨_, rfl, .inl ⟨rfl, _, SqL.of upd_same⟩, _, rfl, t, p, _, _, rfl, rfl, upd_same, hp2', ?_, ?_⟩
          · rw [List.length_append, List.length_map, List.length_map, List.length_singleton]
            exact small (by omega)
          obtain ⟨r1, r2⟩ := run_snoc hrun c
          refine ⟨_, rfl, rest.length, by rw [← hm, List.length_cons]; omega, done ++ [c], rest, (Cs.step st c).1, as2, some (nv ((done.flatMap flat).length + (flat c).length)), some (.ref p), by rw [ecs, List.append_assoc]; rfl, rfl, ?_, ?_, ?_, ?_, r2, ?_⟩
          · have e : ((done ++ [c]).flatMap flat).length = (done.flatMap flat).length + (flat c).length := by
              rw [List.flatMap_append, List.length_append]
              simp
            rw [e]; rfl
          · intro b o e
            have nb : b ≠ t := ne_of_none e htH
            rw [upd_ne nb, upd_ne nb, upd_ne nb]
            exact h2 b o (s2 _ _ (smf b o e)) (ne_of_none e hD)
          · rw [wout_upd, wout_upd, wout_upd]
            exact h1.off ht1
          · rw [upd_same, r1, told_snoc, List.map_append, List.map_cons, List.append_assoc]
            show some (HO.lst ((PyFlat.told (run Cs.start done)).map V.int ++ ([V.int ((toldV (Cs.step st c).2).length : Nat)] ++ toldV (Cs.step st c).2))) = _
            rw [List.length_map]
            rfl
          · rw [r1, told_snoc, List.length_append, List.length_append, List.length_cons, List.length_singleton]
            have : (CsNeutral.told (Cs.step st c).2).length ≤ 20 := hlen
            omega
      · have q' : ¬ (done.flatMap flat).length < (cs.flatMap flat).length := fun z => q (decide_eq_true (show (((done.flatMap flat).length : Nat) : Int) < (((nl (cs.flatMap flat)).length : Nat) : Int) by rw [nl_length]; omega))
        have er : rest = [] := by
          cases rest with
          | nil => rfl
          | cons c rest =>
            rw [ecs, List.flatMap_append, List.flatMap_cons, List.length_append, List.length_append] at q'
            have := flat_pos c
            omega
        subst er
        rw [List.append_nil] at ecs
        subst ecs
        exact ⟨_, rfl, k H' t hT⟩
end
end Sc
end
section
set_option Elab.async false
set_option linter.all false
set_option maxRecDepth 100000
set_option maxHeartbeats 4000000
namespace Sc
open PySem PySem.Spec PyProof.Rows L2 CM
open PySem.W (Codec)
def DfN (K : PySem.W.Frag) (x : Str) (st : Stmt) : Prop := ∃ (f : Addr) (oc : Value) (od : Option Addr) (kV doc pm : Value) (an : Option Addr) (cdv ct : Value) (osl : Array (Option Value)), PySem.W.nsIn K mainGlobals x = some (some (.ref f)) ∧
  K.lookup f = some ⟨oc, od, .func (PySem.W.fnOf x x (defArgs st) (defBody st) (defScope st) .none kV doc pm an cdv ct), osl⟩ ∧ PySem.W.codeIn K cdv x = true ∧ PySem.W.keepIn K (.ref f) = true
theorem dfN {K : PySem.W.Frag} {x : Str} {st : Stmt} {f : Addr} {oc : Value} {od : Option Addr} {kV doc pm : Value} {an : Option Addr} {cdv ct : Value} {osl : Array (Option Value)} (a : PySem.W.nsIn K mainGlobals x = some (some (.ref f)))
    (l : K.lookup f = some ⟨oc, od, .func (PySem.W.fnOf x x (defArgs st) (defBody st) (defScope st) .none kV doc pm an cdv ct), osl⟩) (c : PySem.W.codeIn K cdv x = true) (k : PySem.W.keepIn K (.ref f) = true) : DfN K x st := ⟨f, oc, od, kV, doc, pm, an, cdv, ct, osl, a, l, c, k⟩
theorem DfN.df {K : PySem.W.Frag} {h : Heap} {mg : Str → Option Value} {x : Str} {st : Stmt} {ps : List Str} (d : DfN K x st) (KX : K.In h) (G : h.Ns mainGlobals mg)
    (hb : ∀ (kV doc pm : Value) (an : Option Addr) (cdv ct : Value) (us : List Value), us.length = ps.length → bindArgs (PySem.W.fnOf x x (defArgs st) (defBody st) (defScope st) .none kV doc pm an cdv ct) ⟨us, []⟩ = pure (ps.zip us)) : Df K mg x st ps := by
  obtain ⟨f, oc, od, kV, doc, pm, an, cdv, ct, osl, a, l, c, k⟩ := d
  have F := fun_mk (st := st) l c k
  exact ⟨f, _, F, F.binds hb, PySem.W.mg_of KX G a⟩
def ClsN (K : PySem.W.Frag) : Prop := ∃ (C f : Addr) (fd : FuncData), PySem.W.nsIn K mainGlobals "Code" = some (some (.ref C)) ∧ Cls K C ∧ NoAttr K C "n" ∧ NoAttr K C "rows" ∧ Mk K C f ∧ Fun K "__init__" "Code.__init__" sInit f fd
theorem clsN {K : PySem.W.Frag} {C f : Addr} {oc : Value} {od : Option Addr} {kV doc pm : Value} {an : Option Addr} {cdv ct : Value} {osl : Array (Option Value)} (aC : PySem.W.nsIn K mainGlobals "Code" = some (some (.ref C)))
    (a : PySem.W.findIn K (.ref C) "__init__" = some (some (.ref f))) (i : PySem.W.isFn K (.ref f) = true) (l : K.lookup f = some ⟨oc, od, .func (PySem.W.fnOf "__init__" "Code.__init__" (defArgs sInit) (defBody sInit) (defScope sInit) .none kV doc pm an cdv ct), osl⟩) (c : PySem.W.codeIn K cdv "Code.__init__" = true) (k : PySem.W.keepIn K (.ref f) = true)
    (pg : PySem.W.plainGet K C Str.empty = true) (hd : PySem.W.hasDictIn K C = true) (po : PySem.W.plainOver K C = true) (sa : PySem.W.findIn K (.ref C) "__setattr__" = some (some (.builtin "object.__setattr__"))) (mk : PySem.W.makesIn K C = true) (kc : PySem.W.keepIn K (.ref C) = true)
    (nN : PySem.W.findIn K (.ref C) "n" = some none) (nR : PySem.W.findIn K (.ref C) "rows" = some none) : ClsN K := ⟨C, f, _, aC, ⟨pg, hd, po, sa⟩, nN, nR, ⟨mk, a, i, kc⟩, fun_mk (st := sInit) l c k⟩
structure NumsN (K : PySem.W.Frag) : Prop where
  vLASTSLOT : ∃ t, PySem.W.nsIn K mainGlobals "LAST_SLOT" = some (some (.int 7 t))
  vMOSTBITS : ∃ t, PySem.W.nsIn K mainGlobals "MOST_BITS" = some (some (.int 10 t))
  vMOSTROWS : ∃ t, PySem.W.nsIn K mainGlobals "MOST_ROWS" = some (some (.int 64 t))
  vPUT : ∃ t, PySem.W.nsIn K mainGlobals "PUT" = some (some (.int 1 t))
  n_max : PySem.W.nsIn K mainGlobals "max" = some none
  n_min : PySem.W.nsIn K mainGlobals "min" = some none
  n_len : PySem.W.nsIn K mainGlobals "len" = some none
  n_range : PySem.W.nsIn K mainGlobals "range" = some none
  n_sorted : PySem.W.nsIn K mainGlobals "sorted" = some none
  n_int : PySem.W.nsIn K mainGlobals "int" = some none
  n_list : PySem.W.nsIn K mainGlobals "list" = some none
  n_all : PySem.W.nsIn K mainGlobals "all" = some none
  n_sum : PySem.W.nsIn K mainGlobals "sum" = some none
  n_enumerate : PySem.W.nsIn K mainGlobals "enumerate" = some none
theorem numsN {K : PySem.W.Frag} {ta tb tc td : Tok} (a : PySem.W.nsIn K mainGlobals "LAST_SLOT" = some (some (.int 7 ta))) (b : PySem.W.nsIn K mainGlobals "MOST_BITS" = some (some (.int 10 tb))) (c : PySem.W.nsIn K mainGlobals "MOST_ROWS" = some (some (.int 64 tc))) (d : PySem.W.nsIn K mainGlobals "PUT" = some (some (.int 1 td)))
    (n0 : PySem.W.nsIn K mainGlobals "max" = some none) (n1 : PySem.W.nsIn K mainGlobals "min" = some none) (n2 : PySem.W.nsIn K mainGlobals "len" = some none) (n3 : PySem.W.nsIn K mainGlobals "range" = some none) (n4 : PySem.W.nsIn K mainGlobals "sorted" = some none) (n5 : PySem.W.nsIn K mainGlobals "int" = some none) (n6 : PySem.W.nsIn K mainGlobals "list" = some none) (n7 : PySem.W.nsIn K mainGlobals "all" = some none) (n8 : PySem.W.nsIn K mainGlobals "sum" = some none) (n9 : PySem.W.nsIn K mainGlobals "enumerate" = some none) : NumsN K := ⟨⟨ta, a⟩, ⟨tb, b⟩, ⟨tc, c⟩, ⟨td, d⟩, n0, n1, n2, n3, n4, n5, n6, n7, n8, n9⟩
def Tab1 (K : PySem.W.Frag) : Prop := ∃ (d f2 f11 f12 f15 f17 f23 : Addr), PySem.W.nsIn K mainGlobals "CALLS_OF_ONE" = some (some (.ref d)) ∧ GD K d [(2, f2), (11, f11), (12, f12), (15, f15), (17, f17), (23, f23)] ∧ PySem.W.nsIn K mainGlobals "answer_form" = some (some (.ref f2)) ∧ PySem.W.nsIn K mainGlobals "answer_weights" = some (some (.ref f11)) ∧ PySem.W.nsIn K mainGlobals "answer_least" = some (some (.ref f12)) ∧ PySem.W.nsIn K mainGlobals "answer_radius" = some (some (.ref f15)) ∧ PySem.W.nsIn K mainGlobals "answer_leaders" = some (some (.ref f17)) ∧ PySem.W.nsIn K mainGlobals "answer_kind" = some (some (.ref f23))
theorem tab1N {K : PySem.W.Frag} {d f2 f11 f12 f15 f17 f23 : Addr} {es : Array DictEntry} {ep : Nat} (a : PySem.W.nsIn K mainGlobals "CALLS_OF_ONE" = some (some (.ref d))) (l : K.lookup d = some ⟨.type "dict", none, .dict es ep, #[]⟩)
    (n2 : PySem.W.nsIn K mainGlobals "answer_form" = some (some (.ref f2))) (n11 : PySem.W.nsIn K mainGlobals "answer_weights" = some (some (.ref f11))) (n12 : PySem.W.nsIn K mainGlobals "answer_least" = some (some (.ref f12))) (n15 : PySem.W.nsIn K mainGlobals "answer_radius" = some (some (.ref f15))) (n17 : PySem.W.nsIn K mainGlobals "answer_leaders" = some (some (.ref f17))) (n23 : PySem.W.nsIn K mainGlobals "answer_kind" = some (some (.ref f23)))
    (ck : gck es.toList [(2, f2), (11, f11), (12, f12), (15, f15), (17, f17), (23, f23)] = true) (lo : (d == sysModules) = false) : Tab1 K := ⟨d, f2, f11, f12, f15, f17, f23, a, ⟨⟨es, ep, l, ck⟩, (show keys1.Nodup by decide), lo⟩, n2, n11, n12, n15, n17, n23⟩
def Tab2 (K : PySem.W.Frag) : Prop := ∃ (d f3 f8 f13 f14 f16 f18 f19 f20 f21 f22 f24 : Addr), PySem.W.nsIn K mainGlobals "CALLS_OF_TWO" = some (some (.ref d)) ∧ GD K d [(3, f3), (8, f8), (13, f13), (14, f14), (16, f16), (18, f18), (19, f19), (20, f20), (21, f21), (22, f22), (24, f24)] ∧ PySem.W.nsIn K mainGlobals "answer_dual" = some (some (.ref f3)) ∧ PySem.W.nsIn K mainGlobals "answer_extend" = some (some (.ref f8)) ∧ PySem.W.nsIn K mainGlobals "answer_holds" = some (some (.ref f13)) ∧ PySem.W.nsIn K mainGlobals "answer_near" = some (some (.ref f14)) ∧ PySem.W.nsIn K mainGlobals "answer_leader" = some (some (.ref f16)) ∧ PySem.W.nsIn K mainGlobals "answer_syndrome" = some (some (.ref f18)) ∧ PySem.W.nsIn K mainGlobals "answer_encode" = some (some (.ref f19)) ∧ PySem.W.nsIn K mainGlobals "answer_decode" = some (some (.ref f20)) ∧ PySem.W.nsIn K mainGlobals "answer_same" = some (some (.ref f21)) ∧ PySem.W.nsIn K mainGlobals "answer_within" = some (some (.ref f22)) ∧ PySem.W.nsIn K mainGlobals "answer_word" = some (some (.ref f24))
theorem tab2N {K : PySem.W.Frag} {d f3 f8 f13 f14 f16 f18 f19 f20 f21 f22 f24 : Addr} {es : Array DictEntry} {ep : Nat} (a : PySem.W.nsIn K mainGlobals "CALLS_OF_TWO" = some (some (.ref d))) (l : K.lookup d = some ⟨.type "dict", none, .dict es ep, #[]⟩)
    (n3 : PySem.W.nsIn K mainGlobals "answer_dual" = some (some (.ref f3))) (n8 : PySem.W.nsIn K mainGlobals "answer_extend" = some (some (.ref f8))) (n13 : PySem.W.nsIn K mainGlobals "answer_holds" = some (some (.ref f13))) (n14 : PySem.W.nsIn K mainGlobals "answer_near" = some (some (.ref f14))) (n16 : PySem.W.nsIn K mainGlobals "answer_leader" = some (some (.ref f16))) (n18 : PySem.W.nsIn K mainGlobals "answer_syndrome" = some (some (.ref f18))) (n19 : PySem.W.nsIn K mainGlobals "answer_encode" = some (some (.ref f19))) (n20 : PySem.W.nsIn K mainGlobals "answer_decode" = some (some (.ref f20))) (n21 : PySem.W.nsIn K mainGlobals "answer_same" = some (some (.ref f21))) (n22 : PySem.W.nsIn K mainGlobals "answer_within" = some (some (.ref f22))) (n24 : PySem.W.nsIn K mainGlobals "answer_word" = some (some (.ref f24)))
    (ck : gck es.toList [(3, f3), (8, f8), (13, f13), (14, f14), (16, f16), (18, f18), (19, f19), (20, f20), (21, f21), (22, f22), (24, f24)] = true) (lo : (d == sysModules) = false) : Tab2 K := ⟨d, f3, f8, f13, f14, f16, f18, f19, f20, f21, f22, f24, a, ⟨⟨es, ep, l, ck⟩, (show keys2.Nodup by decide), lo⟩, n3, n8, n13, n14, n16, n18, n19, n20, n21, n22, n24⟩
def Tab3 (K : PySem.W.Frag) : Prop := ∃ (d f4 f5 f6 f7 f9 f10 : Addr), PySem.W.nsIn K mainGlobals "CALLS_OF_THREE" = some (some (.ref d)) ∧ GD K d [(4, f4), (5, f5), (6, f6), (7, f7), (9, f9), (10, f10)] ∧ PySem.W.nsIn K mainGlobals "answer_both" = some (some (.ref f4)) ∧ PySem.W.nsIn K mainGlobals "answer_meet" = some (some (.ref f5)) ∧ PySem.W.nsIn K mainGlobals "answer_puncture" = some (some (.ref f6)) ∧ PySem.W.nsIn K mainGlobals "answer_shorten" = some (some (.ref f7)) ∧ PySem.W.nsIn K mainGlobals "answer_beside" = some (some (.ref f9)) ∧ PySem.W.nsIn K mainGlobals "answer_double" = some (some (.ref f10))
theorem tab3N {K : PySem.W.Frag} {d f4 f5 f6 f7 f9 f10 : Addr} {es : Array DictEntry} {ep : Nat} (a : PySem.W.nsIn K mainGlobals "CALLS_OF_THREE" = some (some (.ref d))) (l : K.lookup d = some ⟨.type "dict", none, .dict es ep, #[]⟩)
    (n4 : PySem.W.nsIn K mainGlobals "answer_both" = some (some (.ref f4))) (n5 : PySem.W.nsIn K mainGlobals "answer_meet" = some (some (.ref f5))) (n6 : PySem.W.nsIn K mainGlobals "answer_puncture" = some (some (.ref f6))) (n7 : PySem.W.nsIn K mainGlobals "answer_shorten" = some (some (.ref f7))) (n9 : PySem.W.nsIn K mainGlobals "answer_beside" = some (some (.ref f9))) (n10 : PySem.W.nsIn K mainGlobals "answer_double" = some (some (.ref f10)))
    (ck : gck es.toList [(4, f4), (5, f5), (6, f6), (7, f7), (9, f9), (10, f10)] = true) (lo : (d == sysModules) = false) : Tab3 K := ⟨d, f4, f5, f6, f7, f9, f10, a, ⟨⟨es, ep, l, ck⟩, (show keys3.Nodup by decide), lo⟩, n4, n5, n6, n7, n9, n10⟩
section
variable {P : Program} {w : World} {K : PySem.W.Frag} {mg : Str → Option Value} {base h : Heap} {C : Addr}
theorem tabs_one (t : Tab1 K) (KX : K.In h) (G : h.Ns mainGlobals mg) (Cform : Cal P w K mg base 1 "answer_form" ["slots", "o"] (sp1 C .form)) (Cweights : Cal P w K mg base 3 "answer_weights" ["slots", "o"] (sp1 C .weights)) (Cleast : Cal P w K mg base 4 "answer_least" ["slots", "o"] (sp1 C .least)) (Cradius : Cal P w K mg base 7 "answer_radius" ["slots", "o"] (sp1 C .radius)) (Cleaders : Cal P w K mg base 6 "answer_leaders" ["slots", "o"] (sp1 C .leaders)) (Ckind : Cal P w K mg base 9 "answer_kind" ["slots", "o"] (sp1 C .kind)) :
    ∃ d tab, mg "CALLS_OF_ONE" = some (.ref d) ∧ GD K d tab ∧ tab.map (·.1) = keys1 ∧ ∀ c k o, flat c = [k, o] → ∃ f, tabAt tab (k : Int) = some f ∧ Has P w K mg base 9 f (spc C c [o]) := by
  obtain ⟨d, f2, f11, f12, f15, f17, f23, a, g, n2, n11, n12, n15, n17, n23⟩ := t
  refine ⟨d, _, PySem.W.mg_of KX G a, g, rfl, fun c k o e => ?_⟩
  cases c
  case put u n r => cases e
  case form => cases e; exact ⟨f2, rfl, Cform.has (PySem.W.mg_of KX G n2) (by decide) fun vs H Q E ⟨l, as, s, e, hs, k⟩ => ⟨l, as, s, _, e, hs, k⟩⟩
  case dual => cases e
  case both => cases e
  case meet => cases e
  case puncture => cases e
  case shorten => cases e
  case extend => cases e
  case beside => cases e
  case double => cases e
  case weights => cases e; exact ⟨f11, rfl, Cweights.has (PySem.W.mg_of KX G n11) (by decide) fun vs H Q E ⟨l, as, s, e, hs, k⟩ => ⟨l, as, s, _, e, hs, k⟩⟩
  case least => cases e; exact ⟨f12, rfl, Cleast.has (PySem.W.mg_of KX G n12) (by decide) fun vs H Q E ⟨l, as, s, e, hs, k⟩ => ⟨l, as, s, _, e, hs, k⟩⟩
  case holds => cases e
  case near => cases e
  case radius => cases e; exact ⟨f15, rfl, Cradius.has (PySem.W.mg_of KX G n15) (by decide) fun vs H Q E ⟨l, as, s, e, hs, k⟩ => ⟨l, as, s, _, e, hs, k⟩⟩
  case leader => cases e
  case leaders => cases e; exact ⟨f17, rfl, Cleaders.has (PySem.W.mg_of KX G n17) (by decide) fun vs H Q E ⟨l, as, s, e, hs, k⟩ => ⟨l, as, s, _, e, hs, k⟩⟩
  case syndrome => cases e
  case encode => cases e
  case decode => cases e
  case same => cases e
  case within => cases e
  case kind => cases e; exact ⟨f23, rfl, Ckind.has (PySem.W.mg_of KX G n23) (by decide) fun vs H Q E ⟨l, as, s, e, hs, k⟩ => ⟨l, as, s, _, e, hs, k⟩⟩
  case word => cases e
theorem tabs_two (t : Tab2 K) (KX : K.In h) (G : h.Ns mainGlobals mg) (Cdual : Cal P w K mg base 8 "answer_dual" ["slots", "o", "q"] (sp2 C .dual)) (Cextend : Cal P w K mg base 8 "answer_extend" ["slots", "o", "q"] (sp2 C .extend)) (Cholds : Cal P w K mg base 4 "answer_holds" ["slots", "o", "x"] (sp2 C .holds)) (Cnear : Cal P w K mg base 6 "answer_near" ["slots", "o", "y"] (sp2 C .near)) (Cleader : Cal P w K mg base 5 "answer_leader" ["slots", "o", "y"] (sp2 C .leader)) (Csyndrome : Cal P w K mg base 9 "answer_syndrome" ["slots", "o", "y"] (sp2 C .syndrome)) (Cencode : Cal P w K mg base 3 "answer_encode" ["slots", "o", "m"] (sp2 C .encode)) (Cdecode : Cal P w K mg base 6 "answer_decode" ["slots", "o", "y"] (sp2 C .decode)) (Csame : Cal P w K mg base 2 "answer_same" ["slots", "o", "p"] (sp2 C .same)) (Cwithin : Cal P w K mg base 5 "answer_within" ["slots", "o", "p"] (sp2 C .within)) (Cword : Cal P w K mg base 2 "answer_word" ["slots", "o", "k"] (sp2 C .word)) :
    ∃ d tab, mg "CALLS_OF_TWO" = some (.ref d) ∧ GD K d tab ∧ tab.map (·.1) = keys2 ∧ ∀ c k o p, flat c = [k, o, p] → ∃ f, tabAt tab (k : Int) = some f ∧ Has P w K mg base 9 f (spc C c [o, p]) := by
  obtain ⟨d, f3, f8, f13, f14, f16, f18, f19, f20, f21, f22, f24, a, g, n3, n8, n13, n14, n16, n18, n19, n20, n21, n22, n24⟩ := t
  refine ⟨d, _, PySem.W.mg_of KX G a, g, rfl, fun c k o p e => ?_⟩
  cases c
  case put u n r => cases e
  case form => cases e
  case dual => cases e; exact ⟨f3, rfl, Cdual.has (PySem.W.mg_of KX G n3) (by decide) fun vs H Q E ⟨l, as, s, e, hs, k⟩ => ⟨l, as, s, _, _, e, hs, k⟩⟩
  case both => cases e
  case meet => cases e
  case puncture => cases e
  case shorten => cases e
  case extend => cases e; exact ⟨f8, rfl, Cextend.has (PySem.W.mg_of KX G n8) (by decide) fun vs H Q E ⟨l, as, s, e, hs, k⟩ => ⟨l, as, s, _, _, e, hs, k⟩⟩
  case beside => cases e
  case double => cases e
  case weights => cases e
  case least => cases e
  case holds => cases e; exact ⟨f13, rfl, Cholds.has (PySem.W.mg_of KX G n13) (by decide) fun vs H Q E ⟨l, as, s, e, hs, k⟩ => ⟨l, as, s, _, _, e, hs, k⟩⟩
  case near => cases e; exact ⟨f14, rfl, Cnear.has (PySem.W.mg_of KX G n14) (by decide) fun vs H Q E ⟨l, as, s, e, hs, k⟩ => ⟨l, as, s, _, _, e, hs, k⟩⟩
  case radius => cases e
  case leader => cases e; exact ⟨f16, rfl, Cleader.has (PySem.W.mg_of KX G n16) (by decide) fun vs H Q E ⟨l, as, s, e, hs, k⟩ => ⟨l, as, s, _, _, e, hs, k⟩⟩
  case leaders => cases e
  case syndrome => cases e; exact ⟨f18, rfl, Csyndrome.has (PySem.W.mg_of KX G n18) (by decide) fun vs H Q E ⟨l, as, s, e, hs, k⟩ => ⟨l, as, s, _, _, e, hs, k⟩⟩
  case encode => cases e; exact ⟨f19, rfl, Cencode.has (PySem.W.mg_of KX G n19) (by decide) fun vs H Q E ⟨l, as, s, e, hs, k⟩ => ⟨l, as, s, _, _, e, hs, k⟩⟩
  case decode => cases e; exact ⟨f20, rfl, Cdecode.has (PySem.W.mg_of KX G n20) (by decide) fun vs H Q E ⟨l, as, s, e, hs, k⟩ => ⟨l, as, s, _, _, e, hs, k⟩⟩
  case same => cases e; exact ⟨f21, rfl, Csame.has (PySem.W.mg_of KX G n21) (by decide) fun vs H Q E ⟨l, as, s, e, hs, k⟩ => ⟨l, as, s, _, _, e, hs, k⟩⟩
  case within => cases e; exact ⟨f22, rfl, Cwithin.has (PySem.W.mg_of KX G n22) (by decide) fun vs H Q E ⟨l, as, s, e, hs, k⟩ => ⟨l, as, s, _, _, e, hs, k⟩⟩
  case kind => cases e
  case word => cases e; exact ⟨f24, rfl, Cword.has (PySem.W.mg_of KX G n24) (by decide) fun vs H Q E ⟨l, as, s, e, hs, k⟩ => ⟨l, as, s, _, _, e, hs, k⟩⟩
theorem tabs_three (t : Tab3 K) (KX : K.In h) (G : h.Ns mainGlobals mg) (Cboth : Cal P w K mg base 8 "answer_both" ["slots", "o", "p", "q"] (sp3 C .both)) (Cmeet : Cal P w K mg base 8 "answer_meet" ["slots", "o", "p", "q"] (sp3 C .meet)) (Cpuncture : Cal P w K mg base 8 "answer_puncture" ["slots", "o", "i", "q"] (sp3 C .puncture)) (Cshorten : Cal P w K mg base 8 "answer_shorten" ["slots", "o", "i", "q"] (sp3 C .shorten)) (Cbeside : Cal P w K mg base 8 "answer_beside" ["slots", "o", "p", "q"] (sp3 C .beside)) (Cdouble : Cal P w K mg base 8 "answer_double" ["slots", "o", "p", "q"] (sp3 C .double)) :
    ∃ d tab, mg "CALLS_OF_THREE" = some (.ref d) ∧ GD K d tab ∧ tab.map (·.1) = keys3 ∧ ∀ c k o p q, (∀ u n r, c ≠ .put u n r) → flat c = [k, o, p, q] → ∃ f, tabAt tab (k : Int) = some f ∧ Has P w K mg base 9 f (spc C c [o, p, q]) := by
  obtain ⟨d, f4, f5, f6, f7, f9, f10, a, g, n4, n5, n6, n7, n9, n10⟩ := t
  refine ⟨d, _, PySem.W.mg_of KX G a, g, rfl, fun c k o p q hp e => ?_⟩
  cases c
  case put u n r => exact absurd rfl (hp u n r)
  case form => cases e
  case dual => cases e
  case both => cases e; exact ⟨f4, rfl, Cboth.has (PySem.W.mg_of KX G n4) (by decide) fun vs H Q E ⟨l, as, s, e, hs, k⟩ => ⟨l, as, s, _, _, _, e, hs, k⟩⟩
  case meet => cases e; exact ⟨f5, rfl, Cmeet.has (PySem.W.mg_of KX G n5) (by decide) fun vs H Q E ⟨l, as, s, e, hs, k⟩ => ⟨l, as, s, _, _, _, e, hs, k⟩⟩
  case puncture => cases e; exact ⟨f6, rfl, Cpuncture.has (PySem.W.mg_of KX G n6) (by decide) fun vs H Q E ⟨l, as, s, e, hs, k⟩ => ⟨l, as, s, _, _, _, e, hs, k⟩⟩
  case shorten => cases e; exact ⟨f7, rfl, Cshorten.has (PySem.W.mg_of KX G n7) (by decide) fun vs H Q E ⟨l, as, s, e, hs, k⟩ => ⟨l, as, s, _, _, _, e, hs, k⟩⟩
  case extend => cases e
  case beside => cases e; exact ⟨f9, rfl, Cbeside.has (PySem.W.mg_of KX G n9) (by decide) fun vs H Q E ⟨l, as, s, e, hs, k⟩ => ⟨l, as, s, _, _, _, e, hs, k⟩⟩
  case double => cases e; exact ⟨f10, rfl, Cdouble.has (PySem.W.mg_of KX G n10) (by decide) fun vs H Q E ⟨l, as, s, e, hs, k⟩ => ⟨l, as, s, _, _, _, e, hs, k⟩⟩
  case weights => cases e
  case least => cases e
  case holds => cases e
  case near => cases e
  case radius => cases e
  case leader => cases e
  case leaders => cases e
  case syndrome => cases e
  case encode => cases e
  case decode => cases e
  case same => cases e
  case within => cases e
  case kind => cases e
  case word => cases e
end
theorem all_mk {P : Program} {w : World} {K : PySem.W.Frag} {h : Heap} {mg : Str → Option Value} {fa : Addr} (KX : K.In h) (G : h.Ns mainGlobals mg) (hfa : mg "answers" = some (.ref fa)) (dc : ClsN K) (dn : NumsN K) (t1 : Tab1 K) (t2 : Tab2 K) (t3 : Tab3 K)
    (d_weight : DfN K "weight" sWeight)
    (d_by_weight : DfN K "by_weight" sByWeight)
    (d_has_bit : DfN K "has_bit" sHasBit)
    (d_without_bit : DfN K "without_bit" sWithout)
    (d_highest_place : DfN K "highest_place" sHighest)
    (d_reduced : DfN K "reduced" sReduced)
    (d_form_with : DfN K "form_with" sFormWith)
    (d_form_of : DfN K "form_of" sFormOf)
    (d_words_of : DfN K "words_of" sWords)
    (d_has_word : DfN K "has_word" sHasWord)
    (d_same_codes : DfN K "same_codes" sSameCodes)
    (d_is_within : DfN K "is_within" sIsWithin)
    (d_sum_of_picked : DfN K "sum_of_picked" sSumPicked)
    (d_picks_of : DfN K "picks_of" sPicksOf)
    (d_dual_of : DfN K "dual_of" sDualOf)
    (d_dual_row : DfN K "dual_row" sDualRow)
    (d_both_of : DfN K "both_of" sBothOf)
    (d_meet_of : DfN K "meet_of" sMeetOf)
    (d_punctured : DfN K "punctured" sPunctured)
    (d_shortened : DfN K "shortened" sShortened)
    (d_extended : DfN K "extended" sExtended)
    (d_beside_of : DfN K "beside_of" sBesideOf)
    (d_doubled : DfN K "doubled" sDoubled)
    (d_counts_by_weight : DfN K "counts_by_weight" sCounts)
    (d_leader_of : DfN K "leader_of" sLeaderOf)
    (d_nearest_words : DfN K "nearest_words" sNearestWords)
    (d_leaders_of : DfN K "leaders_of" sLeadersOf)
    (d_farthest_of : DfN K "farthest_of" sFarthestOf)
    (d_nearest_never_tie : DfN K "nearest_never_tie" sNeverTie)
    (d_syndrome_of : DfN K "syndrome_of" sSyndromeOf)
    (d_weights_are_multiples : DfN K "weights_are_multiples" sMultiples)
    (d_turned : DfN K "turned" sTurned)
    (d_stays_when_turned : DfN K "stays_when_turned" sStaysTurned)
    (d_kind_of : DfN K "kind_of" sKindOf)
    (d_placed : DfN K "placed" sPlaced)
    (d_answer_put : DfN K "answer_put" sPut)
    (d_answer_form : DfN K "answer_form" sForm)
    (d_answer_dual : DfN K "answer_dual" sDual)
    (d_answer_both : DfN K "answer_both" sBoth)
    (d_answer_meet : DfN K "answer_meet" sMeet)
    (d_can_lose_bit : DfN K "can_lose_bit" sCanLose)
    (d_answer_puncture : DfN K "answer_puncture" sPuncture)
    (d_answer_shorten : DfN K "answer_shorten" sShorten)
    (d_answer_extend : DfN K "answer_extend" sExtend)
    (d_answer_beside : DfN K "answer_beside" sBeside)
    (d_answer_double : DfN K "answer_double" sDouble)
    (d_answer_weights : DfN K "answer_weights" sWeights)
    (d_answer_least : DfN K "answer_least" sLeast)
    (d_lacks_word : DfN K "lacks_word" sLacksWord)
    (d_lacks_place : DfN K "lacks_place" sLacksPlace)
    (d_answer_holds : DfN K "answer_holds" sHolds)
    (d_answer_near : DfN K "answer_near" sNear)
    (d_answer_radius : DfN K "answer_radius" sRadius)
    (d_answer_leader : DfN K "answer_leader" sLeader)
    (d_answer_leaders : DfN K "answer_leaders" sLeaders)
    (d_answer_syndrome : DfN K "answer_syndrome" sSyndrome)
    (d_answer_encode : DfN K "answer_encode" sEncode)
    (d_answer_decode : DfN K "answer_decode" sDecode)
    (d_answer_same : DfN K "answer_same" sSame)
    (d_answer_within : DfN K "answer_within" sWithin)
    (d_answer_kind : DfN K "answer_kind" sKind)
    (d_answer_word : DfN K "answer_word" sWord)
    (d_end_of_call : DfN K "end_of_call" sEndOf)
    (d_answer_call : DfN K "answer_call" sCall)
    (d_answers : DfN K "answers" sAnswers) :
    ∃ fd : FuncData, (∀ (s : Shared) (us : List Value), us.length = (["calls"] : List Str).length → BindsTo s fd ⟨us, []⟩ ((["calls"] : List Str).zip us)) ∧ ∀ base : Heap, K.In base → base.Ns mainGlobals mg → FnOk P w K mg base CX0 11 fa fd ["calls"] (spAnswers K) := by
  obtain ⟨C, fI, fdI, aC, cl, nN, nR, mk, FI⟩ := dc
  have T : Tx K mg C := ⟨cl, nN, nR, PySem.W.mg_of KX G aC⟩
  obtain ⟨fz, oc, od, kV, doc, pm, an, cdv, ct, osl, az, lz, cz, kz⟩ := d_answers
  have Fz := fun_mk (st := sAnswers) lz cz kz
  have ez := hfa.symm.trans (PySem.W.mg_of KX G az)
  cases ez
  have bI := FI.binds (ps := ["self", "n", "rows"]) fun _ _ _ _ _ _ us hl => match us, hl with | [_, _, _], _ => rfl
  have D_weight : Df K mg "weight" sWeight ["word"] := d_weight.df KX G fun _ _ _ _ _ _ us hl => match us, hl with | [_], _ => rfl
  have D_by_weight : Df K mg "by_weight" sByWeight ["word"] := d_by_weight.df KX G fun _ _ _ _ _ _ us hl => match us, hl with | [_], _ => rfl
  have D_has_bit : Df K mg "has_bit" sHasBit ["word", "i"] := d_has_bit.df KX G fun _ _ _ _ _ _ us hl => match us, hl with | [_, _], _ => rfl
  have D_without_bit : Df K mg "without_bit" sWithout ["word", "i"] := d_without_bit.df KX G fun _ _ _ _ _ _ us hl => match us, hl with | [_, _], _ => rfl
  have D_highest_place : Df K mg "highest_place" sHighest ["word"] := d_highest_place.df KX G fun _ _ _ _ _ _ us hl => match us, hl with | [_], _ => rfl
  have D_reduced : Df K mg "reduced" sReduced ["form", "word"] := d_reduced.df KX G fun _ _ _ _ _ _ us hl => match us, hl with | [_, _], _ => rfl
  have D_form_with : Df K mg "form_with" sFormWith ["form", "row"] := d_form_with.df KX G fun _ _ _ _ _ _ us hl => match us, hl with | [_, _], _ => rfl
  have D_form_of : Df K mg "form_of" sFormOf ["rows"] := d_form_of.df KX G fun _ _ _ _ _ _ us hl => match us, hl with | [_], _ => rfl
  have D_words_of : Df K mg "words_of" sWords ["code"] := d_words_of.df KX G fun _ _ _ _ _ _ us hl => match us, hl with | [_], _ => rfl
  have D_has_word : Df K mg "has_word" sHasWord ["code", "word"] := d_has_word.df KX G fun _ _ _ _ _ _ us hl => match us, hl with | [_, _], _ => rfl
  have D_same_codes : Df K mg "same_codes" sSameCodes ["first", "second"] := d_same_codes.df KX G fun _ _ _ _ _ _ us hl => match us, hl with | [_, _], _ => rfl
  have D_is_within : Df K mg "is_within" sIsWithin ["first", "second"] := d_is_within.df KX G fun _ _ _ _ _ _ us hl => match us, hl with | [_, _], _ => rfl
  have D_sum_of_picked : Df K mg "sum_of_picked" sSumPicked ["code", "picks"] := d_sum_of_picked.df KX G fun _ _ _ _ _ _ us hl => match us, hl with | [_, _], _ => rfl
  have D_picks_of : Df K mg "picks_of" sPicksOf ["code", "word"] := d_picks_of.df KX G fun _ _ _ _ _ _ us hl => match us, hl with | [_, _], _ => rfl
  have D_dual_of : Df K mg "dual_of" sDualOf ["code"] := d_dual_of.df KX G fun _ _ _ _ _ _ us hl => match us, hl with | [_], _ => rfl
  have D_dual_row : Df K mg "dual_row" sDualRow ["code", "i"] := d_dual_row.df KX G fun _ _ _ _ _ _ us hl => match us, hl with | [_, _], _ => rfl
  have D_both_of : Df K mg "both_of" sBothOf ["first", "second"] := d_both_of.df KX G fun _ _ _ _ _ _ us hl => match us, hl with | [_, _], _ => rfl
  have D_meet_of : Df K mg "meet_of" sMeetOf ["first", "second"] := d_meet_of.df KX G fun _ _ _ _ _ _ us hl => match us, hl with | [_, _], _ => rfl
  have D_punctured : Df K mg "punctured" sPunctured ["code", "i"] := d_punctured.df KX G fun _ _ _ _ _ _ us hl => match us, hl with | [_, _], _ => rfl
  have D_shortened : Df K mg "shortened" sShortened ["code", "i"] := d_shortened.df KX G fun _ _ _ _ _ _ us hl => match us, hl with | [_, _], _ => rfl
  have D_extended : Df K mg "extended" sExtended ["code"] := d_extended.df KX G fun _ _ _ _ _ _ us hl => match us, hl with | [_], _ => rfl
  have D_beside_of : Df K mg "beside_of" sBesideOf ["first", "second"] := d_beside_of.df KX G fun _ _ _ _ _ _ us hl => match us, hl with | [_, _], _ => rfl
  have D_doubled : Df K mg "doubled" sDoubled ["first", "second"] := d_doubled.df KX G fun _ _ _ _ _ _ us hl => match us, hl with | [_, _], _ => rfl
  have D_counts_by_weight : Df K mg "counts_by_weight" sCounts ["n", "words"] := d_counts_by_weight.df KX G fun _ _ _ _ _ _ us hl => match us, hl with | [_, _], _ => rfl
  have D_leader_of : Df K mg "leader_of" sLeaderOf ["code", "y"] := d_leader_of.df KX G fun _ _ _ _ _ _ us hl => match us, hl with | [_, _], _ => rfl
  have D_nearest_words : Df K mg "nearest_words" sNearestWords ["code", "y"] := d_nearest_words.df KX G fun _ _ _ _ _ _ us hl => match us, hl with | [_, _], _ => rfl
  have D_leaders_of : Df K mg "leaders_of" sLeadersOf ["code"] := d_leaders_of.df KX G fun _ _ _ _ _ _ us hl => match us, hl with | [_], _ => rfl
  have D_farthest_of : Df K mg "farthest_of" sFarthestOf ["code"] := d_farthest_of.df KX G fun _ _ _ _ _ _ us hl => match us, hl with | [_], _ => rfl
  have D_nearest_never_tie : Df K mg "nearest_never_tie" sNeverTie ["code"] := d_nearest_never_tie.df KX G fun _ _ _ _ _ _ us hl => match us, hl with | [_], _ => rfl
  have D_syndrome_of : Df K mg "syndrome_of" sSyndromeOf ["code", "y"] := d_syndrome_of.df KX G fun _ _ _ _ _ _ us hl => match us, hl with | [_, _], _ => rfl
  have D_weights_are_multiples : Df K mg "weights_are_multiples" sMultiples ["code", "step"] := d_weights_are_multiples.df KX G fun _ _ _ _ _ _ us hl => match us, hl with | [_, _], _ => rfl
  have D_turned : Df K mg "turned" sTurned ["n", "word"] := d_turned.df KX G fun _ _ _ _ _ _ us hl => match us, hl with | [_, _], _ => rfl
  have D_stays_when_turned : Df K mg "stays_when_turned" sStaysTurned ["code"] := d_stays_when_turned.df KX G fun _ _ _ _ _ _ us hl => match us, hl with | [_], _ => rfl
  have D_kind_of : Df K mg "kind_of" sKindOf ["code"] := d_kind_of.df KX G fun _ _ _ _ _ _ us hl => match us, hl with | [_], _ => rfl
  have D_placed : Df K mg "placed" sPlaced ["slots", "q", "code"] := d_placed.df KX G fun _ _ _ _ _ _ us hl => match us, hl with | [_, _, _], _ => rfl
  have D_answer_put : Df K mg "answer_put" sPut ["slots", "o", "n", "rows"] := d_answer_put.df KX G fun _ _ _ _ _ _ us hl => match us, hl with | [_, _, _, _], _ => rfl
  have D_answer_form : Df K mg "answer_form" sForm ["slots", "o"] := d_answer_form.df KX G fun _ _ _ _ _ _ us hl => match us, hl with | [_, _], _ => rfl
  have D_answer_dual : Df K mg "answer_dual" sDual ["slots", "o", "q"] := d_answer_dual.df KX G fun _ _ _ _ _ _ us hl => match us, hl with | [_, _, _], _ => rfl
  have D_answer_both : Df K mg "answer_both" sBoth ["slots", "o", "p", "q"] := d_answer_both.df KX G fun _ _ _ _ _ _ us hl => match us, hl with | [_, _, _, _], _ => rfl
  have D_answer_meet : Df K mg "answer_meet" sMeet ["slots", "o", "p", "q"] := d_answer_meet.df KX G fun _ _ _ _ _ _ us hl => match us, hl with | [_, _, _, _], _ => rfl
  have D_can_lose_bit : Df K mg "can_lose_bit" sCanLose ["code", "i"] := d_can_lose_bit.df KX G fun _ _ _ _ _ _ us hl => match us, hl with | [_, _], _ => rfl
  have D_answer_puncture : Df K mg "answer_puncture" sPuncture ["slots", "o", "i", "q"] := d_answer_puncture.df KX G fun _ _ _ _ _ _ us hl => match us, hl with | [_, _, _, _], _ => rfl
  have D_answer_shorten : Df K mg "answer_shorten" sShorten ["slots", "o", "i", "q"] := d_answer_shorten.df KX G fun _ _ _ _ _ _ us hl => match us, hl with | [_, _, _, _], _ => rfl
  have D_answer_extend : Df K mg "answer_extend" sExtend ["slots", "o", "q"] := d_answer_extend.df KX G fun _ _ _ _ _ _ us hl => match us, hl with | [_, _, _], _ => rfl
  have D_answer_beside : Df K mg "answer_beside" sBeside ["slots", "o", "p", "q"] := d_answer_beside.df KX G fun _ _ _ _ _ _ us hl => match us, hl with | [_, _, _, _], _ => rfl
  have D_answer_double : Df K mg "answer_double" sDouble ["slots", "o", "p", "q"] := d_answer_double.df KX G fun _ _ _ _ _ _ us hl => match us, hl with | [_, _, _, _], _ => rfl
  have D_answer_weights : Df K mg "answer_weights" sWeights ["slots", "o"] := d_answer_weights.df KX G fun _ _ _ _ _ _ us hl => match us, hl with | [_, _], _ => rfl
  have D_answer_least : Df K mg "answer_least" sLeast ["slots", "o"] := d_answer_least.df KX G fun _ _ _ _ _ _ us hl => match us, hl with | [_, _], _ => rfl
  have D_lacks_word : Df K mg "lacks_word" sLacksWord ["slots", "o", "y"] := d_lacks_word.df KX G fun _ _ _ _ _ _ us hl => match us, hl with | [_, _, _], _ => rfl
  have D_lacks_place : Df K mg "lacks_place" sLacksPlace ["slots", "o", "k"] := d_lacks_place.df KX G fun _ _ _ _ _ _ us hl => match us, hl with | [_, _, _], _ => rfl
  have D_answer_holds : Df K mg "answer_holds" sHolds ["slots", "o", "x"] := d_answer_holds.df KX G fun _ _ _ _ _ _ us hl => match us, hl with | [_, _, _], _ => rfl
  have D_answer_near : Df K mg "answer_near" sNear ["slots", "o", "y"] := d_answer_near.df KX G fun _ _ _ _ _ _ us hl => match us, hl with | [_, _, _], _ => rfl
  have D_answer_radius : Df K mg "answer_radius" sRadius ["slots", "o"] := d_answer_radius.df KX G fun _ _ _ _ _ _ us hl => match us, hl with | [_, _], _ => rfl
  have D_answer_leader : Df K mg "answer_leader" sLeader ["slots", "o", "y"] := d_answer_leader.df KX G fun _ _ _ _ _ _ us hl => match us, hl with | [_, _, _], _ => rfl
  have D_answer_leaders : Df K mg "answer_leaders" sLeaders ["slots", "o"] := d_answer_leaders.df KX G fun _ _ _ _ _ _ us hl => match us, hl with | [_, _], _ => rfl
  have D_answer_syndrome : Df K mg "answer_syndrome" sSyndrome ["slots", "o", "y"] := d_answer_syndrome.df KX G fun _ _ _ _ _ _ us hl => match us, hl with | [_, _, _], _ => rfl
  have D_answer_encode : Df K mg "answer_encode" sEncode ["slots", "o", "m"] := d_answer_encode.df KX G fun _ _ _ _ _ _ us hl => match us, hl with | [_, _, _], _ => rfl
  have D_answer_decode : Df K mg "answer_decode" sDecode ["slots", "o", "y"] := d_answer_decode.df KX G fun _ _ _ _ _ _ us hl => match us, hl with | [_, _, _], _ => rfl
  have D_answer_same : Df K mg "answer_same" sSame ["slots", "o", "p"] := d_answer_same.df KX G fun _ _ _ _ _ _ us hl => match us, hl with | [_, _, _], _ => rfl
  have D_answer_within : Df K mg "answer_within" sWithin ["slots", "o", "p"] := d_answer_within.df KX G fun _ _ _ _ _ _ us hl => match us, hl with | [_, _, _], _ => rfl
  have D_answer_kind : Df K mg "answer_kind" sKind ["slots", "o"] := d_answer_kind.df KX G fun _ _ _ _ _ _ us hl => match us, hl with | [_, _], _ => rfl
  have D_answer_word : Df K mg "answer_word" sWord ["slots", "o", "k"] := d_answer_word.df KX G fun _ _ _ _ _ _ us hl => match us, hl with | [_, _, _], _ => rfl
  have D_end_of_call : Df K mg "end_of_call" sEndOf ["calls", "start"] := d_end_of_call.df KX G fun _ _ _ _ _ _ us hl => match us, hl with | [_, _], _ => rfl
  have D_answer_call : Df K mg "answer_call" sCall ["slots", "call"] := d_answer_call.df KX G fun _ _ _ _ _ _ us hl => match us, hl with | [_, _], _ => rfl
  have Gs0 : Gs mg := by
    obtain ⟨ta, ha⟩ := dn.vLASTSLOT
    obtain ⟨tb, hb⟩ := dn.vMOSTBITS
    obtain ⟨tc, hc⟩ := dn.vMOSTROWS
    obtain ⟨td, hd⟩ := dn.vPUT
    exact ⟨⟨ta, PySem.W.mg_of KX G ha⟩, ⟨tb, PySem.W.mg_of KX G hb⟩, ⟨tc, PySem.W.mg_of KX G hc⟩, ⟨td, PySem.W.mg_of KX G hd⟩, PySem.W.mg_none_of KX G dn.n_max, PySem.W.mg_none_of KX G dn.n_min, PySem.W.mg_none_of KX G dn.n_len, PySem.W.mg_none_of KX G dn.n_range, PySem.W.mg_none_of KX G dn.n_sorted⟩
  have Gt0 : Gt mg := ⟨PySem.W.mg_none_of KX G dn.n_int, PySem.W.mg_none_of KX G dn.n_list⟩
  have mall := PySem.W.mg_none_of KX G dn.n_all
  have msum := PySem.W.mg_none_of KX G dn.n_sum
  have menu := PySem.W.mg_none_of KX G dn.n_enumerate
  refine ⟨PySem.W.fnOf "answers" "answers" (defArgs sAnswers) (defBody sAnswers) (defScope sAnswers) .none kV doc pm an cdv ct, fun s us hu => match us, hu with | [_], _ => .of_eq rfl, fun base _ _ => ?_⟩
  have C_weight : Cal P w K mg base 1 "weight" ["word"] spWeight := D_weight.cal fun f fd F => ok_weight F
  have C_by_weight : Cal P w K mg base 2 "by_weight" ["word"] spByWeight := D_by_weight.cal fun f fd F => ok_byWeight F C_weight
  have C_has_bit : Cal P w K mg base 1 "has_bit" ["word", "i"] spHasBit := D_has_bit.cal fun f fd F => ok_hasBit F
  have C_without_bit : Cal P w K mg base 1 "without_bit" ["word", "i"] spWithout := D_without_bit.cal fun f fd F => ok_without F
  have C_highest_place : Cal P w K mg base 1 "highest_place" ["word"] spHighest := D_highest_place.cal fun f fd F => ok_highest F
  have C_reduced : Cal P w K mg base 2 "reduced" ["form", "word"] (spReduced K) := D_reduced.cal fun f fd F => ok_reduced F C_has_bit C_highest_place
  have C_form_with : Cal P w K mg base 3 "form_with" ["form", "row"] spFormWith := D_form_with.cal fun f fd F => ok_formWith F C_reduced Gs0.sorted
  have C_form_of : Cal P w K mg base 4 "form_of" ["rows"] (spFormOf K) := D_form_of.cal fun f fd F => ok_formOf F C_form_with
  have M : MkC P w K mg base 5 C := ⟨fI, fdI, mk, ok_init FI T C_form_of, bI⟩
  have C_words_of : Cal P w K mg base 1 "words_of" ["code"] (spWords C) := D_words_of.cal fun f fd F => ok_words F T
  have C_has_word : Cal P w K mg base 3 "has_word" ["code", "word"] (spHasWord C) := D_has_word.cal fun f fd F => ok_hasWord F T C_reduced
  have C_same_codes : Cal P w K mg base 1 "same_codes" ["first", "second"] (spSameCodes C) := D_same_codes.cal fun f fd F => ok_sameCodes F T
  have C_is_within : Cal P w K mg base 4 "is_within" ["first", "second"] (spIsWithin C) := D_is_within.cal fun f fd F => ok_isWithin F T mall C_has_word
  have C_sum_of_picked : Cal P w K mg base 2 "sum_of_picked" ["code", "picks"] (spSumPicked C) := D_sum_of_picked.cal fun f fd F => ok_sumPicked F T menu C_has_bit
  have C_picks_of : Cal P w K mg base 2 "picks_of" ["code", "word"] (spPicksOf C) := D_picks_of.cal fun f fd F => ok_picksOf F T menu C_has_bit C_highest_place
  have C_dual_row : Cal P w K mg base 2 "dual_row" ["code", "i"] (spDualRow C) := D_dual_row.cal fun f fd F => ok_dualRow F T C_has_bit C_highest_place
  have C_dual_of : Cal P w K mg base 7 "dual_of" ["code"] (spMake1 C Cb.dual) := D_dual_of.cal fun f fd F => ok_dualOf F T M C_highest_place C_dual_row Gs0.range
  have C_both_of : Cal P w K mg base 7 "both_of" ["first", "second"] (spMake2 C (fun c d => c.n = d.n) Cb.both) := D_both_of.cal fun f fd F => ok_bothOf F T M
  have C_meet_of : Cal P w K mg base 7 "meet_of" ["first", "second"] (spMake2 C (fun c d => c.n = d.n) Cb.meet) := D_meet_of.cal fun f fd F => ok_meetOf F T M C_words_of C_has_word
  have C_punctured : Cal P w K mg base 7 "punctured" ["code", "i"] (spMakeI C Cb.punctured) := D_punctured.cal fun f fd F => ok_punctured F T M C_without_bit
  have C_shortened : Cal P w K mg base 7 "shortened" ["code", "i"] (spMakeI C Cb.shortened) := D_shortened.cal fun f fd F => ok_shortened F T M C_words_of C_without_bit C_has_bit
  have C_extended : Cal P w K mg base 7 "extended" ["code"] (spExtended C) := D_extended.cal fun f fd F => ok_extended F T M C_weight
  have C_beside_of : Cal P w K mg base 7 "beside_of" ["first", "second"] (spMake2 C (fun c d => c.n + d.n ≤ 10) Cb.beside) := D_beside_of.cal fun f fd F => ok_besideOf F T M
  have C_doubled : Cal P w K mg base 7 "doubled" ["first", "second"] (spMake2 C (fun c d => c.n = d.n ∧ 2 * c.n ≤ 10) Cb.doubled) := D_doubled.cal fun f fd F => ok_doubled F T M
  have C_counts_by_weight : Cal P w K mg base 2 "counts_by_weight" ["n", "words"] (spCounts K) := D_counts_by_weight.cal fun f fd F => ok_counts F C_weight Gs0.range
  have C_leader_of : Cal P w K mg base 4 "leader_of" ["code", "y"] (spLeaderOf C) := D_leader_of.cal fun f fd F => ok_leaderOf F T Gs0.min C_words_of C_by_weight
  have C_nearest_words : Cal P w K mg base 5 "nearest_words" ["code", "y"] (spNearest C) := D_nearest_words.cal fun f fd F => ok_nearest F T Gs0.sorted C_words_of C_weight C_leader_of
  have C_leaders_of : Cal P w K mg base 5 "leaders_of" ["code"] (spLeadersOf C) := D_leaders_of.cal fun f fd F => ok_leadersOf F T Gs0.sorted Gs0.range C_reduced C_by_weight
  have C_farthest_of : Cal P w K mg base 6 "farthest_of" ["code"] (spFarthest C) := D_farthest_of.cal fun f fd F => ok_farthest F T Gs0.max Gs0.min C_weight C_leaders_of
  have C_nearest_never_tie : Cal P w K mg base 6 "nearest_never_tie" ["code"] (spNeverTie C) := D_nearest_never_tie.cal fun f fd F => ok_neverTie F T Gs0.range C_weight C_reduced C_leaders_of
  have C_syndrome_of : Cal P w K mg base 8 "syndrome_of" ["code", "y"] (spSyndrome C) := D_syndrome_of.cal fun f fd F => ok_syndromeOf F T menu C_weight C_dual_of
  have C_weights_are_multiples : Cal P w K mg base 2 "weights_are_multiples" ["code", "step"] (spMultiples C) := D_weights_are_multiples.cal fun f fd F => ok_multiples F T mall C_words_of C_weight
  have C_turned : Cal P w K mg base 1 "turned" ["n", "word"] spTurned := D_turned.cal fun f fd F => ok_turned F
  have C_stays_when_turned : Cal P w K mg base 4 "stays_when_turned" ["code"] (spStays C) := D_stays_when_turned.cal fun f fd F => ok_stays F T mall C_has_word C_turned
  have C_kind_of : Cal P w K mg base 8 "kind_of" ["code"] (spKindOf C) := D_kind_of.cal fun f fd F => ok_kindOf F T menu msum C_dual_of C_weights_are_multiples C_is_within C_same_codes C_stays_when_turned C_nearest_never_tie
  have C_placed : Cal P w K mg base 1 "placed" ["slots", "q", "code"] (spPlaced C) := D_placed.cal fun f fd F => ok_placed F T Gs0
  have C_answer_put : Cal P w K mg base 8 "answer_put" ["slots", "o", "n", "rows"] (spPut K C) := D_answer_put.cal fun f fd F => ok_put F T Gs0 M C_placed
  have C_answer_form : Cal P w K mg base 1 "answer_form" ["slots", "o"] (sp1 C .form) := D_answer_form.cal fun f fd F => ok_form F T Gs0
  have C_answer_dual : Cal P w K mg base 8 "answer_dual" ["slots", "o", "q"] (sp2 C .dual) := D_answer_dual.cal fun f fd F => ok_dual F T Gs0 C_placed C_dual_of
  have C_answer_both : Cal P w K mg base 8 "answer_both" ["slots", "o", "p", "q"] (sp3 C .both) := D_answer_both.cal fun f fd F => ok_both F T Gs0 C_placed C_both_of
  have C_answer_meet : Cal P w K mg base 8 "answer_meet" ["slots", "o", "p", "q"] (sp3 C .meet) := D_answer_meet.cal fun f fd F => ok_meet F T Gs0 C_placed C_meet_of
  have C_can_lose_bit : Cal P w K mg base 1 "can_lose_bit" ["code", "i"] (spCanLose C) := D_can_lose_bit.cal fun f fd F => ok_canLose F T
  have C_answer_puncture : Cal P w K mg base 8 "answer_puncture" ["slots", "o", "i", "q"] (sp3 C .puncture) := D_answer_puncture.cal fun f fd F => ok_puncture F T Gs0 C_placed C_can_lose_bit C_punctured
  have C_answer_shorten : Cal P w K mg base 8 "answer_shorten" ["slots", "o", "i", "q"] (sp3 C .shorten) := D_answer_shorten.cal fun f fd F => ok_shorten F T Gs0 C_placed C_can_lose_bit C_shortened
  have C_answer_extend : Cal P w K mg base 8 "answer_extend" ["slots", "o", "q"] (sp2 C .extend) := D_answer_extend.cal fun f fd F => ok_extend F T Gs0 C_placed C_extended
  have C_answer_beside : Cal P w K mg base 8 "answer_beside" ["slots", "o", "p", "q"] (sp3 C .beside) := D_answer_beside.cal fun f fd F => ok_beside F T Gs0 C_placed C_beside_of
  have C_answer_double : Cal P w K mg base 8 "answer_double" ["slots", "o", "p", "q"] (sp3 C .double) := D_answer_double.cal fun f fd F => ok_double F T Gs0 C_placed C_doubled
  have C_answer_weights : Cal P w K mg base 3 "answer_weights" ["slots", "o"] (sp1 C .weights) := D_answer_weights.cal fun f fd F => ok_weights F T Gs0 C_words_of C_counts_by_weight
  have C_answer_least : Cal P w K mg base 4 "answer_least" ["slots", "o"] (sp1 C .least) := D_answer_least.cal fun f fd F => ok_least F T Gs0 C_words_of C_weight C_by_weight
  have C_lacks_word : Cal P w K mg base 1 "lacks_word" ["slots", "o", "y"] (spLacksWord C) := D_lacks_word.cal fun f fd F => ok_lacksWord F T Gs0
  have C_lacks_place : Cal P w K mg base 1 "lacks_place" ["slots", "o", "k"] (spLacksPlace C) := D_lacks_place.cal fun f fd F => ok_lacksPlace F T Gs0
  have C_answer_holds : Cal P w K mg base 4 "answer_holds" ["slots", "o", "x"] (sp2 C .holds) := D_answer_holds.cal fun f fd F => ok_holds F T Gt0 C_lacks_word C_has_word
  have C_answer_near : Cal P w K mg base 6 "answer_near" ["slots", "o", "y"] (sp2 C .near) := D_answer_near.cal fun f fd F => ok_near F T Gs0 C_lacks_word C_nearest_words C_weight
  have C_answer_radius : Cal P w K mg base 7 "answer_radius" ["slots", "o"] (sp1 C .radius) := D_answer_radius.cal fun f fd F => ok_radius F T Gs0 C_farthest_of
  have C_answer_leader : Cal P w K mg base 5 "answer_leader" ["slots", "o", "y"] (sp2 C .leader) := D_answer_leader.cal fun f fd F => ok_leader F T C_lacks_word C_leader_of
  have C_answer_leaders : Cal P w K mg base 6 "answer_leaders" ["slots", "o"] (sp1 C .leaders) := D_answer_leaders.cal fun f fd F => ok_leaders F T Gs0 Gt0 C_leaders_of C_counts_by_weight
  have C_answer_syndrome : Cal P w K mg base 9 "answer_syndrome" ["slots", "o", "y"] (sp2 C .syndrome) := D_answer_syndrome.cal fun f fd F => ok_syndrome F T C_lacks_word C_syndrome_of
  have C_answer_encode : Cal P w K mg base 3 "answer_encode" ["slots", "o", "m"] (sp2 C .encode) := D_answer_encode.cal fun f fd F => ok_encode F T C_lacks_place C_sum_of_picked
  have C_answer_decode : Cal P w K mg base 6 "answer_decode" ["slots", "o", "y"] (sp2 C .decode) := D_answer_decode.cal fun f fd F => ok_decode F T C_lacks_word C_nearest_words C_weight C_picks_of
  have C_answer_same : Cal P w K mg base 2 "answer_same" ["slots", "o", "p"] (sp2 C .same) := D_answer_same.cal fun f fd F => ok_same F T Gs0 Gt0 C_same_codes
  have C_answer_within : Cal P w K mg base 5 "answer_within" ["slots", "o", "p"] (sp2 C .within) := D_answer_within.cal fun f fd F => ok_within F T Gs0 Gt0 C_is_within
  have C_answer_kind : Cal P w K mg base 9 "answer_kind" ["slots", "o"] (sp1 C .kind) := D_answer_kind.cal fun f fd F => ok_kind F T Gs0 C_kind_of
  have C_answer_word : Cal P w K mg base 2 "answer_word" ["slots", "o", "k"] (sp2 C .word) := D_answer_word.cal fun f fd F => ok_word F T Gs0 C_lacks_place C_words_of
  have Tb : Tbs P w K mg base C 9 := ⟨tabs_one t1 KX G C_answer_form C_answer_weights C_answer_least C_answer_radius C_answer_leaders C_answer_kind, tabs_two t2 KX G C_answer_dual C_answer_extend C_answer_holds C_answer_near C_answer_leader C_answer_syndrome C_answer_encode C_answer_decode C_answer_same C_answer_within C_answer_word, tabs_three t3 KX G C_answer_both C_answer_meet C_answer_puncture C_answer_shorten C_answer_beside C_answer_double⟩
  have C_end_of_call : Cal P w K mg base 1 "end_of_call" ["calls", "start"] (spEnd K) := D_end_of_call.cal fun f fd F => ok_end F Gs0 Tb
  have C_answer_call : Cal P w K mg base 10 "answer_call" ["slots", "call"] (spCall C) := D_answer_call.cal fun f fd F => ok_call F Gs0 Tb C_answer_put
  exact ok_answers Fz T Gs0 M C_end_of_call C_answer_call
theorem asked_ok (K : PySem.W.Frag) (H : Hp) (xs : List V) (a : Codec.denoteAll PySem.Challenge.rw_shortcodes_s01_answers.args) (hO : OnlyF H) (hwi : Codec.withinAll PySem.Challenge.rw_shortcodes_s01_answers.args a = true)
    (hask : Codec.app PySem.Challenge.rw_shortcodes_s01_answers.args PySem.Challenge.rw_shortcodes_s01_answers.asked a = true) (hx : DwAll K H xs (Codec.encAll PySem.Challenge.rw_shortcodes_s01_answers.args a)) :
    spAnswers K xs H (fun v H' => Dw K H' v (PySem.Challenge.rw_shortcodes_s01_answers.ret.enc (Codec.app PySem.Challenge.rw_shortcodes_s01_answers.args PySem.Challenge.rw_shortcodes_s01_answers.f a))) fun _ _ _ => False := by
  cases hx with
  | cons h1 h2 =>
    cases h2
    cases h1 with
    | lst hs ha =>
      have e := L2.ints_dw a.1 _ ha
      subst e
      obtain ⟨cs, h60, ens, eans⟩ := CM.parsed (ns := a.1) hask
      have hs' : ∀ ad, SqL K H ad (List.map V.int a.1) → SqL K H ad (nl (cs.flatMap flat)) := fun ad hs => by
        rw [nl_ints]
        show SqL K H ad ((CM.up (cs.flatMap flat)).map V.int)
        rw [← ens]
        exact hs
      refine ⟨_, cs, rfl, hs' _ hs, h60, fun H' p hp => ?_⟩
      have e2 : PyWqaycb.answers a.1 = PyFlat.told (CM.run Cs.start cs) := eans
      rw [← e2] at hp
      exact .lst (SqL.of hp) (L2.dw_ints _)
end Sc
end
set_option Elab.async false
def PySem.W.Fast.tw9764666014085023983 : Nat := 0
def PySem.W.Fast.tw11241527137163738953 : Nat := 0
def PySem.W.Fast.tw13302507483417879073 : Nat := 0
def PySem.W.Fast.tw4896225048298347758 : Nat := 0
def PySem.W.Fast.tw5444642970653075376 : Nat := 0
def PySem.W.Fast.tw3458952587292533658 : Nat := 0
def PySem.W.Fast.tw17835898583794592230 : Nat := 0
def PySem.W.Fast.tw3852066010560608972 : Nat := 0
def PySem.W.Fast.tw4929987327189188304 : Nat := 0
def PySem.W.Fast.tw8628768443440479364 : Nat := 0
def PySem.W.Fast.tw4721440094517515223 : Nat := 0
def PySem.W.Fast.tw16091954486281377394 : Nat := 0
def PySem.W.Fast.tw17927264776415191152 : Nat := 0
def PySem.W.Fast.tw13326203656323192046 : Nat := 0
def PySem.W.Fast.tw10008583638348198516 : Nat := 0
def PySem.W.Fast.tw14672143385978784479 : Nat := 0
def PySem.W.Fast.tw17315522949928445555 : Nat := 0
def PySem.W.Fast.tw16461403013156299380 : Nat := 0
def PySem.W.Fast.tw14525718698112605890 : Nat := 0
def PySem.W.Fast.tw9860161215420886163 : Nat := 0
def PySem.W.Fast.tw16233107122679737787 : Nat := 0
def PySem.W.Fast.tw17624763967555441562 : Nat := 0
def PySem.W.Fast.tw14921083805415719462 : Nat := 0
def PySem.W.Fast.tw6401363658793869104 : Nat := 0
def PySem.W.Fast.tw11557283839026652779 : Nat := 0
def PySem.W.Fast.tw731693639727507013 : Nat := 0
def PySem.W.Fast.tw1502129579103634174 : Nat := 0
def PySem.W.Fast.tw15621678242663050040 : Nat := 0
def PySem.W.Fast.tw15115322391075571863 : Nat := 0
def PySem.W.Fast.tw9810401312541264670 : Nat := 0
def PySem.W.Fast.tw2881656997067644526 : Nat := 0
def PySem.W.Fast.tw7324687828191475443 : Nat := 0
def PySem.W.Fast.tw7006168645703177056 : Nat := 0
def PySem.W.Fast.tw2090568657160416422 : Nat := 0
def PySem.W.Fast.tw2495099533004227000 : Nat := 0
def PySem.W.Fast.tw2445242084065437122 : Nat := 0
def PySem.W.Fast.tw980039198777382803 : Nat := 0
def PySem.W.Fast.tw17184019541961429804 : Nat := 0
def PySem.W.Fast.tw15890770129502437338 : Nat := 0
def PySem.W.Fast.tw15205361205017143556 : Nat := 0
def PySem.W.Fast.tw11553160125697004447 : Nat := 0
def PySem.W.Fast.tw17423081929669070960 : Nat := 0
def PySem.W.Fast.tw5550010420385474738 : Nat := 0
def PySem.W.Fast.tw6248244243558385992 : Nat := 0
def PySem.W.Fast.tw4769844262768713063 : Nat := 0
def PySem.W.Fast.tw6930015474809717796 : Nat := 0
def PySem.W.Fast.tw9695925480478564139 : Nat := 0
def PySem.W.Fast.tw7485393196217729493 : Nat := 0
def PySem.W.Fast.tw9706769057706698240 : Nat := 0
def PySem.W.Fast.tw15548185474703412390 : Nat := 0
def PySem.W.Fast.tw4027655055760928039 : Nat := 0
def PySem.W.Fast.tw16646314332145461709 : Nat := 0
def PySem.W.Fast.tw6386575531261644564 : Nat := 0
def PySem.W.Fast.tw5285431530504208744 : Nat := 0
def PySem.W.Fast.tw14003020247269344735 : Nat := 0
def PySem.W.Fast.tw10002038654461708345 : Nat := 0
def PySem.W.Fast.tw14964700564391174185 : Nat := 0
def PySem.W.Fast.tw5639645781690667193 : Nat := 0
def PySem.W.Fast.tw1297692862319784639 : Nat := 0
def PySem.W.Fast.tw4836572164923556770 : Nat := 0
def PySem.W.Fast.tw9177690788300318302 : Nat := 0
def PySem.W.Fast.tw15115066429611795597 : Nat := 0
def PySem.W.Fast.tw17321453943054027433 : Nat := 0
def PySem.W.Fast.tw914890499015863515 : Nat := 0
def PySem.W.Fast.tw6947901343412775288 : Nat := 0
def PySem.W.Fast.tw9414962002363703549 : Nat := 0
def PySem.W.Fast.tw11940098791095355048 : Nat := 0
def PySem.W.Fast.tw6700109615487945118 : Nat := 0
def PySem.W.Fast.tw11743242615515624773 : Nat := 0
def PySem.W.Fast.tw13104562260412259365 : Nat := 0
def PySem.W.Fast.tw8390528088978042560 : Nat := 0
def PySem.W.Fast.tw17256772265481225004 : Nat := 0
def PySem.W.Fast.tw1093677933880617956 : Nat := 0
def PySem.W.Fast.tw11877099209693527307 : Nat := 0
def PySem.W.Fast.tw7940949580295583558 : Nat := 0
def PySem.W.Fast.tw11033859156978538674 : Nat := 0
def PySem.W.Fast.tw14857021250828241302 : Nat := 0
def PySem.W.Fast.tw3089609372998328525 : Nat := 0
def PySem.W.Fast.tw2260738400491578525 : Nat := 0
def PySem.W.Fast.tw8685895499558209671 : Nat := 0
def PySem.W.Fast.tw2396405407398250137 : Nat := 0
def PySem.W.Fast.tw1104763318606241212 : Nat := 0
def PySem.W.Fast.tw10692016796021528130 : Nat := 0
def PySem.W.Fast.tw9822820269797485693 : Nat := 0
def PySem.W.Fast.tw7446575596244234529 : Nat := 0
def PySem.W.Fast.tw16388609731397321407 : Nat := 0
def PySem.W.Fast.tw15293045601114654527 : Nat := 0
def PySem.W.Fast.tw1335065589084367110 : Nat := 0
def PySem.W.Fast.tw12076735754727586130 : Nat := 0
def PySem.W.Fast.tw10064584483365721310 : Nat := 0
def PySem.W.Fast.tw17107895794601465408 : Nat := 0
def PySem.W.Fast.tw11425322455561786996 : Nat := 0
def PySem.W.Fast.tw896659439277237919 : Nat := 0
def PySem.W.Fast.tw12520149180530779338 : Nat := 0
def PySem.W.Fast.tw17731538157653408889 : Nat := 0
def PySem.W.Fast.tw6155217472216287209 : Nat := 0
def PySem.W.Fast.tw3975230716797153172 : Nat := 0
def PySem.W.Fast.tw2753227042730478632 : Nat := 0
def PySem.W.Fast.tw8441120023207345006 : Nat := 0
def PySem.W.Fast.tw7360443746162728247 : Nat := 0
def PySem.W.Fast.tw1393305015584215379 : Nat := 0
def PySem.W.Fast.tw12769837779473721942 : Nat := 0
def PySem.W.Fast.tw2199434213520967235 : Nat := 0
def PySem.W.Fast.tw11485051654518483819 : Nat := 0
def PySem.W.Fast.tw11705717840473409968 : Nat := 0
def PySem.W.Fast.tw12091708072897293798 : Nat := 0
def PySem.W.Fast.tw4789469914004580099 : Nat := 0
def PySem.W.Fast.tw8364982608633940030 : Nat := 0
def PySem.W.Fast.tw14911719811656743886 : Nat := 0
def PySem.W.Fast.tw8352046294195377414 : Nat := 0
def PySem.W.Fast.tw12156727587925182726 : Nat := 0
def PySem.W.Fast.tw4599253248819870223 : Nat := 0
def PySem.W.Fast.tw12395208582031378852 : Nat := 0
def PySem.W.Fast.tw16931489765453053467 : Nat := 0
def PySem.W.Fast.tw6832258353114766405 : Nat := 0
def PySem.W.Fast.tw12257305345839516887 : Nat := 0
def PySem.W.Fast.tw7700008127580928425 : Nat := 0
def PySem.W.Fast.tw608777868063211863 : Nat := 0
def PySem.W.Fast.tw7524097745673072655 : Nat := 0
def PySem.W.Fast.tw3596372934629584509 : Nat := 0
def PySem.W.Fast.tw14962686376728718091 : Nat := 0
def PySem.W.Fast.tw10548489397454024112 : Nat := 0
def PySem.W.Fast.tw6841427761338386269 : Nat := 0
def PySem.W.Fast.tw160739325436218553 : Nat := 0
def PySem.W.Fast.tw318288626594666335 : Nat := 0
def PySem.W.Fast.tw10486292645008588865 : Nat := 0
def PySem.W.Fast.tw3233558348279850538 : Nat := 0
def PySem.W.Fast.tw12870600348252946027 : Nat := 0
def PySem.W.Fast.tw356491753800120233 : Nat := 0
def PySem.W.Fast.tw4935605717686312587 : Nat := 0
def PySem.W.Fast.tw11626730406298413398 : Nat := 0
def PySem.W.Fast.tw12599682747879805682 : Nat := 0
def PySem.W.Fast.tw6632298757072930333 : Nat := 0
def PySem.W.Fast.tw3139713332699404471 : Nat := 0
def PySem.W.Fast.tw1074709094869792309 : Nat := 0
def PySem.W.Fast.tw7756333704220829223 : Nat := 0
def PySem.W.Fast.tw1430833275504174517 : Nat := 0
def PySem.W.Fast.tw16578329333548541924 : Nat := 0
def PySem.W.Fast.tw2849997993221823192 : Nat := 0
def PySem.W.Fast.tw8744808351467286972 : Nat := 0
def PySem.W.Fast.tw13342600079728841654 : Nat := 0
def PySem.W.Fast.tw7502254652055926773 : Nat := 0
def PySem.W.Fast.tw6928671145821592876 : Nat := 0
def PySem.W.Fast.tw9099919242273617273 : Nat := 0
def PySem.W.Fast.tw13939614766962158680 : Nat := 0
def PySem.W.Fast.tw8033444419087164177 : Nat := 0
def PySem.W.Fast.tw4574475542226076482 : Nat := 0
def PySem.W.Fast.tw3806618604136220358 : Nat := 0
def PySem.W.Fast.tw9933902010273255838 : Nat := 0
def PySem.W.Fast.tw7310636386711572213 : Nat := 0
def PySem.W.Fast.tw6501680892690048925 : Nat := 0
def PySem.W.Fast.tw7325781592322147930 : Nat := 0
def PySem.W.Fast.tw6903934192890289560 : Nat := 0
def PySem.W.Fast.tw2906038628124200242 : Nat := 0
def PySem.W.Fast.tw9872620106247630587 : Nat := 0
def PySem.W.Fast.tw251427301960443902 : Nat := 0
def PySem.W.Fast.tw14814162914677334395 : Nat := 0
def PySem.W.Fast.tw12485284819316315534 : Nat := 0
def PySem.W.Fast.tw10860530722924230509 : Nat := 0
def PySem.W.Fast.tw15252218682862550075 : Nat := 0
def PySem.W.Fast.tw2553718521361729127 : Nat := 0
def PySem.W.Fast.tw5620784806757115859 : Nat := 0
def PySem.W.Fast.tw9574199220533744537 : Nat := 0
def PySem.W.Fast.tw1552633753248165357 : Nat := 0
def PySem.W.Fast.tw7337070135602105078 : Nat := 0
def PySem.W.Fast.tw879456431436919652 : Nat := 0
def PySem.W.Fast.tw4542065027794348050 : Nat := 0
def PySem.W.Fast.tw7570225733436563953 : Nat := 0
def PySem.W.Fast.tw1072413591015479684 : Nat := 0
def PySem.W.Fast.tw3064015873136874314 : Nat := 0
def PySem.W.Fast.tw15618013024591655959 : Nat := 0
def PySem.W.Fast.tw15186896183586815575 : Nat := 0
def PySem.W.Fast.tw11664642272334072776 : Nat := 0
def PySem.W.Fast.tw9041576164522963709 : Nat := 0
def PySem.W.Fast.tw16686020664459779928 : Nat := 0
def PySem.W.Fast.tw3071515608408628287 : Nat := 0
def PySem.W.Fast.tw2677741832170962462 : Nat := 0
def PySem.W.Fast.tw17843557575516790768 : Nat := 0
def PySem.W.Fast.tw9089655831866558311 : Nat := 0
def PySem.W.Fast.tw15923978952840517287 : Nat := 0
def PySem.W.Fast.tw10787790958994776697 : Nat := 0
def PySem.W.Fast.tw8995178918173204058 : Nat := 0
def PySem.W.Fast.tw15958746400940713768 : Nat := 0
def PySem.W.Fast.tw12499931572972971352 : Nat := 0
def PySem.W.Fast.tw865406723942947396 : Nat := 0
def PySem.W.Fast.tw15068095388266750240 : Nat := 0
def PySem.W.Fast.tw3071263167579346011 : Nat := 0
def PySem.W.Fast.tw4856688350176524161 : Nat := 0
def PySem.W.Fast.tw8666040164997523929 : Nat := 0
def PySem.W.Fast.tw5415252843310115442 : Nat := 0
def PySem.W.Fast.tw8157419486808017714 : Nat := 0
def PySem.W.Fast.tw13744742772933064196 : Nat := 0
def PySem.W.Fast.tw9679415603578467662 : Nat := 0
def PySem.W.Fast.tw5490041939579955969 : Nat := 0
def PySem.W.Fast.tw16069947272679228546 : Nat := 0
def PySem.W.Fast.tw356882613940721779 : Nat := 0
def PySem.W.Fast.tw18401809654803851758 : Nat := 0
def PySem.W.Fast.tw1597638795130486595 : Nat := 0
def PySem.W.Fast.tw2460729105217724672 : Nat := 0
def PySem.W.Fast.tw8230578273854913734 : Nat := 0
def PySem.W.Fast.tw10273065397777504681 : Nat := 0
def PySem.W.Fast.tw10840032051184547277 : Nat := 0
def PySem.W.Fast.tw8636598409952591894 : Nat := 0
def PySem.W.Fast.tw11596111908715616119 : Nat := 0
def PySem.W.Fast.tw5707276237783962203 : Nat := 0
def PySem.W.Fast.tw11150081371564643925 : Nat := 0
def PySem.W.Fast.tw5174547843336703579 : Nat := 0
def PySem.W.Fast.tw11790972983891876182 : Nat := 0
def PySem.W.Fast.tw6249805160801897899 : Nat := 0
def PySem.W.Fast.tw12562706148906542761 : Nat := 0
def PySem.W.Fast.tw6430993649250281754 : Nat := 0
def PySem.W.Fast.tw3161550517708207572 : Nat := 0
def PySem.W.Fast.tw5821476726115749775 : Nat := 0
def PySem.W.Fast.tw18428116082231029527 : Nat := 0
def PySem.W.Fast.tw7082417722218089853 : Nat := 0
def PySem.W.Fast.tw16931786214281083395 : Nat := 0
def PySem.W.Fast.tw13320217455403028924 : Nat := 0
def PySem.W.Fast.tw7069068794663108824 : Nat := 0
def PySem.W.Fast.tw17796471822769801212 : Nat := 0
def PySem.W.Fast.tw4872684284172882181 : Nat := 0
def PySem.W.Fast.tw8780661789636961539 : Nat := 0
def PySem.W.Fast.tw18248644632070850693 : Nat := 0
def PySem.W.Fast.tw3949318537273594880 : Nat := 0
def PySem.W.Fast.tw16833164160283909815 : Nat := 0
def PySem.W.Fast.tw15905288754992345411 : Nat := 0
def PySem.W.Fast.tw718017818876595208 : Nat := 0
def PySem.W.Fast.tw11842770244676552095 : Nat := 0
def PySem.W.Fast.tw16870421680870842968 : Nat := 0
def PySem.W.Fast.tw16816267933933754688 : Nat := 0
def PySem.W.Fast.tw14952271325404805573 : Nat := 0
def PySem.W.Fast.tw13318720192681261333 : Nat := 0
def PySem.W.Fast.tw11560348557973047856 : Nat := 0
def PySem.W.Fast.tw12318243212456199461 : Nat := 0
def PySem.W.Fast.tw15853241760218290512 : Nat := 0
def PySem.W.Fast.tw6454450403390092568 : Nat := 0
def PySem.W.Fast.tw5251739369497584857 : Nat := 0
def PySem.W.Fast.tw9943045457119892927 : Nat := 0
def PySem.W.Fast.tw16646282100880116683 : Nat := 0
def PySem.W.Fast.tw5422311499246943502 : Nat := 0
def PySem.W.Fast.tw14307516134316694698 : Nat := 0
def PySem.W.Fast.tw17909396726012432227 : Nat := 0
def PySem.W.Fast.tw751151363832373346 : Nat := 0
def PySem.W.Fast.tw9847636437502906346 : Nat := 0
def PySem.W.Fast.tw13430841692542407238 : Nat := 0
def PySem.W.Fast.tw3468651403969868486 : Nat := 0
def PySem.W.Fast.tw15848757222786833918 : Nat := 0
def PySem.W.Fast.tw8984273575416154442 : Nat := 0
def PySem.W.Fast.tw10495560092020020304 : Nat := 0
def PySem.W.Fast.tw14654268924617070766 : Nat := 0
def PySem.W.Fast.tw11638196090053125777 : Nat := 0
def PySem.W.Fast.tw16675679928005103597 : Nat := 0
def PySem.W.Fast.tw15223110485868924817 : Nat := 0
def PySem.W.Fast.tw18345766347598613761 : Nat := 0
def PySem.W.Fast.tw1266777406030713087 : Nat := 0
def PySem.W.Fast.tw11823851169647608110 : Nat := 0
def PySem.W.Fast.tw7343514296602791112 : Nat := 0
def PySem.W.Fast.tw9875248537129661078 : Nat := 0
def PySem.W.Fast.tw7211900354483766542 : Nat := 0
def PySem.W.Fast.tw10612887232796611254 : Nat := 0
def PySem.W.Fast.tw8366647058418872146 : Nat := 0
def PySem.W.Fast.tw3086595442488422930 : Nat := 0
def PySem.W.Fast.tw3612369279283250980 : Nat := 0
def PySem.W.Fast.tw8853325499044404891 : Nat := 0
def PySem.W.Fast.tw15432235043944102367 : Nat := 0
def PySem.W.Fast.tw223484296258209499 : Nat := 0
def PySem.W.Fast.tw7523734763740743786 : Nat := 0
def PySem.W.Fast.tw2209940922928993393 : Nat := 0
def PySem.W.Fast.tw4054669843249370005 : Nat := 0
def PySem.W.Fast.tw2342464652292375355 : Nat := 0
def PySem.W.Fast.tw17975775301241501749 : Nat := 0
def PySem.W.Fast.tw16598970853096987288 : Nat := 0
def PySem.W.Fast.tw12093533807153951660 : Nat := 0
def PySem.W.Fast.tw11298602184420378953 : Nat := 0
def PySem.W.Fast.tw2229281342125504964 : Nat := 0
def PySem.W.Fast.tw14286260105344887518 : Nat := 0
def PySem.W.Fast.tw16876614267053790196 : Nat := 0
def PySem.W.Fast.tw10648755829819066657 : Nat := 0
def PySem.W.Fast.tw1122770421502900504 : Nat := 0
def PySem.W.Fast.tw9597477514440097309 : Nat := 0
def PySem.W.Fast.tw13257461567493337460 : Nat := 0
def PySem.W.Fast.tw2476563272786878565 : Nat := 0
def PySem.W.Fast.tw10607128263763542543 : Nat := 0
def PySem.W.Fast.tw16482596063101871651 : Nat := 0
def PySem.W.Fast.tw12809984336106099390 : Nat := 0
def PySem.W.Fast.tw10763108576877937993 : Nat := 0
def PySem.W.Fast.tw13518046534450709339 : Nat := 0
def PySem.W.Fast.tw9311591447083186599 : Nat := 0
def PySem.W.Fast.tw11076031129004087869 : Nat := 0
def PySem.W.Fast.tw16944017215045527624 : Nat := 0
def PySem.W.Fast.tw11320601262202722925 : Nat := 0
def PySem.W.Fast.tw793610103171190513 : Nat := 0
def PySem.W.Fast.tw12139314415427887385 : Nat := 0
def PySem.W.Fast.tw7281119430385388368 : Nat := 0
def PySem.W.Fast.tw10460358431489186214 : Nat := 0
def PySem.W.Fast.tw4614586049585860783 : Nat := 0
def PySem.W.Fast.tw10272423894963391866 : Nat := 0
def PySem.W.Fast.tw6942148268060125149 : Nat := 0
def PySem.W.Fast.tw8903182842387778809 : Nat := 0
def PySem.W.Fast.tw9709098339403656243 : Nat := 0
def PySem.W.Fast.tw9719099774098548362 : Nat := 0
def PySem.W.Fast.tw9323641568597345619 : Nat := 0
def PySem.W.Fast.tw1633909754213909528 : Nat := 0
def PySem.W.Fast.tw17501055432090679699 : Nat := 0
def PySem.W.Fast.tw5326183725163070889 : Nat := 0
def PySem.W.Fast.tw6943754245023146838 : Nat := 0
def PySem.W.Fast.tw12432514343928662172 : Nat := 0
def PySem.W.Fast.tw4044060588687529316 : Nat := 0
def PySem.W.Fast.tw17849785669157860141 : Nat := 0
def PySem.W.Fast.tw1986125655585362589 : Nat := 0
def PySem.W.Fast.tw14082616287338269607 : Nat := 0
def PySem.W.Fast.tw8377497734367739509 : Nat := 0
def PySem.W.Fast.tw17929287521638018315 : Nat := 0
def PySem.W.Fast.tw580787971553443733 : Nat := 0
def PySem.W.Fast.tw16166461484040780260 : Nat := 0
def PySem.W.Fast.tw9559896445339291688 : Nat := 0
def PySem.W.Fast.tw3764502325593645625 : Nat := 0
def PySem.W.Fast.tw7284529787829211966 : Nat := 0
def PySem.W.Fast.tw1823862586351605094 : Nat := 0
def PySem.W.Fast.tw6740853546577890370 : Nat := 0
def PySem.W.Fast.tw10611861786883661292 : Nat := 0
def PySem.W.Fast.tw7545729593807383306 : Nat := 0
def PySem.W.Fast.tw8479095397996810174 : Nat := 0
def PySem.W.Fast.tw2663613113554353143 : Nat := 0
def PySem.W.Fast.tw15350658097470008498 : Nat := 0
def PySem.W.Fast.tw704566602319068545 : Nat := 0
def PySem.W.Fast.tw18319136804961939313 : Nat := 0
def PySem.W.Fast.tw11070418408698273044 : Nat := 0
def PySem.W.Fast.tw6530051606036624822 : Nat := 0
def PySem.W.Fast.tw9385805162841155032 : Nat := 0
def PySem.W.Fast.tw13094120186578634298 : Nat := 0
def PySem.W.Fast.tw10678443149324348994 : Nat := 0
def PySem.W.Fast.tw1466572007434068346 : Nat := 0
def PySem.W.Fast.tw18178276226100900242 : Nat := 0
def PySem.W.Fast.tw9978021600040323495 : Nat := 0
def PySem.W.Fast.tw8948847054104353014 : Nat := 0
def PySem.W.Fast.tw8011600267507681379 : Nat := 0
def PySem.W.Fast.tw13341281926290586081 : Nat := 0
def PySem.W.Fast.tw4194786952867455239 : Nat := 0
def PySem.W.Fast.tw223260851569611059 : Nat := 0
def PySem.W.Fast.tw6010653792661375826 : Nat := 0
def PySem.W.Fast.tw5270700828240577961 : Nat := 0
def PySem.W.Fast.tw5616713212020183000 : Nat := 0
def PySem.W.Fast.tw7708206550625929082 : Nat := 0
def PySem.W.Fast.tw17827374602814604692 : Nat := 0
def PySem.W.Fast.tw1913162364954104541 : Nat := 0
def PySem.W.Fast.tw2700362058742848271 : Nat := 0
def PySem.W.Fast.tw6048536633993380167 : Nat := 0
def PySem.W.Fast.tw1108190686593879782 : Nat := 0
def PySem.W.Fast.tw8891069825854706703 : Nat := 0
def PySem.W.Fast.tw9162061268348144312 : Nat := 0
def PySem.W.Fast.tw8046338148243956211 : Nat := 0
def PySem.W.Fast.tw11370828897720999772 : Nat := 0
def PySem.W.Fast.tw10055382620676636896 : Nat := 0
def PySem.W.Fast.tw15163982055791920910 : Nat := 0
def PySem.W.Fast.tw13603555298019401223 : Nat := 0
def PySem.W.Fast.tw6674977369601994722 : Nat := 0
def PySem.W.Fast.tw15157821272047032075 : Nat := 0
def PySem.W.Fast.tw14667257835181687846 : Nat := 0
def PySem.W.Fast.tw12000066706594646598 : Nat := 0
def PySem.W.Fast.tw7570960239942440803 : Nat := 0
def PySem.W.Fast.tw4124955301807498175 : Nat := 0
def PySem.W.Fast.tw7450070749738851150 : Nat := 0
def PySem.W.Fast.tw18282069717957545531 : Nat := 0
def PySem.W.Fast.tw3920250802946340883 : Nat := 0
def PySem.W.Fast.tw10755894590515201734 : Nat := 0
def PySem.W.Fast.tw5931154820333873450 : Nat := 0
def PySem.W.Fast.tw12068397119272815180 : Nat := 0
def PySem.W.Fast.tw4471049380118110653 : Nat := 0
def PySem.W.Fast.tw18297039610775190907 : Nat := 0
def PySem.W.Fast.tw8927174451219208054 : Nat := 0
def PySem.W.Fast.tw16029280986817503444 : Nat := 0
def PySem.W.Fast.tw5155257057136518493 : Nat := 0
def PySem.W.Fast.tw12066905343327778838 : Nat := 0
def PySem.W.Fast.tw15815972615506962082 : Nat := 0
def PySem.W.Fast.tw10515946582464048434 : Nat := 0
def PySem.W.Fast.tw15484426326860585363 : Nat := 0
def PySem.W.Fast.tw2357088946944699317 : Nat := 0
def PySem.W.Fast.tw10510290151115698855 : Nat := 0
def PySem.W.Fast.tw5647558359930613869 : Nat := 0
def PySem.W.Fast.tw16142539840695301670 : Nat := 0
def PySem.W.Fast.tw12574170747374876581 : Nat := 0
def PySem.W.Fast.tw13156218922460407194 : Nat := 0
def PySem.W.Fast.tw13968343174663384132 : Nat := 0
def PySem.W.Fast.tw6329579384341758448 : Nat := 0
def PySem.W.Fast.tw11586495326734386507 : Nat := 0
def PySem.W.Fast.tw10052867495370794473 : Nat := 0
def PySem.W.Fast.tw5887900575333853574 : Nat := 0
def PySem.W.Fast.tw9044548487277123096 : Nat := 0
def PySem.W.Fast.tw5931129196288068192 : Nat := 0
def PySem.W.Fast.tw18360098640044437065 : Nat := 0
def PySem.W.Fast.tw8839084630055764966 : Nat := 0
def PySem.W.Fast.tw3772223236915753447 : Nat := 0
def PySem.W.Fast.tw10086774510310861319 : Nat := 0
def PySem.W.Fast.tw11102078379979513926 : Nat := 0
def PySem.W.Fast.tw4069214880723681256 : Nat := 0
def PySem.W.Fast.tw6024622630009943176 : Nat := 0
def PySem.W.Fast.tw7360555930362691080 : Nat := 0
def PySem.W.Fast.tw16000048509515682299 : Nat := 0
def PySem.W.Fast.tw12615725436649447930 : Nat := 0
def PySem.W.Fast.tw2957123847223901583 : Nat := 0
def PySem.W.Fast.tw9876880780324930689 : Nat := 0
def PySem.W.Fast.tw13184630252261271175 : Nat := 0
def PySem.W.Fast.tw1853593799410475544 : Nat := 0
def PySem.W.Fast.tw15904970216888705707 : Nat := 0
def PySem.W.Fast.tw4468570581279518604 : Nat := 0
def PySem.W.Fast.tw1954956375606761819 : Nat := 0
def PySem.W.Fast.tw11942421679141524516 : Nat := 0
open PySem PySem.W PyProof.Rows
set_option maxRecDepth 100000 in
set_option maxHeartbeats 0 in
theorem PySem.Challenge.cw_shortcodes_s01_answers_holds : PySem.Challenge.rw_shortcodes_s01_answers.Holds := by
  w_on; k_headS; (case hw => exact ⟨[.list []], by decide +kernel, by decide +kernel⟩)
  k_fillS
  refine L2.walk_specK (r := PySem.Challenge.rw_shortcodes_s01_answers) (k := 11) (CX := L2.CX0) (ps := ["calls"]) (sp := Sc.spAnswers) (by decide +kernel) rfl rfl ⟨rfl, by decide, by decide⟩ (fun w h Y => PySem.W.kIn_of Y) ?F ?S (fun _ _ _ _ z => z)
  case F =>
    intro w mg fa h Y KX G hmg
    refine' Sc.all_mk KX G hmg ?dc ?dn ?t1 ?t2 ?t3 ?d_weight ?d_by_weight ?d_has_bit ?d_without_bit ?d_highest_place ?d_reduced ?d_form_with ?d_form_of ?d_words_of ?d_has_word ?d_same_codes ?d_is_within ?d_sum_of_picked ?d_picks_of ?d_dual_of ?d_dual_row ?d_both_of ?d_meet_of ?d_punctured ?d_shortened ?d_extended ?d_beside_of ?d_doubled ?d_counts_by_weight ?d_leader_of ?d_nearest_words ?d_leaders_of ?d_farthest_of ?d_nearest_never_tie ?d_syndrome_of ?d_weights_are_multiples ?d_turned ?d_stays_when_turned ?d_kind_of ?d_placed ?d_answer_put ?d_answer_form ?d_answer_dual ?d_answer_both ?d_answer_meet ?d_can_lose_bit ?d_answer_puncture ?d_answer_shorten ?d_answer_extend ?d_answer_beside ?d_answer_double ?d_answer_weights ?d_answer_least ?d_lacks_word ?d_lacks_place ?d_answer_holds ?d_answer_near ?d_answer_radius ?d_answer_leader ?d_answer_leaders ?d_answer_syndrome ?d_answer_encode ?d_answer_decode ?d_answer_same ?d_answer_within ?d_answer_kind ?d_answer_word ?d_end_of_call ?d_answer_call ?d_answers
    case dc =>
      refine' Sc.clsN ?aC ?a ?i ?l ?c ?k ?pg ?hd ?po ?sa ?mk ?kc ?nN ?nR
      (case aC => k_is); (case a => k_is); (case i => k_is); (case l => k_is); (case c => k_is); (case k => k_is); (case pg => k_is); (case hd => k_is); (case po => k_is); (case sa => k_is); (case mk => k_is); (case kc => k_is); (case nN => k_is); (case nR => k_is)
    case dn =>
      refine' Sc.numsN ?a ?b ?c ?d ?n0 ?n1 ?n2 ?n3 ?n4 ?n5 ?n6 ?n7 ?n8 ?n9
      (case a => k_is); (case b => k_is); (case c => k_is); (case d => k_is); (case n0 => k_is); (case n1 => k_is); (case n2 => k_is); (case n3 => k_is); (case n4 => k_is); (case n5 => k_is); (case n6 => k_is); (case n7 => k_is); (case n8 => k_is); (case n9 => k_is)
    case t1 =>
      refine' Sc.tab1N ?a ?l ?n2 ?n11 ?n12 ?n15 ?n17 ?n23 ?ck ?lo
      (case a => k_is); (case l => k_is); (case n2 => k_is); (case n11 => k_is); (case n12 => k_is); (case n15 => k_is); (case n17 => k_is); (case n23 => k_is)
      (case ck => decide +kernel); (case lo => decide +kernel)
    case t2 =>
      refine' Sc.tab2N ?a ?l ?n3 ?n8 ?n13 ?n14 ?n16 ?n18 ?n19 ?n20 ?n21 ?n22 ?n24 ?ck ?lo
      (case a => k_is); (case l => k_is); (case n3 => k_is); (case n8 => k_is); (case n13 => k_is); (case n14 => k_is); (case n16 => k_is); (case n18 => k_is); (case n19 => k_is); (case n20 => k_is); (case n21 => k_is); (case n22 => k_is); (case n24 => k_is)
      (case ck => decide +kernel); (case lo => decide +kernel)
    case t3 =>
      refine' Sc.tab3N ?a ?l ?n4 ?n5 ?n6 ?n7 ?n9 ?n10 ?ck ?lo
      (case a => k_is); (case l => k_is); (case n4 => k_is); (case n5 => k_is); (case n6 => k_is); (case n7 => k_is); (case n9 => k_is); (case n10 => k_is)
      (case ck => decide +kernel); (case lo => decide +kernel)
    case d_weight => (refine' Sc.dfN ?a ?l ?c ?k; (case a => k_is); (case l => k_is); (case c => k_is); (case k => k_is))
    case d_by_weight => (refine' Sc.dfN ?a ?l ?c ?k; (case a => k_is); (case l => k_is); (case c => k_is); (case k => k_is))
    case d_has_bit => (refine' Sc.dfN ?a ?l ?c ?k; (case a => k_is); (case l => k_is); (case c => k_is); (case k => k_is))
    case d_without_bit => (refine' Sc.dfN ?a ?l ?c ?k; (case a => k_is); (case l => k_is); (case c => k_is); (case k => k_is))
    case d_highest_place => (refine' Sc.dfN ?a ?l ?c ?k; (case a => k_is); (case l => k_is); (case c => k_is); (case k => k_is))
    case d_reduced => (refine' Sc.dfN ?a ?l ?c ?k; (case a => k_is); (case l => k_is); (case c => k_is); (case k => k_is))
    case d_form_with => (refine' Sc.dfN ?a ?l ?c ?k; (case a => k_is); (case l => k_is); (case c => k_is); (case k => k_is))
    case d_form_of => (refine' Sc.dfN ?a ?l ?c ?k; (case a => k_is); (case l => k_is); (case c => k_is); (case k => k_is))
    case d_words_of => (refine' Sc.dfN ?a ?l ?c ?k; (case a => k_is); (case l => k_is); (case c => k_is); (case k => k_is))
    case d_has_word => (refine' Sc.dfN ?a ?l ?c ?k; (case a => k_is); (case l => k_is); (case c => k_is); (case k => k_is))
    case d_same_codes => (refine' Sc.dfN ?a ?l ?c ?k; (case a => k_is); (case l => k_is); (case c => k_is); (case k => k_is))
    case d_is_within => (refine' Sc.dfN ?a ?l ?c ?k; (case a => k_is); (case l => k_is); (case c => k_is); (case k => k_is))
    case d_sum_of_picked => (refine' Sc.dfN ?a ?l ?c ?k; (case a => k_is); (case l => k_is); (case c => k_is); (case k => k_is))
    case d_picks_of => (refine' Sc.dfN ?a ?l ?c ?k; (case a => k_is); (case l => k_is); (case c => k_is); (case k => k_is))
    case d_dual_of => (refine' Sc.dfN ?a ?l ?c ?k; (case a => k_is); (case l => k_is); (case c => k_is); (case k => k_is))
    case d_dual_row => (refine' Sc.dfN ?a ?l ?c ?k; (case a => k_is); (case l => k_is); (case c => k_is); (case k => k_is))
    case d_both_of => (refine' Sc.dfN ?a ?l ?c ?k; (case a => k_is); (case l => k_is); (case c => k_is); (case k => k_is))
    case d_meet_of => (refine' Sc.dfN ?a ?l ?c ?k; (case a => k_is); (case l => k_is); (case c => k_is); (case k => k_is))
    case d_punctured => (refine' Sc.dfN ?a ?l ?c ?k; (case a => k_is); (case l => k_is); (case c => k_is); (case k => k_is))
    case d_shortened => (refine' Sc.dfN ?a ?l ?c ?k; (case a => k_is); (case l => k_is); (case c => k_is); (case k => k_is))
    case d_extended => (refine' Sc.dfN ?a ?l ?c ?k; (case a => k_is); (case l => k_is); (case c => k_is); (case k => k_is))
    case d_beside_of => (refine' Sc.dfN ?a ?l ?c ?k; (case a => k_is); (case l => k_is); (case c => k_is); (case k => k_is))
    case d_doubled => (refine' Sc.dfN ?a ?l ?c ?k; (case a => k_is); (case l => k_is); (case c => k_is); (case k => k_is))
    case d_counts_by_weight => (refine' Sc.dfN ?a ?l ?c ?k; (case a => k_is); (case l => k_is); (case c => k_is); (case k => k_is))
    case d_leader_of => (refine' Sc.dfN ?a ?l ?c ?k; (case a => k_is); (case l => k_is); (case c => k_is); (case k => k_is))
    case d_nearest_words => (refine' Sc.dfN ?a ?l ?c ?k; (case a => k_is); (case l => k_is); (case c => k_is); (case k => k_is))
    case d_leaders_of => (refine' Sc.dfN ?a ?l ?c ?k; (case a => k_is); (case l => k_is); (case c => k_is); (case k => k_is))
    case d_farthest_of => (refine' Sc.dfN ?a ?l ?c ?k; (case a => k_is); (case l => k_is); (case c => k_is); (case k => k_is))
    case d_nearest_never_tie => (refine' Sc.dfN ?a ?l ?c ?k; (case a => k_is); (case l => k_is); (case c => k_is); (case k => k_is))
    case d_syndrome_of => (refine' Sc.dfN ?a ?l ?c ?k; (case a => k_is); (case l => k_is); (case c => k_is); (case k => k_is))
    case d_weights_are_multiples => (refine' Sc.dfN ?a ?l ?c ?k; (case a => k_is); (case l => k_is); (case c => k_is); (case k => k_is))
    case d_turned => (refine' Sc.dfN ?a ?l ?c ?k; (case a => k_is); (case l => k_is); (case c => k_is); (case k => k_is))
    case d_stays_when_turned => (refine' Sc.dfN ?a ?l ?c ?k; (case a => k_is); (case l => k_is); (case c => k_is); (case k => k_is))
    case d_kind_of => (refine' Sc.dfN ?a ?l ?c ?k; (case a => k_is); (case l => k_is); (case c => k_is); (case k => k_is))
    case d_placed => (refine' Sc.dfN ?a ?l ?c ?k; (case a => k_is); (case l => k_is); (case c => k_is); (case k => k_is))
    case d_answer_put => (refine' Sc.dfN ?a ?l ?c ?k; (case a => k_is); (case l => k_is); (case c => k_is); (case k => k_is))
    case d_answer_form => (refine' Sc.dfN ?a ?l ?c ?k; (case a => k_is); (case l => k_is); (case c => k_is); (case k => k_is))
    case d_answer_dual => (refine' Sc.dfN ?a ?l ?c ?k; (case a => k_is); (case l => k_is); (case c => k_is); (case k => k_is))
    case d_answer_both => (refine' Sc.dfN ?a ?l ?c ?k; (case a => k_is); (case l => k_is); (case c => k_is); (case k => k_is))
    case d_answer_meet => (refine' Sc.dfN ?a ?l ?c ?k; (case a => k_is); (case l => k_is); (case c => k_is); (case k => k_is))
    case d_can_lose_bit => (refine' Sc.dfN ?a ?l ?c ?k; (case a => k_is); (case l => k_is); (case c => k_is); (case k => k_is))
    case d_answer_puncture => (refine' Sc.dfN ?a ?l ?c ?k; (case a => k_is); (case l => k_is); (case c => k_is); (case k => k_is))
    case d_answer_shorten => (refine' Sc.dfN ?a ?l ?c ?k; (case a => k_is); (case l => k_is); (case c => k_is); (case k => k_is))
    case d_answer_extend => (refine' Sc.dfN ?a ?l ?c ?k; (case a => k_is); (case l => k_is); (case c => k_is); (case k => k_is))
    case d_answer_beside => (refine' Sc.dfN ?a ?l ?c ?k; (case a => k_is); (case l => k_is); (case c => k_is); (case k => k_is))
    case d_answer_double => (refine' Sc.dfN ?a ?l ?c ?k; (case a => k_is); (case l => k_is); (case c => k_is); (case k => k_is))
    case d_answer_weights => (refine' Sc.dfN ?a ?l ?c ?k; (case a => k_is); (case l => k_is); (case c => k_is); (case k => k_is))
    case d_answer_least => (refine' Sc.dfN ?a ?l ?c ?k; (case a => k_is); (case l => k_is); (case c => k_is); (case k => k_is))
    case d_lacks_word => (refine' Sc.dfN ?a ?l ?c ?k; (case a => k_is); (case l => k_is); (case c => k_is); (case k => k_is))
    case d_lacks_place => (refine' Sc.dfN ?a ?l ?c ?k; (case a => k_is); (case l => k_is); (case c => k_is); (case k => k_is))
    case d_answer_holds => (refine' Sc.dfN ?a ?l ?c ?k; (case a => k_is); (case l => k_is); (case c => k_is); (case k => k_is))
    case d_answer_near => (refine' Sc.dfN ?a ?l ?c ?k; (case a => k_is); (case l => k_is); (case c => k_is); (case k => k_is))
    case d_answer_radius => (refine' Sc.dfN ?a ?l ?c ?k; (case a => k_is); (case l => k_is); (case c => k_is); (case k => k_is))
    case d_answer_leader => (refine' Sc.dfN ?a ?l ?c ?k; (case a => k_is); (case l => k_is); (case c => k_is); (case k => k_is))
    case d_answer_leaders => (refine' Sc.dfN ?a ?l ?c ?k; (case a => k_is); (case l => k_is); (case c => k_is); (case k => k_is))
    case d_answer_syndrome => (refine' Sc.dfN ?a ?l ?c ?k; (case a => k_is); (case l => k_is); (case c => k_is); (case k => k_is))
    case d_answer_encode => (refine' Sc.dfN ?a ?l ?c ?k; (case a => k_is); (case l => k_is); (case c => k_is); (case k => k_is))
    case d_answer_decode => (refine' Sc.dfN ?a ?l ?c ?k; (case a => k_is); (case l => k_is); (case c => k_is); (case k => k_is))
    case d_answer_same => (refine' Sc.dfN ?a ?l ?c ?k; (case a => k_is); (case l => k_is); (case c => k_is); (case k => k_is))
    case d_answer_within => (refine' Sc.dfN ?a ?l ?c ?k; (case a => k_is); (case l => k_is); (case c => k_is); (case k => k_is))
    case d_answer_kind => (refine' Sc.dfN ?a ?l ?c ?k; (case a => k_is); (case l => k_is); (case c => k_is); (case k => k_is))
    case d_answer_word => (refine' Sc.dfN ?a ?l ?c ?k; (case a => k_is); (case l => k_is); (case c => k_is); (case k => k_is))
    case d_end_of_call => (refine' Sc.dfN ?a ?l ?c ?k; (case a => k_is); (case l => k_is); (case c => k_is); (case k => k_is))
    case d_answer_call => (refine' Sc.dfN ?a ?l ?c ?k; (case a => k_is); (case l => k_is); (case c => k_is); (case k => k_is))
    case d_answers => (refine' Sc.dfN ?a ?l ?c ?k; (case a => k_is); (case l => k_is); (case c => k_is); (case k => k_is))
  case S => exact Sc.asked_ok
