import PyProof.Rows.All
import Wide.All
import OpenK.AllK
import Wide.FinOn
import PyProof.EqAt
import PyProof.EqKinds
import PyProof.TupleCall
import KE.BitLaws
import Open.SpecLaws
import KE.OsHead
import KE.OsGo
import KE.KTryMore
import KE.KDictList
import PyProof.Rows.SortShellAny
import PyProof.Rows.SetFrom
import KE.KDictSum
import KE.KSortedAny
import PyWideLaws
import PyProof.ExcBaseAll.Exception
import PySem.Challenge.RW_talkkeeper_s01_answers
section
set_option Elab.async false
set_option linter.all false
set_option maxRecDepth 100000
namespace L2
open PySem PySem.Spec PyProof.Rows
abbrev Key := Sum Int Str
def keyIs : Key → Value → Bool
  | .inl k, v => Value.isInt k v
  | .inr x, v => Value.isStrOf x v
def keyH (w : World) : Key → Int
  | .inl k => hashInt k
  | .inr x => hashStr w x
theorem keyIs_shape : ∀ {k : Key} {v : Value}, keyIs k v = true → (∃ i t, k = Sum.inl i ∧ v = Value.int i t) ∨ (∃ x t, k = Sum.inr x ∧ v = Value.str x t)
  | .inl i, v, h => by
    obtain ⟨t, e⟩ := Value.isInt_shape (k := i) (v := v) h
    exact .inl ⟨i, t, rfl, e⟩
  | .inr x, v, h => by
    obtain ⟨t, e⟩ := Value.isStrOf_shape (x := x) (v := v) h
    exact .inr ⟨x, t, rfl, e⟩
theorem keyIs_int (i : Int) (t : Tok) : keyIs (.inl i) (.int i t) = true := by simp [keyIs, Value.isInt]
theorem keyIs_str (x : Str) (t : Tok) : keyIs (.inr x) (.str x t) = true := by simp [keyIs, Value.isStrOf]
theorem key_ll (a b : Int) : decide ((Sum.inl a : Key) = Sum.inl b) = (a == b) := by
  by_cases e : a = b
  · subst e; simp
  · have h : ¬ (Sum.inl a : Key) = Sum.inl b := fun q => e (Sum.inl.inj q)
    rw [decide_eq_false h]
    exact (beq_eq_false_iff_ne.mpr e).symm
theorem key_rr (a b : Str) : decide ((Sum.inr a : Key) = Sum.inr b) = decide (a = b) := by
  by_cases e : a = b
  · subst e; simp
  · have h : ¬ (Sum.inr a : Key) = Sum.inr b := fun q => e (Sum.inr.inj q)
    rw [decide_eq_false h, decide_eq_false e]
theorem key_lr (a : Int) (b : Str) : decide ((Sum.inl a : Key) = Sum.inr b) = false := decide_eq_false (fun q => nomatch q)
theorem key_rl (a : Str) (b : Int) : decide ((Sum.inr a : Key) = Sum.inl b) = false := decide_eq_false (fun q => nomatch q)
def mixKind (prog : Program) (w : World) : PySem.KeyKind prog w Key where
  is := keyIs
  hash := keyH w
  inj := fun v a b ha hb => by
    rcases keyIs_shape ha with ⟨i, t, rfl, rfl⟩ | ⟨x, t, rfl, rfl⟩
    · rcases keyIs_shape hb with ⟨j, u, rfl, e⟩ | ⟨y, u, rfl, e⟩
      · injection e with e1 _; rw [e1]
      · exact nomatch e
    · rcases keyIs_shape hb with ⟨j, u, rfl, e⟩ | ⟨y, u, rfl, e⟩
      · exact nomatch e
      · injection e with e1 _; rw [e1]
  byValue := fun k v h => by
    rcases keyIs_shape h with ⟨i, t, rfl, rfl⟩ | ⟨x, t, rfl, rfl⟩ <;> rfl
  pyHash := fun hv h => by
    rcases keyIs_shape hv with ⟨i, t, rfl, rfl⟩ | ⟨x, t, rfl, rfl⟩
    · exact wpAny_pyHash_int h
    · exact wpAny_pyHash_str h
  eqBool := fun hu hv h => by
    rcases keyIs_shape hu with ⟨i, t, rfl, rfl⟩ | ⟨x, t, rfl, rfl⟩
    · rcases keyIs_shape hv with ⟨j, u, rfl, rfl⟩ | ⟨y, u, rfl, rfl⟩
      · rw [key_ll] at h; exact wpAny_eqBool_int h
      · rw [key_lr] at h; exact SeqAt.EqAt.int_str i t y u _ _ _ _ h
    · rcases keyIs_shape hv with ⟨j, u, rfl, rfl⟩ | ⟨y, u, rfl, rfl⟩
      · rw [key_rl] at h; exact SeqAt.EqAt.str_int x t j u _ _ _ _ h
      · rw [key_rr] at h; exact wpAny_eqBool_str h
  «strs» := fun k x t v h => by
    rcases keyIs_shape h with ⟨i, u, rfl, e⟩ | ⟨y, u, rfl, e⟩
    · exact nomatch e
    · injection e with e1 _
      subst e1
      cases v <;> rfl
theorem mixKind_is (prog : Program) (w : World) (k : Key) (v : Value) : (mixKind prog w).is k v = keyIs k v := rfl
theorem mixKind_int (prog : Program) (w : World) (i : Int) (t : Tok) : (mixKind prog w).is (.inl i) (.int i t) = true := keyIs_int i t
theorem mixKind_str (prog : Program) (w : World) (x : Str) (t : Tok) : (mixKind prog w).is (.inr x) (.str x t) = true := keyIs_str x t
end L2
namespace L2
open PySem PySem.Spec PyProof.Rows
inductive V where
  | non | bl (b : Bool) | int (i : Int) | str (x : Str) | byt (b : Array UInt8) | flt (b : UInt64) | ref (a : Addr) | ty (n : String)
  deriving DecidableEq
def RelV : V → Value → Prop
  | .non, u => u = Value.none
  | .bl b, u => u = Value.bool b
  | .int i, u => ∃ t, u = Value.int i t
  | .str x, u => ∃ t, u = Value.str x t
  | .byt b, u => ∃ t, u = Value.bytes b t
  | .flt b, u => ∃ t, u = Value.float b t
  | .ref a, u => u = Value.ref a
  | .ty n, u => u = Value.type n
abbrev Vals : List V → List Value → Prop := Paired RelV
theorem Vals.length {xs : List V} {us : List Value} (r : Vals xs us) : xs.length = us.length := Paired.length r
theorem Vals.get : ∀ {xs : List V} {us : List Value} {i : Nat} {x : V}, Vals xs us → xs[i]? = some x → ∃ u, us[i]? = some u ∧ RelV x u
  | _, _, _, _, .nil, e => by simp at e
  | _, _, 0, _, .cons r _, e => by simp at e; subst e; exact ⟨_, rfl, r⟩
  | _, _, i + 1, x, .cons _ t, e => by
    obtain ⟨u, h1, h2⟩ := Vals.get (i := i) (x := x) t (by simpa using e)
    exact ⟨u, by simpa using h1, h2⟩
theorem Vals.set {x : V} {u : Value} (r : RelV x u) : ∀ {xs : List V} {us : List Value} (i : Nat), Vals xs us → Vals (xs.set i x) (us.set i u)
  | _, _, _, .nil => .nil
  | _, _, 0, .cons _ t => .cons r t
  | _, _, i + 1, .cons q t => .cons q (Vals.set r i t)
theorem Vals.append : ∀ {xs ys : List V} {us ws : List Value}, Vals xs us → Vals ys ws → Vals (xs ++ ys) (us ++ ws)
  | _, _, _, _, .nil, s => s
  | _, _, _, _, .cons r t, s => .cons r (Vals.append t s)
theorem Vals.take : ∀ {xs : List V} {us : List Value} (n : Nat), Vals xs us → Vals (xs.take n) (us.take n)
  | _, _, 0, _ => .nil
  | _, _, _ + 1, .nil => .nil
  | _, _, n + 1, .cons r t => .cons r (Vals.take n t)
theorem Vals.drop : ∀ {xs : List V} {us : List Value} (n : Nat), Vals xs us → Vals (xs.drop n) (us.drop n)
  | _, _, 0, r => r
  | _, _, _ + 1, .nil => .nil
  | _, _, n + 1, .cons _ t => Vals.drop n t
def RelO : Option V → Option Value → Prop
  | some v, some u => RelV v u
  | none, none => True
  | _, _ => False
def KV {κ : Type} : List (κ × V) → List (κ × Value) → Prop := Paired fun (p : κ × V) (q : κ × Value) => p.1 = q.1 ∧ RelV p.2 q.2
def kV : Key → V
  | .inl i => .int i
  | .inr x => .str x
inductive HO where
  | lst (xs : List V)
  | tup (xs : List V)
  | dK (kvs : List (Key × V)) | dT (kvs : List (List Key × V))
  | set (S : Int → Bool) (n : Nat)
  | ins (C dx : Addr) (fs : List (Str × V))
  | own (x : Addr)
  | xd (fs : List (Str × V))
  | met (f x : Addr)
  | rng (lo hi : Int)
  | frz (o : Obj) (u : HO)
  | tbl (ps : Array Value)
  | ext (φ : Heap → Prop)
abbrev Hp := Addr → Option HO
def upd (H : Hp) (a : Addr) (o : HO) : Hp := fun b => if b = a then some o else H b
theorem upd_same {H : Hp} {a : Addr} {o : HO} : upd H a o a = some o := by unfold upd; rw [if_pos rfl]
theorem upd_ne {H : Hp} {a b : Addr} {o : HO} (h : b ≠ a) : upd H a o b = H b := by unfold upd; rw [if_neg h]
theorem upd_upd {H : Hp} {a : Addr} {o u : HO} : upd (upd H a o) a u = upd H a u := by
  funext b; unfold upd; split <;> rfl
theorem ne_of {H : Hp} {a b : Addr} {o u : HO} (h : H a = some o) (h' : H b = some u) (d : o ≠ u) : a ≠ b := by
  intro e; subst e; rw [h] at h'; exact d (Option.some.inj h')
theorem ne_of_none {H : Hp} {a b : Addr} {o : HO} (h : H a = some o) (h' : H b = none) : a ≠ b := by
  intro e; subst e; rw [h] at h'; cases h'
section
variable (P : Program) (w : World)
def ObjOk (H : Hp) (h : Heap) (a : Addr) : HO → Prop
  | .lst xs => xs.length ≤ sizeLine ∧ ∃ (its : List Value) (n : Nat), Vals xs its ∧ h.get? a = some { cls := .type "list", data := .seq its.toArray n }
  | .tup xs => xs.length ≤ sizeLine ∧ ∃ its : List Value, Vals xs its ∧ IsTup h a its.toArray
  | .dK kvs => kvs.length ≤ sizeLine ∧ (a == sysModules) = false ∧ ∃ vs, KV kvs vs ∧ h.DictOf (mixKind P w) a vs
  | .dT kvs => kvs.length ≤ sizeLine ∧ (a == sysModules) = false ∧ ∃ xs : List (List Key × Addr × Value),
      Paired (fun (p : List Key × V) (q : List Key × Addr × Value) => p.1 = q.1 ∧ H q.2.1 = some (.tup (p.1.map kV)) ∧ RelV p.2 q.2.2) kvs xs ∧
      ∃ o es ep, h.get? a = some o ∧ o.ExactDict ∧ o.data = .dict es ep ∧ es.toList = xs.map (entryOfKey (tupleKind (mixKind P w))) ∧ (xs.map (·.1)).Nodup
  | .set S n => h.SetOf (intKind P w) a S n
  | .ins C dx fs => H dx = some (.own a) ∧ fs.length ≤ 1000 ∧ dx ≠ a ∧ h.get? a = some (PySem.W.instObj C dx) ∧
      ∃ mA, h.Ns1 dx mA ∧ (∀ f, RelO (fs.lookup f) (mA f)) ∧ PySem.Within mA (fs.map (·.1))
  | .own _ => ∃ o, h.get? a = some o
  | .xd fs => ∃ mA, h.Ns1 a mA ∧ ∀ f, RelO (fs.lookup f) (mA f)
  | .rng lo hi => ∃ t u v, h.get? a = some { cls := .type "range", data := .fields #[.int lo t, .int hi u, .int 1 v] }
  | .frz o u => h.get? a = some o ∧ ObjOk H h a u
  | .tbl ps => h.get? a = some { cls := .none, data := .fields ps }
  | .met f x => h.get? a = some (PySem.W.methodObj (.ref f) (.ref x))
  | .ext φ => φ h ∧ (∃ o, h.get? a = some o) ∧ ∀ h1 h2 : Heap, φ h1 → (∀ o, h1.get? a = some o → h2.get? a = some o) → φ h2
def HOk (H : Hp) (h : Heap) : Prop := ∀ a o, H a = some o → ObjOk P w H h a o
end
section
variable {P : Program} {w : World} {H H' : Hp} {h h' : Heap} {a : Addr} {o : HO}
theorem ObjOk.lt (x : ObjOk P w H h a o) : a < h.objs.size := by
  cases o with
  | lst xs => obtain ⟨_, _, _, _, e⟩ := x; exact Heap.lt_size e
  | tup xs => obtain ⟨_, _, _, p⟩ := x; exact p.lt
  | dK kvs => obtain ⟨_, _, _, _, o, _, _, e, _⟩ := x; exact Heap.lt_size e
  | dT kvs => obtain ⟨_, _, _, _, o, _, _, e, _⟩ := x; exact Heap.lt_size e
  | set S n => obtain ⟨o, _, _, _, e, _⟩ := x; exact Heap.lt_size e
  | ins C dx fs => obtain ⟨_, _, _, e, _⟩ := x; exact Heap.lt_size e
  | own y => obtain ⟨_, e⟩ := x; exact Heap.lt_size e
  | xd fs => obtain ⟨_, ⟨_, _, _, e, _⟩, _⟩ := x; exact Heap.lt_size e
  | rng lo hi => obtain ⟨_, _, _, e⟩ := x; exact Heap.lt_size e
  | frz ob u => obtain ⟨e, _⟩ := x; exact Heap.lt_size e
  | tbl ps => exact Heap.lt_size (show h.get? a = some _ from x)
  | met f y => exact Heap.lt_size (show h.get? a = some _ from x)
  | ext φ => obtain ⟨_, ⟨_, e⟩, _⟩ := x; exact Heap.lt_size e
theorem Paired.mapP {α β : Type} {F G : α → β → Prop} : ∀ {l₁ : List α} {l₂ : List β}, Paired F l₁ l₂ → (∀ a b, F a b → G a b) → Paired G l₁ l₂
  | _, _, .nil, _ => .nil
  | _, _, .cons r t, f => .cons (f _ _ r) (Paired.mapP t f)
theorem ObjOk.stay (x : ObjOk P w H h a o) (k : ∀ b u, (b = a ∨ H b = some (.own a)) → h.get? b = some u → h'.get? b = some u)
    (ho : ∀ b, H b = some (.own a) → H' b = some (.own a)) (ht : ∀ b xs, H b = some (.tup xs) → H' b = some (.tup xs)) : ObjOk P w H' h' a o := by
  induction o with
  | lst xs => obtain ⟨z, its, n, r, e⟩ := x; exact ⟨z, its, n, r, k _ _ (.inl rfl) e⟩
  | tup xs => obtain ⟨z, its, r, ob, e, c⟩ := x; exact ⟨z, its, r, ob, k _ _ (.inl rfl) e, c⟩
  | dK kvs => obtain ⟨z, y, vs, r, ob, es, ep, e, c⟩ := x; exact ⟨z, y, vs, r, ob, es, ep, k _ _ (.inl rfl) e, c⟩
  | dT kvs =>
    obtain ⟨z, y, xs, r, ob, es, ep, e, c⟩ := x
    exact ⟨z, y, xs, Paired.mapP r fun p q z => ⟨z.1, ht _ _ z.2.1, z.2.2⟩, ob, es, ep, k _ _ (.inl rfl) e, c⟩
  | set S n => obtain ⟨ob, es, ep, t, e, c⟩ := x; exact ⟨ob, es, ep, t, k _ _ (.inl rfl) e, c⟩
  | ins C dx fs =>
    obtain ⟨d, z, ne, e, mA, ⟨od, es, ep, e2, c⟩, r⟩ := x
    exact ⟨ho _ d, z, ne, k _ _ (.inl rfl) e, mA, ⟨od, es, ep, k _ _ (.inr d) e2, c⟩, r⟩
  | own y => obtain ⟨ob, e⟩ := x; exact ⟨ob, k _ _ (.inl rfl) e⟩
  | xd fs => obtain ⟨mA, ⟨od, es, ep, e, c⟩, r⟩ := x; exact ⟨mA, ⟨od, es, ep, k _ _ (.inl rfl) e, c⟩, r⟩
  | rng lo hi => obtain ⟨t, u, v, e⟩ := x; exact ⟨t, u, v, k _ _ (.inl rfl) e⟩
  | frz ob u ih => obtain ⟨e, q⟩ := x; exact ⟨k _ _ (.inl rfl) e, ih q⟩
  | tbl ps =>
    have e : h.get? a = some { cls := .none, data := .fields ps } := x
    show h'.get? a = some { cls := .none, data := .fields ps }
    exact k a _ (.inl rfl) e
  | met f y =>
    have e : h.get? a = some (PySem.W.methodObj (.ref f) (.ref y)) := x
    show h'.get? a = some (PySem.W.methodObj (.ref f) (.ref y))
    exact k a _ (.inl rfl) e
  | ext φ => obtain ⟨p, ⟨o, e⟩, st⟩ := x; exact ⟨st _ _ p fun o q => k _ _ (.inl rfl) q, ⟨o, k _ _ (.inl rfl) e⟩, st⟩
theorem HOk.lt (x : HOk P w H h) (e : H a = some o) : a < h.objs.size := (x a o e).lt
theorem HOk.fresh (x : HOk P w H h) (e : h.objs.size ≤ a) : H a = none := by
  cases q : H a with
  | none => rfl
  | some u => exact absurd (Nat.lt_of_lt_of_le (x.lt q) e) (Nat.lt_irrefl _)
theorem HOk.kept (x : HOk P w H h) (k : ∀ b u, h.get? b = some u → h'.get? b = some u) : HOk P w H h' := fun a o e =>
  (x a o e).stay (fun b u _ q => k b u q) (fun _ q => q) fun _ _ q => q
theorem HOk.laid (x : HOk P w H h) (k : ∀ b u, h.get? b = some u → h'.get? b = some u) (hp : h.objs.size ≤ a) (new : ObjOk P w (upd H a o) h' a o) : HOk P w (upd H a o) h' := fun b u e => by
  have hn := x.fresh hp
  by_cases hb : b = a
  · subst hb; rw [upd_same] at e; cases e; exact new
  · rw [upd_ne hb] at e
    exact (x b u e).stay (fun c v _ q => k c v q) (fun c q => by rw [upd_ne (ne_of_none q hn)]; exact q) fun c xs q => by rw [upd_ne (ne_of_none q hn)]; exact q
end
def Rd (H : Hp) (a : Addr) (u : HO) : Prop := H a = some u ∨ ∃ o, H a = some (.frz o u)
theorem Rd.ok {P : Program} {w : World} {H : Hp} {h : Heap} {a : Addr} {u : HO} (r : Rd H a u) (x : HOk P w H h) : ObjOk P w H h a u := by
  rcases r with r | ⟨o, r⟩
  · exact x a u r
  · obtain ⟨_, q⟩ := x a _ r
    exact q
def Mut : Option HO → Prop
  | some (.lst _) => True
  | some (.dK _) => True
  | some (.dT _) => True
  | some (.set _ _) => True
  | some (.ins _ _ _) => True
  | some (.ext _) => True
  | _ => False
section
variable {P : Program} {w : World} {H : Hp} {h h' : Heap} {x e : Addr} {o' : HO}
theorem HOk.write (ok : HOk P w H h) (mu : Mut (H x)) (he : e = x ∨ H e = some (.own x)) (k : ∀ b u, b ≠ e → h.get? b = some u → h'.get? b = some u) (heo : ∃ u, h'.get? e = some u)
    (new : ObjOk P w (upd H x o') h' x o') : HOk P w (upd H x o') h' := fun b u q => by
  have nown : ∀ c y, H c = some (.own y) → c ≠ x := fun c y r z => by subst z; rw [r] at mu; exact mu
  have ntup : ∀ c xs, H c = some (.tup xs) → c ≠ x := fun c xs r z => by subst z; rw [r] at mu; exact mu
  by_cases hb : b = x
  · subst hb; rw [upd_same] at q; cases q; exact new
  · rw [upd_ne hb] at q
    by_cases hbe : b = e
    · have q' : H b = some (.own x) := by
        rcases he with z | z
        · exact absurd (hbe.trans z) hb
        · rw [hbe]; exact z
      rw [q] at q'; cases q'
      obtain ⟨v, hv⟩ := heo
      exact ⟨v, by rw [hbe]; exact hv⟩
    · refine (ok b u q).stay (fun c v hc r => k c v ?_ r) (fun c r => by rw [upd_ne (nown c b r)]; exact r) fun c xs r => by rw [upd_ne (ntup c xs r)]; exact r
      rcases hc with rfl | hc
      · exact hbe
      · rintro rfl
        rcases he with z | z
        · exact nown c b hc z
        · rw [hc] at z; cases z; exact hb rfl
end
structure Un (fs ex : List Addr) (H H' : Hp) (h h' : Heap) : Prop where
  keep : ∀ b o, h.get? b = some o → H b = none → b ∉ fs → b ∉ ex → h'.get? b = some o
  slot : ∀ b o, h.get? b = some o → H b = none → b ∈ fs → b ∉ ex → ∃ sl, h'.get? b = some { o with slots := sl }
  free : ∀ b o, h.get? b = some o → H b = none → b ∉ ex → H' b = none
  there : ∀ b o, h.get? b = some o → b ∉ ex → ∃ o', h'.get? b = some o'
  tups : ∀ b xs, H b = some (.tup xs) → H' b = some (.tup xs)
  frzs : ∀ b o u, H b = some (.frz o u) → H' b = some (.frz o u)
  tbls : ∀ b ps, H b = some (.tbl ps) → ∃ more, H' b = some (.tbl (ps ++ more))
section
variable {fs fs' ex ex' : List Addr} {H H1 H2 : Hp} {h h1 h2 h' : Heap} {a x e : Addr} {o : HO}
theorem Un.any (u : Un fs ex H H1 h h1) {b : Addr} {ob : Obj} (q : h.get? b = some ob) (n : H b = none) (hx : b ∉ ex) : ∃ sl, h1.get? b = some { ob with slots := sl } := by
  by_cases hb : b ∈ fs
  · exact u.slot b ob q n hb hx
  · exact ⟨ob.slots, u.keep b ob q n hb hx⟩
theorem Un.kept (k : ∀ b u, h.get? b = some u → h'.get? b = some u) : Un fs ex H H h h' :=
  ⟨fun b ob q _ _ _ => k b ob q, fun b ob q _ _ _ => ⟨ob.slots, k b ob q⟩, fun _ _ _ n _ => n, fun b ob q _ => ⟨ob, k b ob q⟩, fun _ _ q => q, fun _ _ _ q => q, fun _ ps q => ⟨#[], by rw [q]; simp⟩⟩
theorem Un.refl : Un fs ex H H h h := Un.kept fun _ _ q => q
theorem Un.laid (k : ∀ b u, h.get? b = some u → h'.get? b = some u) (hp : h.objs.size ≤ a) (hn : H a = none) : Un fs ex H (upd H a o) h h' where
  keep := fun b u q _ _ _ => k b u q
  slot := fun b u q _ _ _ => ⟨u.slots, k b u q⟩
  free := fun b u q n _ => by rw [upd_ne (Nat.ne_of_lt (Nat.lt_of_lt_of_le (Heap.lt_size q) hp))]; exact n
  there := fun b u q _ => ⟨u, k b u q⟩
  tups := fun b xs q => by rw [upd_ne (ne_of_none q hn)]; exact q
  frzs := fun b u xs q => by rw [upd_ne (ne_of_none q hn)]; exact q
  tbls := fun b ps q => ⟨#[], by rw [upd_ne (ne_of_none q hn), q]; simp⟩
theorem Un.write (mu : Mut (H x)) (he : e = x ∨ H e = some (.own x)) (k : ∀ b u, b ≠ e → h.get? b = some u → h'.get? b = some u) (heo : ∃ u, h'.get? e = some u) : Un fs ex H (upd H x o) h h' := by
  have hx : ∀ b, H b = none → b ≠ x := fun b n z => by subst z; rw [n] at mu; exact mu
  have hb : ∀ b, H b = none → b ≠ e := fun b n z => by
    subst z
    rcases he with r | r
    · exact hx b n r
    · rw [n] at r; cases r
  have hm : ∀ b u, H b = some u → ¬ Mut (some u) → b ≠ x := fun b u q nm z => by subst z; rw [q] at mu; exact nm mu
  refine ⟨fun b u q n _ _ => k b u (hb b n) q, fun b u q n _ _ => ⟨u.slots, k b u (hb b n) q⟩, fun b u q n _ => by rw [upd_ne (hx b n)]; exact n, fun b u q _ => ?_,
    fun b xs q => by rw [upd_ne (hm b _ q fun z => z)]; exact q, fun b u xs q => by rw [upd_ne (hm b _ q fun z => z)]; exact q, fun b ps q => ⟨#[], by rw [upd_ne (hm b _ q fun z => z), q]; simp⟩⟩
  by_cases hbe : b = e
  · subst hbe; exact heo
  · exact ⟨u, k b u hbe q⟩
end
def trk (h : Heap) (H : Hp) : List Addr := (List.range h.objs.size).filter fun a => (H a).isSome
def hidT (h : Heap) (H : Hp) : Heap := PySem.W.hideAll h (trk h H)
theorem hidT_size (h : Heap) (H : Hp) : (hidT h H).objs.size = h.objs.size := PySem.W.hideAll_size _ _
theorem hidT_get {h : Heap} {H : Hp} {b : Addr} {o : Obj} (e : h.get? b = some o) (n : H b = none) : (hidT h H).get? b = some o :=
  PySem.W.hideAll_get _ e fun hm => by
    have q : (H b).isSome = true := (List.mem_filter.mp hm).2
    rw [n] at q; simp at q
theorem of_hidT {h : Heap} {H : Hp} {b : Addr} {o : Obj} (e : (hidT h H).get? b = some o) : h.get? b = some o ∧ H b = none := by
  have e' : h.get? b = some o := PySem.W.of_hideAll (trk h H) e
  refine ⟨e', ?_⟩
  cases q : H b with
  | none => rfl
  | some x =>
    have hm : b ∈ trk h H := List.mem_filter.mpr ⟨List.mem_range.mpr (Heap.lt_size e'), by simp [q]⟩
    have z : (hidT h H).get? b = none := PySem.W.hideAll_none (trk h H) hm
    rw [z] at e; cases e
end L2
namespace L2
open PySem PySem.Spec PyProof.Rows
structure Mod (K : PySem.W.Frag) (mg : Str → Option Value) (base : Heap) : Prop where
  kin : K.In base
  glob : base.Ns mainGlobals mg
  blt : ∃ mb, base.Ns builtinsNs mb ∧ ∀ x : Str, x ≠ "__name__" → mb x = bootBuiltins x
  nolimit : base.NoLimit
structure Cx where
  prog : Program
  w : World
  K : PySem.W.Frag
  mg : Str → Option Value
  base : Heap
  A : Around
  N : List Str
  s_0 : Shared
  H_0 : Hp
  env : Env
  outer : List Env
  stack : List Env
  ex : List Addr
  fn : Str → Bool
  calm : Bool
  pn : List (Addr × Obj)
  xe : Value → Shared → Prop
def frs (l : List Env) : List Addr := l.filterMap (·.frame)
abbrev Cx.fs (X : Cx) : List Addr := frs X.outer
def Vis (sc : Scope) (x : Str) : Prop := sc.names.lookup x = some .local ∨ sc.names.lookup x = some .cell ∨ sc.names.lookup x = some .free
def Loc (sc : Scope) (x : Str) : Prop := sc.names.lookup x = some .local ∨ sc.names.lookup x = some .cell
def Look (env : Env) (h : Heap) (m : Str → Option Value) (x : Str) (u : Value) : Prop :=
  (env.kindOf x = some .local ∧ m x = some u) ∨ ((env.kindOf x = some .cell ∨ env.kindOf x = some .free) ∧ ∃ c, env.cells.lookup x = some c ∧ h.IsCell c (some u))
structure Cx.Ok (X : Cx) : Prop where
  mod : Mod X.K X.mg X.base
  kind : X.env.scope.kind = .function
  glob : X.env.globals = mainGlobals
  blt : X.env.builtins = builtinsNs
  above : X.s_0.heap.objs.size ≤ X.env.locals
  inj : ∀ x y c, X.env.cells.lookup x = some c → X.env.cells.lookup y = some c → x = y
  has : ∀ x, (X.env.kindOf x = some .cell ∨ X.env.kindOf x = some .free) → ∃ c, X.env.cells.lookup x = some c
  cab : ∀ x c, X.fn x = true → X.env.cells.lookup x = some c → X.s_0.heap.objs.size ≤ c
  hd : X.calm = true → X.A.handled = none
  frames : X.A.frames = some X.stack
  stk : X.stack = X.outer ∨ (X.stack = X.env :: X.outer ∧ X.env.frame = some X.env.locals)
  exf : ∀ b ∈ X.ex, b ≠ X.env.locals ∧ ∀ x c, X.env.cells.lookup x = some c → c ≠ b
  bs : ∀ b o, X.base.get? b = some o → X.s_0.heap.get? b = some o ∧ X.H_0 b = none
  bsz : X.base.objs.size ≤ X.s_0.heap.objs.size
  noex : ∀ b o, X.base.get? b = some o → b ∉ X.ex
  exfs : ∀ b ∈ X.ex, b ∉ X.fs
  funs : X.s_0.heap.FunFrames X.base X.outer
  frf : ∀ b ∈ X.fs, X.H_0 b = none
structure Inv (X : Cx) (pins : List (Addr × Obj)) (σ : List (Option V)) (H : Hp) (s : Shared) : Prop where
  ok : X.Ok
  os : s.os = X.s_0.os
  bare : AllBare s.gens
  base : Un X.fs X.ex X.H_0 H X.s_0.heap s.heap
  loc : ∃ m, s.heap.Ns X.env.locals m ∧ ∀ (i : Nat) (x : Str) (v : V), X.N[i]? = some x → σ[i]? = some (some v) → Vis X.env.scope x → ∃ u, RelV v u ∧ Look X.env s.heap m x u
  cell : ∀ x c, X.env.cells.lookup x = some c → ∃ v, s.heap.IsCell c v
  free : H X.env.locals = none
  freeC : ∀ x c, X.env.cells.lookup x = some c → H c = none
  pin : ∀ p ∈ X.pn ++ pins, s.heap.get? p.1 = some p.2 ∧ H p.1 = none ∧ p.1 ≠ X.env.locals ∧ p.1 ∉ X.fs ∧ ∀ v, p.2.data ≠ .cell v
  hok : HOk X.prog X.w H s.heap
  len : σ.length = X.N.length
section
variable {X : Cx} {pins : List (Addr × Obj)} {σ : List (Option V)} {H H' : Hp} {s : Shared} {h' : Heap}
theorem Cx.Ok.nofr (ok : X.Ok) {b : Addr} {o : Obj} (e : X.base.get? b = some o) : b ∉ X.fs := fun hb => by
  have := (ok.funs.mem hb).1
  rw [e] at this; cases this
theorem Inv.bs (I : Inv X pins σ H s) : ∀ b o, X.base.get? b = some o → s.heap.get? b = some o ∧ H b = none := fun b o e =>
  ⟨I.base.keep b o (I.ok.bs b o e).1 (I.ok.bs b o e).2 (I.ok.nofr e) (I.ok.noex b o e), I.base.free b o (I.ok.bs b o e).1 (I.ok.bs b o e).2 (I.ok.noex b o e)⟩
theorem Inv.bk (I : Inv X pins σ H s) : ∀ b o, X.base.get? b = some o → s.heap.get? b = some o := fun b o e => (I.bs b o e).1
theorem Inv.mod (I : Inv X pins σ H s) : Mod X.K X.mg X.base := I.ok.mod
theorem Inv.kIn (I : Inv X pins σ H s) : X.K.In s.heap := I.ok.mod.kin.keeps I.bk
theorem Inv.fr (I : Inv X pins σ H s) : ∃ m, Fr X.base X.env.locals s.heap m :=
  let ⟨m, hn, _⟩ := I.loc
  ⟨m, hn, I.bk, Nat.le_trans I.ok.bsz I.ok.above⟩
theorem Inv.lt (I : Inv X pins σ H s) : X.env.locals < s.heap.objs.size := let ⟨_, hn, _⟩ := I.loc; hn.lt
theorem Inv.sz (I : Inv X pins σ H s) : X.s_0.heap.objs.size ≤ s.heap.objs.size := Nat.le_trans I.ok.above (Nat.le_of_lt I.lt)
theorem Inv.nofs (I : Inv X pins σ H s) {a : Addr} (h : s.heap.objs.size ≤ a) : a ∉ X.fs := fun hb => by
  obtain ⟨_, o, ho, _⟩ := I.ok.funs.mem hb
  exact absurd (Nat.lt_of_lt_of_le (Heap.lt_size ho) (Nat.le_trans I.sz h)) (Nat.lt_irrefl _)
theorem Inv.cne (I : Inv X pins σ H s) : ∀ x c, X.env.cells.lookup x = some c → c ≠ X.env.locals := fun x c e z => by
  obtain ⟨v, o, ho, hd⟩ := I.cell x c e
  obtain ⟨m, ⟨o', es, ep, ho', hd', _⟩, _⟩ := I.loc
  rw [z, ho'] at ho; cases ho; rw [hd'] at hd; cases hd
theorem Inv.funs (I : Inv X pins σ H s) : s.heap.FunFrames X.base X.outer := by
  have all : ∀ (l : List Env), (∀ b ∈ frs l, b ∈ X.fs) → X.s_0.heap.FunFrames X.base l → s.heap.FunFrames X.base l := by
    intro l
    induction l with
    | nil => intro _ _; trivial
    | cons env r ih =>
      intro hs hl
      obtain ⟨hk, ⟨L, o, hf, hn, ho, hd⟩, hr⟩ := hl
      have hL : L ∈ X.fs := hs L (by unfold frs; rw [List.filterMap_cons, hf]; exact List.mem_cons_self)
      obtain ⟨sl, e⟩ := I.base.slot L o ho (I.ok.frf L hL) hL fun z => I.ok.exfs L z hL
      exact ⟨hk, ⟨L, _, hf, hn, e, hd⟩, ih (fun b hb => hs b (by unfold frs; rw [List.filterMap_cons, hf]; exact List.mem_cons_of_mem _ hb)) hr⟩
  exact all X.outer (fun _ hb => hb) I.ok.funs
theorem Inv.stack (I : Inv X pins σ H s) : s.heap.FunFrames X.base X.stack := by
  rcases I.ok.stk with e | ⟨e, hf⟩
  · rw [e]; exact I.funs
  · rw [e]
    obtain ⟨m, hn, _⟩ := I.loc
    refine .cons (by rw [I.ok.kind]; decide) hf hn ?_ I.funs
    exact Heap.get?_none_of_le (Nat.le_trans I.ok.bsz I.ok.above)
theorem Inv.stkSub (I : Inv X pins σ H s) : ∀ b ∈ frs X.stack, b ∈ X.env.locals :: X.fs := fun b hb => by
  rcases I.ok.stk with e | ⟨e, hf⟩
  · rw [e] at hb; exact List.mem_cons_of_mem _ hb
  · rw [e] at hb
    unfold frs at hb
    rw [List.filterMap_cons, hf] at hb
    exact hb
theorem Inv.stkFree (I : Inv X pins σ H s) : ∀ b ∈ frs X.stack, H b = none := fun b hb => by
  rcases List.mem_cons.mp (I.stkSub b hb) with e | hb
  · rw [e]; exact I.free
  · obtain ⟨_, o, ho, _⟩ := I.ok.funs.mem hb
    exact I.base.free b o ho (I.ok.frf b hb) fun z => I.ok.exfs b z hb
theorem Inv.step {g' : Array GenState} {t' : Nat} {d' : Drawn} {ch : List Addr} (I : Inv X pins σ H s)
    (hch : ∀ b ∈ ch, (b ∈ X.ex ∨ X.s_0.heap.objs.size ≤ b) ∧ b ≠ X.env.locals ∧ (∀ x c, X.env.cells.lookup x = some c → c ≠ b) ∧ ∀ p ∈ X.pn ++ pins, p.1 ≠ b)
    (keep : ∀ b o, b ≠ X.env.locals → b ∉ X.fs → b ∉ ch → s.heap.get? b = some o → H b = none → h'.get? b = some o)
    (slot : ∀ b o, b ≠ X.env.locals → b ∈ X.fs → b ∉ ch → s.heap.get? b = some o → H b = none → ∃ sl, h'.get? b = some { o with slots := sl }) (free : ∀ b o, b ∉ ch → s.heap.get? b = some o → H b = none → H' b = none)
    (there : ∀ b o, b ∉ ch → s.heap.get? b = some o → ∃ o', h'.get? b = some o')
    (tups : ∀ b xs, H b = some (.tup xs) → H' b = some (.tup xs)) (frzs : ∀ b o u, H b = some (.frz o u) → H' b = some (.frz o u)) (tbls : ∀ b ps, H b = some (.tbl ps) → ∃ more, H' b = some (.tbl (ps ++ more)))
    (ns : ∀ m, s.heap.Ns X.env.locals m → h'.Ns X.env.locals m) (hok : HOk X.prog X.w H' h') (hg : AllBare g') :
    Inv X pins σ H' { s with heap := h', gens := g', drawn := d', toks := t' } := by
  have neL : ∀ b o, X.s_0.heap.get? b = some o → b ≠ X.env.locals := fun b o e => Nat.ne_of_lt (Nat.lt_of_lt_of_le (Heap.lt_size e) I.ok.above)
  have neC : ∀ b o, X.s_0.heap.get? b = some o → b ∉ X.ex → b ∉ ch := fun b o e hx hb => by
    rcases (hch b hb).1 with z | z
    · exact hx z
    · exact absurd (Nat.lt_of_lt_of_le (Heap.lt_size e) z) (Nat.lt_irrefl _)
  have cellK : ∀ x c, X.env.cells.lookup x = some c → ∀ v, s.heap.IsCell c v → h'.IsCell c v := fun x c e v ⟨o, ho, hd⟩ => by
    have nch : c ∉ ch := fun z => (hch c z).2.2.1 x c e rfl
    by_cases hc : c ∈ X.fs
    · obtain ⟨sl, q⟩ := slot c o (I.cne x c e) hc nch ho (I.freeC x c e)
      exact ⟨_, q, hd⟩
    · exact ⟨o, keep c o (I.cne x c e) hc nch ho (I.freeC x c e), hd⟩
  refine ⟨I.ok, I.os, hg, ⟨fun b o e n hb hx => ?_, fun b o e n hb hx => ?_, fun b o e n hx => ?_, fun b o e hx => ?_, fun b xs e => tups b xs (I.base.tups b xs e), fun b o xs e => frzs b o xs (I.base.frzs b o xs e), fun b ps e => ?_⟩, ?_, fun x c e => ?_, ?_, fun x c e => ?_, fun p hp => ?_, hok, I.len⟩
  · exact keep b o (neL b o e) hb (neC b o e hx) (I.base.keep b o e n hb hx) (I.base.free b o e n hx)
  · obtain ⟨sl, e1⟩ := I.base.slot b o e n hb hx
    obtain ⟨sl', e2⟩ := slot b _ (neL b o e) hb (neC b o e hx) e1 (I.base.free b o e n hx)
    exact ⟨sl', e2⟩
  · obtain ⟨o', e1⟩ := I.base.there b o e hx
    exact free b o' (neC b o e hx) e1 (I.base.free b o e n hx)
  · obtain ⟨o', e1⟩ := I.base.there b o e hx
    exact there b o' (neC b o e hx) e1
  · obtain ⟨m1, e1⟩ := I.base.tbls b ps e
    obtain ⟨m2, e2⟩ := tbls b _ e1
    exact ⟨m1 ++ m2, by rw [e2, Array.append_assoc]⟩
  · obtain ⟨m, hn, hl⟩ := I.loc
    refine ⟨m, ns m hn, fun i x v e1 e2 e3 => ?_⟩
    obtain ⟨u, r, l⟩ := hl i x v e1 e2 e3
    refine ⟨u, r, ?_⟩
    rcases l with l | ⟨k, c, e, z⟩
    · exact .inl l
    · exact .inr ⟨k, c, e, cellK x c e _ z⟩
  · obtain ⟨v, z⟩ := I.cell x c e
    exact ⟨v, cellK x c e v z⟩
  · obtain ⟨m, ⟨o, _, _, ho, _⟩, _⟩ := I.loc
    exact free _ o (fun z => (hch _ z).2.1 rfl) ho I.free
  · obtain ⟨v, o, ho, hd⟩ := I.cell x c e
    exact free c o (fun z => (hch c z).2.2.1 x c e rfl) ho (I.freeC x c e)
  · obtain ⟨e, n, ne, nf, d⟩ := I.pin p hp
    have nch : p.1 ∉ ch := fun z => (hch p.1 z).2.2.2 p hp rfl
    exact ⟨keep p.1 p.2 ne nf nch e n, free p.1 p.2 nch e n, ne, nf, d⟩
theorem Inv.un {t' : Nat} (I : Inv X pins σ H s) (u : Un X.fs [] H H' s.heap h') (hok : HOk X.prog X.w H' h') : Inv X pins σ H' { s with heap := h', toks := t' } := by
  obtain ⟨m, ⟨o, es, ep, ho, r⟩, _⟩ := id I.loc
  obtain ⟨sl, hL⟩ := u.any ho I.free (by simp)
  exact I.step (g' := s.gens) (d' := s.drawn) (ch := []) (fun _ z => nomatch z) (fun b o _ hb _ e n => u.keep b o e n hb (by simp)) (fun b o _ hb _ e n => u.slot b o e n hb (by simp)) (fun b o _ e n => u.free b o e n (by simp)) (fun b o _ e => u.there b o e (by simp)) u.tups u.frzs u.tbls (fun m' hm => by
    obtain ⟨o', es', ep', ho', r'⟩ := hm
    rw [ho] at ho'; cases ho'
    exact ⟨_, es', ep', hL, r'⟩) hok I.bare
theorem Inv.call {g' : Array GenState} {t' : Nat} {d' : Drawn} {ch : List Addr} (I : Inv X pins σ H s) (u : Un (frs X.stack) ch H H' s.heap h') (hok : HOk X.prog X.w H' h') (hg : AllBare g')
    (hch : ∀ b ∈ ch, (b ∈ X.ex ∨ X.s_0.heap.objs.size ≤ b) ∧ b ≠ X.env.locals ∧ (∀ x c, X.env.cells.lookup x = some c → c ≠ b) ∧ ∀ p ∈ X.pn ++ pins, p.1 ≠ b) :
    Inv X pins σ H' { s with heap := h', gens := g', drawn := d', toks := t' } := by
  obtain ⟨m, ⟨o, es, ep, ho, r⟩, _⟩ := id I.loc
  obtain ⟨sl, hL⟩ := u.any ho I.free fun z => (hch _ z).2.1 rfl
  exact I.step (ch := ch) hch (fun b o hL hb hc e n => u.keep b o e n (fun z => (List.mem_cons.mp (I.stkSub b z)).elim hL hb) hc) (fun b o _ _ hc e n => u.any e n hc) (fun b o hc e n => u.free b o e n hc) (fun b o hc e => u.there b o e hc) u.tups u.frzs u.tbls (fun m' hm => by
    obtain ⟨o', es', ep', ho', r'⟩ := hm
    rw [ho] at ho'; cases ho'
    exact ⟨_, es', ep', hL, r'⟩) hok hg
theorem Inv.turned {t' : Nat} {it : Addr} (I : Inv X pins σ H s) (k : ∀ b o, b ≠ it → s.heap.get? b = some o → h'.get? b = some o) (hn : H it = none) (hL : it ≠ X.env.locals)
    (h1 : it ∈ X.ex ∨ X.s_0.heap.objs.size ≤ it) (h2 : ∀ x c, X.env.cells.lookup x = some c → c ≠ it) (h3 : ∀ p ∈ X.pn ++ pins, p.1 ≠ it) : Inv X pins σ H { s with heap := h', toks := t' } := by
  have nit : ∀ b u, H b = some u → b ≠ it := fun b u e z => by rw [z, hn] at e; cases e
  refine I.step (g' := s.gens) (d' := s.drawn) (ch := [it]) (fun b hb => ?_) (fun b o _ _ hc e _ => k b o (fun z => hc (by simp [z])) e) (fun b o _ _ hc e _ => ⟨o.slots, k b o (fun z => hc (by simp [z])) e⟩) (fun _ _ _ _ n => n)
    (fun b o hc e => ⟨o, k b o (fun z => hc (by simp [z])) e⟩) (fun _ _ e => e) (fun _ _ _ e => e) (fun b ps e => ⟨#[], by rw [e]; simp⟩) (fun m hm => ?_) (fun b u e => ?_) I.bare
  · have e : b = it := by simpa using hb
    subst e
    exact ⟨h1, hL, h2, h3⟩
  · obtain ⟨o, es, ep, ho, r⟩ := hm
    exact ⟨o, es, ep, k _ o (Ne.symm hL) ho, r⟩
  · refine (I.hok b u e).stay (fun c v hc q => k c v ?_ q) (fun _ q => q) fun _ _ q => q
    rcases hc with z | z
    · rw [z]; exact nit b u e
    · exact nit c _ z
theorem Inv.tok (I : Inv X pins σ H s) (t : Nat) : Inv X pins σ H { s with toks := t } := I.un (h' := s.heap) (t' := t) Un.refl I.hok
theorem Inv.kept {t' : Nat} (I : Inv X pins σ H s) (k : ∀ b u, s.heap.get? b = some u → h'.get? b = some u) : Inv X pins σ H { s with heap := h', toks := t' } := I.un (Un.kept k) (I.hok.kept k)
theorem Inv.laid {a : Addr} {o : HO} {t' : Nat} (I : Inv X pins σ H s) (k : ∀ b u, s.heap.get? b = some u → h'.get? b = some u) (hp : s.heap.objs.size ≤ a) (new : ObjOk X.prog X.w (upd H a o) h' a o) :
    Inv X pins σ (upd H a o) { s with heap := h', toks := t' } := I.un (Un.laid k hp (I.hok.fresh hp)) (I.hok.laid k hp new)
theorem Inv.write {x e : Addr} {o : HO} {t' : Nat} (I : Inv X pins σ H s) (mu : Mut (H x)) (he : e = x ∨ H e = some (.own x)) (k : ∀ b u, b ≠ e → s.heap.get? b = some u → h'.get? b = some u) (heo : ∃ u, h'.get? e = some u)
    (new : ObjOk X.prog X.w (upd H x o) h' x o) : Inv X pins σ (upd H x o) { s with heap := h', toks := t' } := I.un (Un.write mu he k heo) (I.hok.write mu he k heo new)
theorem Inv.weak {σ' : List (Option V)} (I : Inv X pins σ H s) (hl : σ'.length = σ.length) (w : ∀ (i : Nat) v, σ'[i]? = some (some v) → σ[i]? = some (some v)) : Inv X pins σ' H s :=
  ⟨I.ok, I.os, I.bare, I.base, let ⟨m, hn, hl'⟩ := I.loc; ⟨m, hn, fun i x v e1 e2 e3 => hl' i x v e1 (w i v e2) e3⟩, I.cell, I.free, I.freeC, I.pin, I.hok, hl.trans I.len⟩
theorem Inv.pins_of {pins' : List (Addr × Obj)} (I : Inv X pins σ H s) (h : ∀ p ∈ pins', s.heap.get? p.1 = some p.2 ∧ H p.1 = none ∧ p.1 ≠ X.env.locals ∧ p.1 ∉ X.fs ∧ ∀ v, p.2.data ≠ .cell v) : Inv X pins' σ H s :=
  ⟨I.ok, I.os, I.bare, I.base, I.loc, I.cell, I.free, I.freeC, fun p hp => (List.mem_append.mp hp).elim (fun z => I.pin p (List.mem_append_left _ z)) (h p), I.hok, I.len⟩
theorem nodup_ix {N : List Str} (hN : N.Nodup) {i j : Nat} {x : Str} (a : N[i]? = some x) (b : N[j]? = some x) : i = j := by
  obtain ⟨h1, e1⟩ := List.getElem?_eq_some_iff.mp a
  obtain ⟨h2, e2⟩ := List.getElem?_eq_some_iff.mp b
  exact (List.getElem_inj hN).mp (e1.trans e2.symm)
theorem store_ok2 {M : Model} {A : Around} {E : Value → Shared → Prop} {i : Nat} {x : Str} {v : V} {u : Value} {Q : Unit → Shared → Prop} (I : Inv X pins σ H s) (hN : X.N.Nodup) (hi : X.N[i]? = some x) (hx : Loc X.env.scope x) (r : RelV v u)
    (h : ∀ s', Inv X pins (σ.set i (some v)) H s' → (∃ a, Heap.SameBut a s.heap s'.heap ∧ (a = X.env.locals ∨ X.env.cells.lookup x = some a)) → Q () s') (hf : X.fn x = true ∨ X.env.scope.names.lookup x = some .local := by first | exact .inl rfl | exact .inr rfl | assumption) : wpAny M A (storeName X.env x u) Q E s := by
  obtain ⟨m, hn, hl⟩ := id I.loc
  have hcls : (X.env.scope.kind == .class || (X.env.scope.kind == .module && X.env.locals != X.env.globals)) = false := by rw [I.ok.kind]; rfl
  have hiσ : i < σ.length := by rw [I.len]; exact (List.getElem?_eq_some_iff.mp hi).1
  have cne := I.cne
  have tracked : ∀ {a : Addr} {h' : Heap}, (∃ o, s.heap.get? a = some o ∧ H a = none) → Heap.SameBut a s.heap h' → HOk X.prog X.w H h' := fun {a h'} ha hs b ob e => by
    obtain ⟨_, _, hfree⟩ := ha
    refine (I.hok b ob e).stay (fun c w' hc q => (hs.2 c ?_).trans q) (fun _ q => q) fun _ _ q => q
    rintro rfl
    rcases hc with rfl | hc
    · rw [hfree] at e; cases e
    · rw [hfree] at hc; cases hc
  rcases hx with hk | hk
  · refine wpAny_storeName_local hk hn (fun h' hn' hs => ?_) hcls
    obtain ⟨oL, _, _, hoL, _⟩ := id hn
    refine h _ ⟨I.ok, I.os, I.bare, ⟨fun b o e n hb hx => ?_, fun b o e n hb hx => ?_, I.base.free, fun b o e hx => ?_, I.base.tups, I.base.frzs, I.base.tbls⟩, ⟨_, hn', fun j y v' e1 e2 e3 => ?_⟩, fun y c e => ?_, I.free, I.freeC, fun p hp => ?_, tracked ⟨oL, hoL, I.free⟩ hs, by simpa using I.len⟩ ⟨_, hs, .inl rfl⟩
    · exact (hs.2 b (Nat.ne_of_lt (Nat.lt_of_lt_of_le (Heap.lt_size e) I.ok.above))).trans (I.base.keep b o e n hb hx)
    · obtain ⟨sl, e1⟩ := I.base.slot b o e n hb hx
      exact ⟨sl, (hs.2 b (Nat.ne_of_lt (Nat.lt_of_lt_of_le (Heap.lt_size e) I.ok.above))).trans e1⟩
    · obtain ⟨o', e1⟩ := I.base.there b o e hx
      exact ⟨o', (hs.2 b (Nat.ne_of_lt (Nat.lt_of_lt_of_le (Heap.lt_size e) I.ok.above))).trans e1⟩
    · by_cases hj : j = i
      · subst hj
        rw [hi] at e1; cases e1
        rw [List.getElem?_set_self hiσ] at e2
        cases e2
        exact ⟨u, r, .inl ⟨hk, by simp⟩⟩
      · rw [List.getElem?_set_ne (Ne.symm hj)] at e2
        obtain ⟨u', r', q⟩ := hl j y v' e1 e2 e3
        refine ⟨u', r', ?_⟩
        rcases q with ⟨k, e⟩ | ⟨k, c, e, z⟩
        · refine .inl ⟨k, ?_⟩
          have : y ≠ x := fun e => hj (nodup_ix hN e1 (e ▸ hi))
          simp [this, e]
        · exact .inr ⟨k, c, e, z.sameBut hs (cne y c e)⟩
    · obtain ⟨w', z⟩ := I.cell y c e
      exact ⟨w', z.sameBut hs (cne y c e)⟩
    · obtain ⟨e, n, ne, nf, d⟩ := I.pin p hp
      exact ⟨(hs.2 p.1 ne).trans e, n, ne, nf, d⟩
  · have hfn : X.fn x = true := by
      rcases hf with z | z
      · exact z
      · rw [z] at hk; cases hk
    obtain ⟨c, hc⟩ := I.ok.has x (.inl hk)
    obtain ⟨w', z⟩ := I.cell x c hc
    refine wpAny_storeName_cell I.ok.kind hk hc z (fun h' hc' hs => ?_)
    obtain ⟨oc, hoc, hocd⟩ := id z
    refine h { s with heap := h' } ⟨I.ok, I.os, I.bare, ⟨fun b o e n hb hx => ?_, fun b o e n hb hx => ?_, I.base.free, fun b o e hx => ?_, I.base.tups, I.base.frzs, I.base.tbls⟩, ⟨m, hn.sameBut hs (Ne.symm (cne x c hc)), fun j y v' e1 e2 e3 => ?_⟩, fun y c' e => ?_, I.free, I.freeC, fun p hp => ?_, tracked ⟨oc, hoc, I.freeC x c hc⟩ hs, by simpa using I.len⟩ ⟨c, hs, .inr hc⟩
    · exact (hs.2 b (Nat.ne_of_lt (Nat.lt_of_lt_of_le (Heap.lt_size e) (I.ok.cab x c hfn hc)))).trans (I.base.keep b o e n hb hx)
    · obtain ⟨sl, e1⟩ := I.base.slot b o e n hb hx
      exact ⟨sl, (hs.2 b (Nat.ne_of_lt (Nat.lt_of_lt_of_le (Heap.lt_size e) (I.ok.cab x c hfn hc)))).trans e1⟩
    · obtain ⟨o', e1⟩ := I.base.there b o e hx
      exact ⟨o', (hs.2 b (Nat.ne_of_lt (Nat.lt_of_lt_of_le (Heap.lt_size e) (I.ok.cab x c hfn hc)))).trans e1⟩
    · by_cases hj : j = i
      · subst hj
        rw [hi] at e1; cases e1
        rw [List.getElem?_set_self hiσ] at e2
        cases e2
        exact ⟨u, r, .inr ⟨.inl hk, c, hc, hc'⟩⟩
      · rw [List.getElem?_set_ne (Ne.symm hj)] at e2
        obtain ⟨u', r', q⟩ := hl j y v' e1 e2 e3
        refine ⟨u', r', ?_⟩
        rcases q with q | ⟨k, c', e, z'⟩
        · exact .inl q
        · refine .inr ⟨k, c', e, z'.sameBut hs ?_⟩
          rintro rfl
          exact hj (nodup_ix hN e1 (I.ok.inj _ _ _ e hc ▸ hi))
    · by_cases hcc : c' = c
      · subst hcc; exact ⟨_, hc'⟩
      · obtain ⟨w2, z2⟩ := I.cell y c' e
        exact ⟨w2, z2.sameBut hs hcc⟩
    · obtain ⟨e, n, ne, nf, d⟩ := I.pin p hp
      refine ⟨(hs.2 p.1 ?_).trans e, n, ne, nf, d⟩
      intro q
      rw [q, hoc] at e
      have q' : oc = p.2 := Option.some.inj e
      exact d w' (by rw [← q']; exact hocd)
theorem store_ok {M : Model} {A : Around} {E : Value → Shared → Prop} {i : Nat} {x : Str} {v : V} {u : Value} {Q : Unit → Shared → Prop} (I : Inv X pins σ H s) (hN : X.N.Nodup) (hi : X.N[i]? = some x) (hx : Loc X.env.scope x) (r : RelV v u)
    (h : ∀ s', Inv X pins (σ.set i (some v)) H s' → Q () s') (hf : X.fn x = true ∨ X.env.scope.names.lookup x = some .local := by first | exact .inl rfl | exact .inr rfl | assumption) : wpAny M A (storeName X.env x u) Q E s :=
  store_ok2 I hN hi hx r (fun s' I' _ => h s' I') hf
theorem Inv.call' {s' : Shared} {ch : List Addr} (I : Inv X pins σ H s) (ho : s'.os = s.os) (u : Un (frs X.stack) ch H H' s.heap s'.heap) (hok : HOk X.prog X.w H' s'.heap) (hg : AllBare s'.gens)
    (hch : ∀ b ∈ ch, (b ∈ X.ex ∨ X.s_0.heap.objs.size ≤ b) ∧ b ≠ X.env.locals ∧ (∀ x c, X.env.cells.lookup x = some c → c ≠ b) ∧ ∀ p ∈ X.pn ++ pins, p.1 ≠ b) : Inv X pins σ H' s' := by
  obtain ⟨h', g', d', t', o'⟩ := s'
  have e : o' = s.os := ho
  subst e
  exact I.call (g' := g') (t' := t') (d' := d') u hok hg hch
end
abbrev XK := Value → Option Addr → Hp → Prop
abbrev St := List (Option V)
abbrev VK := V → Hp → Prop
abbrev TE := St → Hp → VK → Prop
abbrev TT := St → Hp → (Bool → Hp → Prop) → Prop
abbrev TA := St → Hp → (List V → Hp → Prop) → Prop
structure Ends where
  nx : St → Hp → Prop
  rt : VK
  bk : St → Hp → Prop := fun _ _ => False
  ct : St → Hp → Prop := fun _ _ => False
abbrev TS := Ends → St → Hp → Prop
def EP (X : Cx) (pins : List (Addr × Obj)) (σ : St) (Q : VK) (u : Value) (s' : Shared) : Prop := ∃ v H', Inv X pins σ H' s' ∧ RelV v u ∧ Q v H'
def TP (X : Cx) (pins : List (Addr × Obj)) (σ : St) (Q : Bool → Hp → Prop) (b : Bool) (s' : Shared) : Prop := ∃ H', Inv X pins σ H' s' ∧ Q b H'
def AP (X : Cx) (pins : List (Addr × Obj)) (σ : St) (Q : List V → Hp → Prop) (us : List Value) (s' : Shared) : Prop := ∃ vs H', Inv X pins σ H' s' ∧ Vals vs us ∧ Q vs H'
def SP (X : Cx) (pins : List (Addr × Obj)) (D : Ends) (f : Flow) (s' : Shared) : Prop :=
  match f with
  | .next => ∃ σ' H', Inv X pins σ' H' s' ∧ D.nx σ' H'
  | .brk => ∃ σ' H', Inv X pins σ' H' s' ∧ D.bk σ' H'
  | .cont => ∃ σ' H', Inv X pins σ' H' s' ∧ D.ct σ' H'
  | .ret u => ∃ v σ' H', Inv X pins σ' H' s' ∧ RelV v u ∧ D.rt v H'
def PE (X : Cx) (e : Expr) (t : TE) : Prop :=
  ∀ (pins : List (Addr × Obj)) (s : Shared) (σ : St) (H : Hp) (Q : VK), Inv X pins σ H s → t σ H Q → wpAny (model X.prog X.w) X.A (eval e X.env) (EP X pins σ Q) X.xe s
def PT (X : Cx) (e : Expr) (t : TT) : Prop :=
  ∀ (pins : List (Addr × Obj)) (s : Shared) (σ : St) (H : Hp) (Q : Bool → Hp → Prop), Inv X pins σ H s → t σ H Q → wpAny (model X.prog X.w) X.A (isTrue e X.env (eval e X.env)) (TP X pins σ Q) X.xe s
def PW (X : Cx) (e : Expr) (t : TT) : Prop :=
  ∀ (whole : Sem Value) (pins : List (Addr × Obj)) (s : Shared) (σ : St) (H : Hp) (Q : Bool → Hp → Prop), Inv X pins σ H s → t σ H Q → wpAny (model X.prog X.w) X.A (isTrue e X.env whole) (TP X pins σ Q) X.xe s
theorem PW.pt {X : Cx} {e : Expr} {t : TT} (h : PW X e t) : PT X e t := h _
def PA (X : Cx) (es : List Expr) (t : TA) : Prop :=
  ∀ (pos : Pos) (pins : List (Addr × Obj)) (s : Shared) (σ : St) (H : Hp) (Q : List V → Hp → Prop), Inv X pins σ H s → t σ H Q → wpAny (model X.prog X.w) X.A (spliced (backTo pos (starEach es X.env))) (AP X pins σ Q) X.xe s
def PS (X : Cx) (st : Stmt) (t : TS) : Prop :=
  ∀ (pins : List (Addr × Obj)) (s : Shared) (σ : St) (H : Hp) (D : Ends), Inv X pins σ H s → t D σ H → wpAny (model X.prog X.w) X.A (exec st X.env) (SP X pins D) X.xe s
def PSs (X : Cx) (st : List Stmt) (t : TS) : Prop :=
  ∀ (pins : List (Addr × Obj)) (s : Shared) (σ : St) (H : Hp) (D : Ends), Inv X pins σ H s → t D σ H → wpAny (model X.prog X.w) X.A (execs st X.env) (SP X pins D) X.xe s
theorem thn {α : Type} {t : Sem α} {Q Q' : α → Shared → Prop} {M : Model} {A : Around} {E : Value → Shared → Prop} {s : Shared} (h : wpAny M A t Q E s) (hQ : ∀ a s, Q a s → Q' a s) : wpAny M A t Q' E s := wpAny_mono h hQ fun _ _ x => x
end L2
namespace L2
open PySem PySem.Spec PyProof.Rows
section
variable {X : Cx}
theorem bin {a b : Expr} {ta tb : TE} (ha : PE X a ta) (hb : PE X b tb) {pins : List (Addr × Obj)} {s : Shared} {σ : St} {H : Hp} {R : V → V → Hp → Prop} (I : Inv X pins σ H s) (h : ta σ H fun x H1 => tb σ H1 fun y H2 => R x y H2)
    {α : Type} {Q : α → Shared → Prop} {f : Value → Value → Sem α}
    (hf : ∀ v u s2 x y H2, Inv X pins σ H2 s2 → RelV x v → RelV y u → R x y H2 → wpAny (model X.prog X.w) X.A (f v u) Q X.xe s2) :
    wpAny (model X.prog X.w) X.A (eval a X.env) (fun v s₁ => wpAny (model X.prog X.w) X.A (eval b X.env) (fun u s₂ => wpAny (model X.prog X.w) X.A (f v u) Q X.xe s₂) X.xe s₁) X.xe s := by
  refine thn (ha pins s σ H _ I h) fun v s1 ⟨x, H1, I1, r1, q1⟩ => ?_
  refine thn (hb pins s1 σ H1 _ I1 q1) fun u s2 ⟨y, H2, I2, r2, q2⟩ => ?_
  exact hf v u s2 x y H2 I2 r1 r2 q2
def tVar (i : Nat) : TE := fun σ H Q => ∃ v, σ[i]? = some (some v) ∧ Q v H
def tC (v : V) : TE := fun _ H Q => Q v H
theorem pe_var {i : Nat} {x : Str} {pos : Pos} (hN : X.N[i]? = some x) (hv : Vis X.env.scope x) (hd : (x == ("__debug__" : Str)) = false := by decide) (hcd : (x == ("__classdict__" : Str)) = false := by decide) : PE X (.Name x pos) (tVar i) := by
  intro pins s σ H Q I h
  obtain ⟨v, e, h⟩ := h
  obtain ⟨m, hn, hl⟩ := I.loc
  obtain ⟨u, r, l⟩ := hl i x v hN e hv
  have fin : EP X pins σ Q u s := ⟨v, H, I, r, h⟩
  rcases l with ⟨hk, hm⟩ | ⟨hk, c, hc, hcell⟩
  · exact wpAny_Name (wpAny_loadName_local I.ok.kind hk hn hm fin) hd
  · rcases hk with hk | hk
    · exact wpAny_Name (wpAny_loadName_cell I.ok.kind hk hc hcell fin) hd
    · exact wpAny_Name (wpAny_loadName_free I.ok.kind hk hc hcell fin hcd) hd
theorem pe_int {i j pos} : PE X (.Constant (.int i) j pos) (tC (.int i)) := fun _ _ _ H _ I h => wpAny_Constant_int ⟨.int i, H, I.tok _, ⟨_, rfl⟩, h⟩
theorem pe_bl {b j pos} : PE X (.Constant (.bool b) j pos) (tC (.bl b)) := fun _ _ _ H _ I h => Constant_bool ⟨.bl b, H, I, rfl, h⟩
def Gl (X : Cx) (x : Str) : Prop := X.env.kindOf x = some .globalImplicit
theorem ld_glob {E : Value → Shared → Prop} {pins : List (Addr × Obj)} {s : Shared} {σ : St} {H : Hp} {x : Str} {u : Value} {pos : Pos} {Q : Value → Shared → Prop} (I : Inv X pins σ H s) (hg : Gl X x) (hm : X.mg x = some u) (h : Q u s)
    (hd : (x == ("__debug__" : Str)) = false := by decide) : wpAny (model X.prog X.w) X.A (eval (.Name x pos) X.env) Q E s :=
  Calls.Name_function_global I.ok.kind hg (Calls.loadGlobal_global (by rw [I.ok.glob]; exact I.mod.glob.keeps I.bk) hm h) hd
theorem ld_blt {E : Value → Shared → Prop} {pins : List (Addr × Obj)} {s : Shared} {σ : St} {H : Hp} {x : Str} {u : Value} {pos : Pos} {Q : Value → Shared → Prop} (I : Inv X pins σ H s) (hg : Gl X x) (hm : X.mg x = none) (hv : bootBuiltins x = some u) (h : Q u s)
    (hn : x ≠ "__name__" := by decide) (hd : (x == ("__debug__" : Str)) = false := by decide) : wpAny (model X.prog X.w) X.A (eval (.Name x pos) X.env) Q E s := by
  obtain ⟨mb, h1, h2⟩ := I.mod.blt
  exact Calls.Name_function_global I.ok.kind hg (Calls.loadGlobal_builtin (by rw [I.ok.glob]; exact I.mod.glob.keeps I.bk) hm (by rw [I.ok.blt]; exact h1.keeps I.bk) ((h2 x hn).trans hv) h) hd
theorem pe_glob {x : Str} {v : V} {u : Value} {pos : Pos} (hg : Gl X x) (hm : X.mg x = some u) (r : RelV v u) (hd : (x == ("__debug__" : Str)) = false := by decide) : PE X (.Name x pos) (tC v) :=
  fun _ _ _ H _ I h => ld_glob I hg hm ⟨v, H, I, r, h⟩ hd
variable {a b : Expr} {ta tb : TE} {pos : Pos}
def PC (X : Cx) (op : CmpOp) (a b : Expr) (t : TE) : Prop :=
  ∀ (pins : List (Addr × Obj)) (s : Shared) (σ : St) (H : Hp) (Q : VK), Inv X pins σ H s → t σ H Q →
    wpAny (model X.prog X.w) X.A (eval a X.env) (fun v s₁ => wpAny (model X.prog X.w) X.A (eval b X.env) (fun u s₂ => wpAny (model X.prog X.w) X.A (compareOp op v u) (EP X pins σ Q) X.xe s₂) X.xe s₁) X.xe s
def tB (t : TE) : TT := fun σ H Q => t σ H fun x H1 => ∃ c, x = .bl c ∧ Q c H1
theorem pt_cmp {op : CmpOp} {t : TE} (h : PC X op a b t) (h1 : behindInMarks op b = false := by first | exact nobehind _ (by decide) (by decide) | rfl) : PT X (.Compare a [op] [b] pos) (tB t) := by
  intro pins s σ H Q I hw
  refine wpAny_isTrue_Compare1 (thn (h pins s σ H _ I hw) fun v s1 h1 => thn h1 fun u s2 h2 => thn h2 fun c s3 ⟨x, H1, I1, r1, q1⟩ => ?_) h1
  obtain ⟨d, rfl, q⟩ := q1
  cases r1
  exact wpAny_truthy_bool ⟨H1, I1, q⟩
theorem pt_val {e : Expr} {t : TE} (h : PE X e t) (he : ∀ whole, isTrue e X.env whole = (do let v ← whole; standAt e.pos; holding [v] (truthy v)) := by intro _; rfl) : PT X e (tB t) := by
  intro pins s σ H Q I hw
  refine isTrue_plain (thn (h pins s σ H _ I hw) fun v s1 ⟨x, H1, I1, r1, q1⟩ => ?_) (he _)
  obtain ⟨d, rfl, q⟩ := q1
  cases r1
  exact wpAny_truthy_bool ⟨H1, I1, q⟩
variable {tA tB' : TT} {rest : List Expr}
def tAnd (t u : TT) : TT := fun σ H Q => t σ H fun c H1 => if c = true then u σ H1 Q else Q false H1
def tOr (t u : TT) : TT := fun σ H Q => t σ H fun c H1 => if c = true then Q true H1 else u σ H1 Q
def tNot (t : TT) : TT := fun σ H Q => t σ H fun c H1 => Q (!c) H1
theorem pw_and1 (ha : PT X a tA) : PW X (.BoolOp .And [a] pos) tA := by
  intro wh pins s σ H Q I h
  refine isTrue_and (thn (ha pins s σ H Q I h) fun c s1 e => ?_)
  cases c with
  | true => exact isTrue_and_nil e
  | false => exact e
theorem pw_or1 (ha : PT X a tA) : PW X (.BoolOp .Or [a] pos) tA := by
  intro wh pins s σ H Q I h
  refine isTrue_or (thn (ha pins s σ H Q I h) fun c s1 e => ?_)
  cases c with
  | false => exact isTrue_or_nil e
  | true => exact e
theorem pw_and (ha : PT X a tA) (hb : PW X (.BoolOp .And (b :: rest) pos) tB') : PW X (.BoolOp .And (a :: b :: rest) pos) (tAnd tA tB') := by
  intro wh pins s σ H Q I h
  refine isTrue_and (thn (ha pins s σ H _ I h) fun c s1 ⟨H1, I1, q1⟩ => ?_)
  cases c with
  | true => exact hb wh pins s1 σ H1 Q I1 q1
  | false => exact ⟨H1, I1, q1⟩
theorem pw_or (ha : PT X a tA) (hb : PW X (.BoolOp .Or (b :: rest) pos) tB') : PW X (.BoolOp .Or (a :: b :: rest) pos) (tOr tA tB') := by
  intro wh pins s σ H Q I h
  refine isTrue_or (thn (ha pins s σ H _ I h) fun c s1 ⟨H1, I1, q1⟩ => ?_)
  cases c with
  | true => exact ⟨H1, I1, q1⟩
  | false => exact hb wh pins s1 σ H1 Q I1 q1
theorem pt_not (ha : PT X a tA) : PT X (.UnaryOp .Not a pos) (tNot tA) := by
  intro pins s σ H Q I h
  exact isTrue_not (ha pins s σ H (fun c H1 => Q (!c) H1) I h)
def tAndV (ta tb : TE) : TE := fun σ H Q => ta σ H fun x H1 => ∃ c, x = .bl c ∧ if c = true then tb σ H1 Q else Q (.bl false) H1
def tOrV (ta tb : TE) : TE := fun σ H Q => ta σ H fun x H1 => ∃ c, x = .bl c ∧ if c = true then Q (.bl true) H1 else tb σ H1 Q
theorem pe_one {op} {t : TE} (h : PE X a t) : PE X (.BoolOp op [a] pos) t := fun pins s σ H Q I hw => BoolOp_one (h pins s σ H Q I hw)
theorem pe_and (ha : PE X a ta) (hb : PE X (.BoolOp .And (b :: rest) pos) tb) : PE X (.BoolOp .And (a :: b :: rest) pos) (tAndV ta tb) := by
  intro pins s σ H Q I h
  refine BoolOp_and (thn (ha pins s σ H _ I h) fun v s1 ⟨x, H1, I1, r1, q1⟩ => ?_)
  obtain ⟨c, rfl, q1⟩ := q1
  cases r1
  refine wpAny_truthy_bool ?_
  cases c with
  | true => exact hb pins s1 σ H1 Q I1 q1
  | false => exact ⟨.bl false, H1, I1, rfl, q1⟩
theorem pe_or (ha : PE X a ta) (hb : PE X (.BoolOp .Or (b :: rest) pos) tb) : PE X (.BoolOp .Or (a :: b :: rest) pos) (tOrV ta tb) := by
  intro pins s σ H Q I h
  refine BoolOp_or (thn (ha pins s σ H _ I h) fun v s1 ⟨x, H1, I1, r1, q1⟩ => ?_)
  obtain ⟨c, rfl, q1⟩ := q1
  cases r1
  refine wpAny_truthy_bool ?_
  cases c with
  | false => exact hb pins s1 σ H1 Q I1 q1
  | true => exact ⟨.bl true, H1, I1, rfl, q1⟩
def tIf (t : TT) (ta tb : TE) : TE := fun σ H Q => t σ H fun c H1 => if c = true then ta σ H1 Q else tb σ H1 Q
theorem pe_ifExp {c : Expr} (hc : PT X c tA) (ha : PE X a ta) (hb : PE X b tb) : PE X (.IfExp c a b pos) (tIf tA ta tb) := by
  intro pins s σ H Q I h
  refine wpAny_IfExp (thn (hc pins s σ H _ I h) fun d s1 ⟨H1, I1, q1⟩ => ?_)
  cases d with
  | true => exact ha pins s1 σ H1 Q I1 q1
  | false => exact hb pins s1 σ H1 Q I1 q1
end
end L2
namespace L2
open PySem PySem.Spec PyProof.Rows
def SqL (K : PySem.W.Frag) (H : Hp) (a : Addr) (xs : List V) : Prop :=
  Rd H a (.lst xs) ∨
    ∃ (o : Obj) (its : Array Value) (n : Nat), K.lookup a = some o ∧ o.cls = .type "list" ∧ o.dict = none ∧ o.data = .seq its n ∧ its.size ≤ sizeLine ∧ Vals xs its.toList
def SqT (K : PySem.W.Frag) (H : Hp) (a : Addr) (xs : List V) : Prop :=
  Rd H a (.tup xs) ∨
    ∃ (o : Obj) (its : Array Value) (n : Nat), K.lookup a = some o ∧ o.cls = .type "tuple" ∧ o.data = .seq its n ∧ its.size ≤ sizeLine ∧ Vals xs its.toList
def absV : Value → Option V
  | .none => some .non
  | .bool b => some (.bl b)
  | .int i _ => some (.int i)
  | .str x _ => some (.str x)
  | .bytes b _ => some (.byt b)
  | .float b _ => some (.flt b)
  | .ref a => some (.ref a)
  | .type n => some (.ty n)
  | _ => none
theorem RelV.abs {x : V} {u : Value} (r : RelV x u) : absV u = some x := by
  cases x with
  | non => cases r; rfl
  | bl _ => cases r; rfl
  | int _ => obtain ⟨t, rfl⟩ := r; rfl
  | str _ => obtain ⟨t, rfl⟩ := r; rfl
  | byt _ => obtain ⟨t, rfl⟩ := r; rfl
  | flt _ => obtain ⟨t, rfl⟩ := r; rfl
  | ref _ => cases r; rfl
  | ty _ => cases r; rfl
theorem RelV.inj {x y : V} {u : Value} (r : RelV x u) (q : RelV y u) : x = y := Option.some.inj (r.abs.symm.trans q.abs)
theorem Vals.inj : ∀ {xs ys : List V} {us : List Value}, Vals xs us → Vals ys us → xs = ys
  | _, _, _, .nil, .nil => rfl
  | _, _, _, .cons r t, .cons r' t' => by rw [r.inj r', Vals.inj t t']
section
variable {X : Cx} {pins : List (Addr × Obj)} {σ : St} {H : Hp} {s : Shared} {a : Addr} {xs ys : List V}
theorem SqL.of {K : PySem.W.Frag} (h : H a = some (.lst xs)) : SqL K H a xs := .inl (.inl h)
theorem SqT.of {K : PySem.W.Frag} (h : H a = some (.tup xs)) : SqT K H a xs := .inl (.inl h)
theorem Inv.list (I : Inv X pins σ H s) (h : SqL X.K H a xs) : ∃ its : List Value, Vals xs its ∧ PlainL s.heap a its.toArray ∧ xs.length ≤ sizeLine := by
  rcases h with h | ⟨o, its, n, hk, hc, hd, hs, hz, r⟩
  · obtain ⟨z, its, n, r, e⟩ := h.ok I.hok
    exact ⟨its, r, ⟨_, n, e, rfl, rfl, rfl⟩, z⟩
  · refine ⟨its.toList, r, ⟨o, n, I.kIn a o hk, hc, hd, by simpa using hs⟩, ?_⟩
    have e := r.length
    simp only [Array.length_toList] at e
    omega
theorem Inv.tuple (I : Inv X pins σ H s) (h : SqT X.K H a xs) : ∃ its : List Value, Vals xs its ∧ IsTup s.heap a its.toArray ∧ xs.length ≤ sizeLine := by
  rcases h with h | ⟨o, its, n, hk, hc, hs, hz, r⟩
  · obtain ⟨z, its, r, p⟩ := h.ok I.hok
    exact ⟨its, r, p, z⟩
  · refine ⟨its.toList, r, ⟨o, I.kIn a o hk, hc, n, by simpa using hs⟩, ?_⟩
    have e := r.length
    simp only [Array.length_toList] at e
    omega
theorem Inv.list_inj (I : Inv X pins σ H s) (h : SqL X.K H a xs) (h' : SqL X.K H a ys) : xs = ys := by
  obtain ⟨its, r, ⟨o, n, e, _, _, d⟩, _⟩ := I.list h
  obtain ⟨its', r', ⟨o', n', e', _, _, d'⟩, _⟩ := I.list h'
  rw [e] at e'; cases e'
  rw [d] at d'
  injection d' with d1 _
  have : its = its' := by simpa using congrArg Array.toList d1
  subst this
  exact r.inj r'
theorem Inv.tuple_inj (I : Inv X pins σ H s) (h : SqT X.K H a xs) (h' : SqT X.K H a ys) : xs = ys := by
  obtain ⟨its, r, ⟨o, e, _, n, d⟩, _⟩ := I.tuple h
  obtain ⟨its', r', ⟨o', e', _, n', d'⟩, _⟩ := I.tuple h'
  rw [e] at e'; cases e'
  rw [d] at d'
  injection d' with d1 _
  have : its = its' := by simpa using congrArg Array.toList d1
  subst this
  exact r.inj r'
end
abbrev Cx.wish (X : Cx) (E : Value → Shared → Prop) : Cx := { X with xe := E }
theorem Cx.Ok.wish {X : Cx} (ok : X.Ok) (E : Value → Shared → Prop) : (X.wish E).Ok :=
  ⟨ok.mod, ok.kind, ok.glob, ok.blt, ok.above, ok.inj, ok.has, ok.cab, ok.hd, ok.frames, ok.stk, ok.exf, ok.bs, ok.bsz, ok.noex, ok.exfs, ok.funs, ok.frf⟩
theorem Cx.Ok.unwish {X : Cx} {E : Value → Shared → Prop} (ok : (X.wish E).Ok) : X.Ok :=
  ⟨ok.mod, ok.kind, ok.glob, ok.blt, ok.above, ok.inj, ok.has, ok.cab, ok.hd, ok.frames, ok.stk, ok.exf, ok.bs, ok.bsz, ok.noex, ok.exfs, ok.funs, ok.frf⟩
section
variable {X : Cx} {pins : List (Addr × Obj)} {σ : St} {H : Hp} {s : Shared} {E : Value → Shared → Prop}
theorem Inv.wish (I : Inv X pins σ H s) (E : Value → Shared → Prop) : Inv (X.wish E) pins σ H s := ⟨I.ok.wish E, I.os, I.bare, I.base, I.loc, I.cell, I.free, I.freeC, I.pin, I.hok, I.len⟩
theorem Inv.unwish (I : Inv (X.wish E) pins σ H s) : Inv X pins σ H s := ⟨I.ok.unwish, I.os, I.bare, I.base, I.loc, I.cell, I.free, I.freeC, I.pin, I.hok, I.len⟩
end
section
variable {X : Cx} {st : Stmt} {rest : List Stmt} {t u : TS} {e : Expr} {te : TE} {pos : Pos}
def tNext : TS := fun D σ H => D.nx σ H
def tSeq (t u : TS) : TS := fun D σ H => t { D with nx := u D } σ H
theorem pss_nil : PSs X [] tNext := fun _ _ σ H _ I h => wpAny_execs_nil ⟨σ, H, I, h⟩
theorem pss_cons (h1 : PS X st t) (h2 : PSs X rest u) : PSs X (st :: rest) (tSeq t u) := by
  intro pins s σ H D I h
  refine wpAny_execs_cons (thn (h1 pins s σ H { D with nx := u D } I h) fun f s1 q => ?_)
  cases f with
  | next =>
    obtain ⟨σ', H', I', q⟩ := q
    exact h2 pins s1 σ' H' D I' q
  | ret v => exact q
  | brk => exact q
  | cont => exact q
theorem pss_one (h1 : PS X st t) : PSs X [st] t := by
  intro pins s σ H D I h
  refine wpAny_execs_cons (thn (h1 pins s σ H D I h) fun f s1 q => ?_)
  cases f with
  | next => exact wpAny_execs_nil q
  | ret v => exact q
  | brk => exact q
  | cont => exact q
theorem Inv.quiet {pins : List (Addr × Obj)} {σ : St} {H : Hp} {s : Shared} (I : Inv X pins σ H s) : interactive X.env = false := by simp [interactive, I.ok.kind]
def tDrop (te : TE) : TS := fun D σ H => te σ H fun _ H1 => D.nx σ H1
theorem ps_expr (he : PE X e te) (hs : swapsWith e none pos.line X.env = pure false := by rfl) : PS X (.Expr e pos) (tDrop te) := by
  intro pins s σ H D I h
  exact wpAny_Expr_any (thn (he pins s σ H _ I h) fun v s1 ⟨x, H1, I1, r1, q1⟩ => ⟨σ, H1, I1, q1⟩) I.quiet hs
def tRet (te : TE) : TS := fun D σ H => te σ H D.rt
theorem ps_ret (he : PE X e te) : PS X (.Return (some e) pos) (tRet te) := by
  intro pins s σ H D I h
  exact wpAny_Return_some (thn (he pins s σ H _ I h) fun v s1 ⟨x, H1, I1, r1, q1⟩ => ⟨x, σ, H1, I1, r1, q1⟩)
def tIfS (c : TT) (t u : TS) : TS := fun D σ H => c σ H fun b H1 => if b = true then t D σ H1 else u D σ H1
theorem ps_if {c : Expr} {a b : List Stmt} {tc : TT} (hc : PT X c tc) (ha : PSs X a t) (hb : PSs X b u) : PS X (.If c a b pos) (tIfS tc t u) := by
  intro pins s σ H D I h
  refine wpAny_If (thn (hc pins s σ H _ I h) fun d s1 ⟨H1, I1, q1⟩ => ?_)
  cases d with
  | true => exact ha pins s1 σ H1 D I1 q1
  | false => exact hb pins s1 σ H1 D I1 q1
end
abbrev TG := V → St → Hp → (St → Hp → Prop) → Prop
abbrev TGs := List V → St → Hp → (St → Hp → Prop) → Prop
def PG (X : Cx) (target : Expr) (t : TG) : Prop :=
  ∀ (pins : List (Addr × Obj)) (s : Shared) (σ : St) (H : Hp) (v : V) (u : Value) (Q : St → Hp → Prop), Inv X pins σ H s → RelV v u → t v σ H Q →
    wpAny (model X.prog X.w) X.A (assign target X.env u) (fun _ s' => ∃ σ' H', Inv X pins σ' H' s' ∧ Q σ' H') X.xe s
def PGs (X : Cx) (ts : List Expr) (t : TGs) : Prop :=
  ∀ (pins : List (Addr × Obj)) (s : Shared) (σ : St) (H : Hp) (vs : List V) (us : List Value) (Q : St → Hp → Prop), Inv X pins σ H s → Vals vs us → t vs σ H Q →
    wpAny (model X.prog X.w) X.A (assignInOrder ((assignEach ts X.env).map (·.2)) us) (fun _ s' => ∃ σ' H', Inv X pins σ' H' s' ∧ Q σ' H') X.xe s
section
variable {X : Cx} {pos : Pos}
def gName (i : Nat) : TG := fun v σ H Q => Q (σ.set i (some v)) H
theorem pg_name {i : Nat} {x : Str} (hN : X.N.Nodup) (hi : X.N[i]? = some x) (hx : Loc X.env.scope x) (hf : X.fn x = true ∨ X.env.scope.names.lookup x = some .local := by first | exact .inl rfl | exact .inr rfl | assumption) : PG X (.Name x pos) (gName i) := by
  intro pins s σ H v u Q I r h
  exact wpAny_assign_Name (store_ok I hN hi hx r (fun s' I' => ⟨_, H, I', h⟩) hf)
def gNil : TGs := fun vs σ H Q => vs = [] ∧ Q σ H
def gCons (t : TG) (u : TGs) : TGs := fun vs σ H Q => ∃ v r, vs = v :: r ∧ t v σ H fun σ' H' => u r σ' H' Q
theorem pgs_nil : PGs X [] gNil := by
  intro pins s σ H vs us Q I r h
  obtain ⟨e, h⟩ := h
  subst e
  cases r
  exact assignInOrder_nil ⟨σ, H, I, h⟩
theorem pgs_cons {e : Expr} {es : List Expr} {t : TG} {u : TGs} (h1 : PG X e t) (h2 : PGs X es u)
    (hs : (assignEach (e :: es) X.env).map (·.2) = assign e X.env :: (assignEach es X.env).map (·.2) := by rfl) : PGs X (e :: es) (gCons t u) := by
  intro pins s σ H vs us Q I r h
  obtain ⟨v, vr, e1, h⟩ := h
  subst e1
  cases r with
  | cons r rr =>
    rw [hs]
    refine assignInOrder_cons (thn (h1 pins s σ H _ _ _ I r h) fun _ s1 ⟨σ1, H1, I1, q1⟩ => ?_)
    exact h2 pins s1 σ1 H1 _ _ Q I1 rr q1
def gTup (K : PySem.W.Frag) (n : Nat) (t : TGs) : TG := fun v σ H Q => ∃ a xs, v = .ref a ∧ SqT K H a xs ∧ xs.length = n ∧ t xs σ H Q
theorem pg_tup {es : List Expr} {k : Nat} {t : TGs} {n : Nat} (hc : X.calm = true) (h : PGs X es t)
    (hn : (assignEach es X.env).length = n := by rfl) (hst : (assignEach es X.env).findIdx? (·.1) = none := by rfl) : PG X (.Tuple es k pos) (gTup X.K n t) := by
  intro pins s σ H v u Q I r hw
  obtain ⟨a, xs, e1, hq, hl, hw⟩ := hw
  subst e1
  cases r
  obtain ⟨its, rv, ht, hz⟩ := I.tuple hq
  refine assign_Tuple_tuple (I.ok.hd hc) ht (by simp [hn, ← hl, rv.length]) hst fun h' hx => ?_
  have I1 : Inv X pins σ H { s with heap := h' } := I.kept (t' := s.toks) fun b o e => hx b o (Nat.ne_of_lt (Heap.lt_size e)) e
  exact h pins _ σ H xs _ Q I1 (by simpa using rv) hw
def tAsg (te : TE) (g : TG) : TS := fun D σ H => te σ H fun x H1 => g x σ H1 D.nx
theorem ps_set {i : Nat} {x : Str} {e : Expr} {te : TE} {pos' : Pos} (hN : X.N.Nodup) (hi : X.N[i]? = some x) (hx : Loc X.env.scope x) (he : PE X e te) (hs : swapsWith e (some (.Name x pos')) pos.line X.env = pure false := by rfl) (hf : X.fn x = true ∨ X.env.scope.names.lookup x = some .local := by first | exact .inl rfl | exact .inr rfl | assumption) :
    PS X (.Assign [.Name x pos'] e pos) (tAsg te (gName i)) := by
  intro pins s σ H D I h
  refine wpAny_Assign_Name (thn (he pins s σ H _ I h) fun v s1 ⟨y, H1, I1, r1, q1⟩ => ?_) hs
  exact store_ok I1 hN hi hx r1 (fun s2 I2 => ⟨_, H1, I2, q1⟩) hf
end
section
variable {X : Cx} {pos : Pos}
def tWhile (c : TT) (tb : TS) : TS := fun D σ H => ∃ W : Nat → St → Hp → Prop, (∃ m, W m σ H) ∧ ∀ m σ H, W m σ H →
  c σ H fun b H1 => if b = true then ∃ N : St → Hp → Prop, (∀ σ' H', N σ' H' → ∃ m', m' < m ∧ W m' σ' H') ∧ tb { D with nx := N, ct := N, bk := D.nx } σ H1 else D.nx σ H1
theorem ps_while {c : Expr} {body : List Stmt} {tc : TT} {tb : TS} (hp : PassesOwn (model X.prog X.w) X.A X.env X.xe) (hc : PT X c tc) (hb : PSs X body tb) : PS X (.While c body [] pos) (tWhile tc tb) := by
  intro pins s σ H D I h
  obtain ⟨W, ⟨m0, w0⟩, turn⟩ := h
  refine wpAny_While (codeAny_whileLoop (fun n s' => ∃ σ' H', Inv X pins σ' H' s' ∧ W n σ' H') ?_ m0 ⟨σ, H, I, w0⟩)
  rintro n s1 ⟨σ1, H1, I1, w1⟩
  refine wpAny_passesOwn hp (thn (hc pins s1 σ1 H1 _ I1 (turn n σ1 H1 w1)) fun b s2 ⟨H2, I2, q2⟩ => ?_)
  cases b with
  | true =>
    obtain ⟨N, hN, q2⟩ := q2
    rw [if_pos rfl]
    refine wpAny_passesOwn hp (thn (hb pins s2 σ1 H2 _ I2 q2) fun f s3 q3 => ?_)
    cases f with
    | next =>
      obtain ⟨σ3, H3, I3, n3⟩ := q3
      obtain ⟨m', hm, w3⟩ := hN σ3 H3 n3
      exact ⟨m', hm, σ3, H3, I3, w3⟩
    | cont =>
      obtain ⟨σ3, H3, I3, n3⟩ := q3
      obtain ⟨m', hm, w3⟩ := hN σ3 H3 n3
      exact ⟨m', hm, σ3, H3, I3, w3⟩
    | brk => exact q3
    | ret v => exact q3
  | false =>
    rw [if_neg Bool.false_ne_true]
    exact wpAny_execs_nil ⟨σ1, H2, I2, q2⟩
end
structure It where
  go : Nat → Hp → Prop
  yld : Nat → Hp → V → Hp → Prop
  stop : Nat → Hp → Prop
def FpOk (X : Cx) (pins : List (Addr × Obj)) (H : Hp) (b : Addr) : Prop :=
  H b = none ∧ b ≠ X.env.locals ∧ b ∉ X.fs ∧ (b ∈ X.ex ∨ X.s_0.heap.objs.size ≤ b) ∧ (∀ x c, X.env.cells.lookup x = some c → c ≠ b) ∧ ∀ p ∈ X.pn ++ pins, p.1 ≠ b
theorem Inv.fpOk {X : Cx} {pins : List (Addr × Obj)} {σ : St} {H H' : Hp} {s : Shared} {b : Addr} (I : Inv X pins σ H s) (hb : s.heap.objs.size ≤ b) (hn : H' b = none) : FpOk X pins H' b := by
  refine ⟨hn, Nat.ne_of_gt (Nat.lt_of_lt_of_le I.lt hb), I.nofs hb, .inr (Nat.le_trans I.sz hb), fun x c e z => ?_, fun p hp z => ?_⟩
  · obtain ⟨v, q⟩ := I.cell x c e
    exact absurd (Nat.lt_of_lt_of_le q.lt (by rw [z]; exact hb)) (Nat.lt_irrefl _)
  · exact absurd (Nat.lt_of_lt_of_le (Heap.lt_size (I.pin p hp).1) (by rw [z]; exact hb)) (Nat.lt_irrefl _)
structure Turn (P : Program) (w : World) (K : PySem.W.Frag) (tg : Expr) (J : It) (fp : List Addr) (it : Addr) (tn : Nat → Heap → Prop) : Prop where
  mem : it ∈ fp
  obj : ∀ i h, tn i h → ∀ b ∈ fp, ∃ o, h.get? b = some o ∧ ∀ v, o.data ≠ .cell v
  keep : ∀ i h h', tn i h → (∀ b ∈ fp, ∀ o, h.get? b = some o → h'.get? b = some o) → tn i h'
  item : ∀ (X : Cx), X.prog = P → X.w = w → X.K = K → X.calm = true → ∀ (i : Nat) (pins : List (Addr × Obj)) (s : Shared) (σ : St) (H : Hp) (E : Value → Shared → Prop), Inv X pins σ H s → (∀ b ∈ fp, FpOk X pins H b) → tn i s.heap → J.go i H →
    wpAny (model P w) X.A (pyNext (.ref it)) (fun r s1 => ∃ u, r = some u ∧
      wpAny (model P w) X.A (letOwnedTupleGo tg (.ref it) u) (fun _ s2 => ∃ x H', Inv X pins σ H' s2 ∧ RelV x u ∧ J.yld i H x H' ∧ tn (i + 1) s2.heap ∧ ∀ b ∈ fp, H' b = none) E s1) E s
  done : ∀ (X : Cx), X.prog = P → X.w = w → X.K = K → X.calm = true → ∀ (i : Nat) (pins : List (Addr × Obj)) (s : Shared) (σ : St) (H : Hp) (E : Value → Shared → Prop), Inv X pins σ H s → (∀ b ∈ fp, FpOk X pins H b) → tn i s.heap → J.stop i H →
    wpAny (model P w) X.A (pyNext (.ref it)) (fun r s1 => r = none ∧ Inv X pins σ H s1) E s
  self : ∀ (A : Around) (i : Nat) (s : Shared) (Q : Value → Shared → Prop) (E : Value → Shared → Prop), tn i s.heap → Q (.ref it) s → wpAny (model P w) A (pyIter (.ref it)) Q E s
abbrev TI := St → Hp → (It → Hp → Prop) → Prop
def PIE (X : Cx) (pins : List (Addr × Obj)) (σ : St) (tg : Expr) (R : It → Hp → Prop) (itv : Value) (s2 : Shared) : Prop :=
  ∃ (it : Addr) (fp : List Addr) (tn : Nat → Heap → Prop) (J : It) (H' : Hp), itv = .ref it ∧ Inv X pins σ H' s2 ∧ Turn X.prog X.w X.K tg J fp it tn ∧ tn 0 s2.heap ∧ (∀ b ∈ fp, FpOk X pins H' b) ∧ R J H'
def PI (X : Cx) (tg iter : Expr) (wi : TI) : Prop :=
  ∀ (pins : List (Addr × Obj)) (s : Shared) (σ : St) (H : Hp) (R : It → Hp → Prop), Inv X pins σ H s → wi σ H R →
    wpAny (model X.prog X.w) X.A (eval iter X.env) (fun v s1 => wpAny (model X.prog X.w) X.A (pyIter v) (PIE X pins σ tg R) X.xe s1) X.xe s
theorem go_of {M : Model} {A : Around} {E : Value → Shared → Prop} {s : Shared} {tg : Expr} {it : Addr} {u : Value} {o : Obj} {n : String} {vs : Array Value} {Q : Unit → Shared → Prop} (ho : s.heap.get? it = some o) (hc : o.cls = .type n) (hd : o.data = .fields vs)
    (hn : ["enumerate", "zip", "dict_itemiterator", "dict_reverseitemiterator", "odict_iterator", "itertools.zip_longest", "itertools.pairwise"].contains n = false) (hQ : Q () s) : wpAny M A (letOwnedTupleGo tg (.ref it) u) Q E s := by
  unfold letOwnedTupleGo
  cases tg <;> first
    | exact wpAny_pure hQ
    | (cases u <;> first
        | exact wpAny_pure hQ
        | (refine wpAny_bind (wpAny_load ho ?_)
           rw [hc, hd]
           show wpAny M A (if (["enumerate", "zip", "dict_itemiterator", "dict_reverseitemiterator", "odict_iterator", "itertools.zip_longest", "itertools.pairwise"].contains n && vs[0]? == some (rawInt _)) = true then _ else _) Q E s
           rw [if_neg (by intro h; rw [hn, Bool.false_and] at h; cases h)]
           exact wpAny_pure hQ))
def Itl (K : PySem.W.Frag) (a : Addr) : It :=
  ⟨fun i H => ∃ xs x, SqL K H a xs ∧ xs[i]? = some x, fun i H x H' => H' = H ∧ ∀ xs, SqL K H a xs → xs[i]? = some x, fun i H => ∃ xs, SqL K H a xs ∧ xs.length ≤ i⟩
def Itt (K : PySem.W.Frag) (a : Addr) : It :=
  ⟨fun i H => ∃ xs x, SqT K H a xs ∧ xs[i]? = some x, fun i H x H' => H' = H ∧ ∀ xs, SqT K H a xs → xs[i]? = some x, fun i H => ∃ xs, SqT K H a xs ∧ xs.length ≤ i⟩
def Itr (lo : Int) (n : Nat) : It := ⟨fun i _ => i < n, fun i H x H' => H' = H ∧ x = .int (lo + i), fun i _ => n ≤ i⟩
theorem turn_list {P : Program} {w : World} {K : PySem.W.Frag} {tg : Expr} (a it : Addr) : Turn P w K tg (Itl K a) [it] it (fun i h => h.IsListIter it a i) where
  mem := by simp
  obj := fun i h st b hb => by
    have e : b = it := by simpa using hb
    subst e
    obtain ⟨o, e, c, d⟩ := st
    exact ⟨o, e, fun v z => by rw [d] at z; cases z⟩
  keep := fun i h h' st k => st.at fun o e => k it (by simp) o e
  item := by
    intro X hP hw hK hc i pins s σ H E I hf st hg
    subst hP hw hK
    obtain ⟨xs, x, hq, hx⟩ := hg
    obtain ⟨its, rv, p, hz⟩ := I.list hq
    obtain ⟨u, hu, ru⟩ := rv.get hx
    obtain ⟨f0, f1, f2, f3, f4, f5⟩ := hf it (by simp)
    refine wpAny_pyNext_list_item st p.isList (x := u) (by simpa using hu) fun h' st' sb => ?_
    have I1 : Inv X pins σ H { s with heap := h' } := I.turned (t' := s.toks) (fun b o hb e => (sb.2 b hb).trans e) f0 f1 f3 f4 f5
    obtain ⟨o, e, c, d⟩ := id st'
    exact ⟨u, rfl, go_of (s := { s with heap := h' }) e c d (by decide) ⟨x, H, I1, ru, ⟨rfl, fun ys hy => by rw [I.list_inj hy hq]; exact hx⟩, st', fun b hb => (hf b hb).1⟩⟩
  done := by
    intro X hP hw hK hc i pins s σ H E I hf st hg
    subst hP hw hK
    obtain ⟨xs, hq, hx⟩ := hg
    obtain ⟨its, rv, p, hz⟩ := I.list hq
    obtain ⟨f0, f1, f2, f3, f4, f5⟩ := hf it (by simp)
    have hl := rv.length
    exact wpAny_pyNext_list_end (I.ok.hd hc) st p.isList (by simp; omega) fun h' eb => ⟨rfl, I.turned (t' := s.toks) (fun b o hb e => eb b o hb e) f0 f1 f3 f4 f5⟩
  self := fun _ _ _ _ _ st h => wpAny_pyIter_listiter st h
theorem turn_tuple {P : Program} {w : World} {K : PySem.W.Frag} {tg : Expr} (a it : Addr) : Turn P w K tg (Itt K a) [it] it (fun i h => h.IsTupleIter it a i) where
  mem := by simp
  obj := fun i h st b hb => by
    have e : b = it := by simpa using hb
    subst e
    obtain ⟨o, e, c, d⟩ := st
    exact ⟨o, e, fun v z => by rw [d] at z; cases z⟩
  keep := fun i h h' st k => st.at fun o e => k it (by simp) o e
  item := by
    intro X hP hw hK hc i pins s σ H E I hf st hg
    subst hP hw hK
    obtain ⟨xs, x, hq, hx⟩ := hg
    obtain ⟨its, rv, p, hz⟩ := I.tuple hq
    obtain ⟨u, hu, ru⟩ := rv.get hx
    obtain ⟨f0, f1, f2, f3, f4, f5⟩ := hf it (by simp)
    refine wpAny_pyNext_tuple_item st (show s.heap.IsTuple a its.toArray from p) (x := u) (by simpa using hu) fun h' st' sb => ?_
    have I1 : Inv X pins σ H { s with heap := h' } := I.turned (t' := s.toks) (fun b o hb e => (sb.2 b hb).trans e) f0 f1 f3 f4 f5
    obtain ⟨o, e, c, d⟩ := id st'
    exact ⟨u, rfl, go_of (s := { s with heap := h' }) e c d (by decide) ⟨x, H, I1, ru, ⟨rfl, fun ys hy => by rw [I.tuple_inj hy hq]; exact hx⟩, st', fun b hb => (hf b hb).1⟩⟩
  done := by
    intro X hP hw hK hc i pins s σ H E I hf st hg
    subst hP hw hK
    obtain ⟨xs, hq, hx⟩ := hg
    obtain ⟨its, rv, p, hz⟩ := I.tuple hq
    obtain ⟨f0, f1, f2, f3, f4, f5⟩ := hf it (by simp)
    have hl := rv.length
    exact wpAny_pyNext_tuple_end (I.ok.hd hc) st (show s.heap.IsTuple a its.toArray from p) (by simp; omega) fun h' eb => ⟨rfl, I.turned (t' := s.toks) (fun b o hb e => eb b o hb e) f0 f1 f3 f4 f5⟩
  self := fun _ _ _ _ _ st h => wpAny_pyIter_tupleiter st h
theorem turn_range {P : Program} {w : World} {K : PySem.W.Frag} {tg : Expr} (it : Addr) (lo : Int) (n : Nat) : Turn P w K tg (Itr lo n) [it] it (fun i h => IsRangeIter h it (lo + (i : Nat) * 1) ((n : Int) - (i : Nat)) 1) where
  mem := by simp
  obj := fun i h st b hb => by
    have e : b = it := by simpa using hb
    subst e
    exact ⟨_, st, fun v z => by
      have z' : Data.fields _ = Data.cell v := z
      cases z'⟩
  keep := fun i h h' st k => k it (by simp) _ st
  item := by
    intro X hP hw hK hc i pins s σ H E I hf st hg
    subst hP hw hK
    obtain ⟨f0, f1, f2, f3, f4, f5⟩ := hf it (by simp)
    have W := Walks.range (prog := X.prog) (w := X.w) (I.ok.hd hc) it lo 1 n
    refine W.item i s _ _ hg st fun v h' tk hv st' kk => ?_
    obtain ⟨t, rfl⟩ := hv
    have I1 : Inv X pins σ H { s with heap := h', toks := tk } := I.turned (fun b o hb e => kk b o (by simpa using hb) e) f0 f1 f3 f4 f5
    refine ⟨_, rfl, go_of (s := { s with heap := h', toks := tk }) (n := "range_iterator") st' rfl rfl (by decide) ⟨.int (lo + i), H, I1, ⟨t, ?_⟩, ⟨rfl, rfl⟩, st', fun b hb => (hf b hb).1⟩⟩
    rw [Int.mul_one]
  done := by
    intro X hP hw hK hc i pins s σ H E I hf st hg
    subst hP hw hK
    obtain ⟨f0, f1, f2, f3, f4, f5⟩ := hf it (by simp)
    exact wpAny_pyNext_range_end (I.ok.hd hc) st (by have : n ≤ i := hg; omega) fun h' eb => ⟨rfl, I.turned (t' := s.toks) (fun b o hb e => eb b o hb e) f0 f1 f3 f4 f5⟩
  self := fun _ _ _ _ _ st h => wpAny_pyIter_rangeiter st h
end L2
namespace L2
open PySem PySem.Spec PyProof.Rows
section
variable {X : Cx} {tg : Expr}
def iList (K : PySem.W.Frag) (tl : TE) : TI := fun σ H R => tl σ H fun x H1 => ∃ a, x = .ref a ∧ (∃ xs, SqL K H1 a xs) ∧ R (Itl K a) H1
def iTup (K : PySem.W.Frag) (tl : TE) : TI := fun σ H R => tl σ H fun x H1 => ∃ a, x = .ref a ∧ (∃ xs, SqT K H1 a xs) ∧ R (Itt K a) H1
theorem pi_list {l : Expr} {tl : TE} (hl : PE X l tl) : PI X tg l (iList X.K tl) := by
  intro pins s σ H R I h
  refine thn (hl pins s σ H _ I h) fun v s1 ⟨x, H1, I1, r1, q1⟩ => ?_
  obtain ⟨a, e, ⟨xs, hq⟩, q⟩ := q1
  subst e
  cases r1
  obtain ⟨its, rv, p, hz⟩ := I1.list hq
  refine wpAny_pyIter_list p.isList ?_
  refine ⟨s1.heap.objs.size, [s1.heap.objs.size], _, _, H1, rfl, I1.kept (t' := s1.toks) fun b o e => Heap.get?_push_of_some _ e, turn_list a _, ⟨_, Heap.get?_push_size _ rfl, rfl, rfl⟩, fun b hb => ?_, q⟩
  have e : b = s1.heap.objs.size := by simpa using hb
  subst e
  exact I1.fpOk (Nat.le_refl _) (I1.hok.fresh (Nat.le_refl _))
theorem pi_tup {l : Expr} {tl : TE} (hl : PE X l tl) : PI X tg l (iTup X.K tl) := by
  intro pins s σ H R I h
  refine thn (hl pins s σ H _ I h) fun v s1 ⟨x, H1, I1, r1, q1⟩ => ?_
  obtain ⟨a, e, ⟨xs, hq⟩, q⟩ := q1
  subst e
  cases r1
  obtain ⟨its, rv, p, hz⟩ := I1.tuple hq
  refine wpAny_pyIter_tuple (show s1.heap.IsTuple a its.toArray from p) ?_
  refine ⟨s1.heap.objs.size, [s1.heap.objs.size], _, _, H1, rfl, I1.kept (t' := s1.toks) fun b o e => Heap.get?_push_of_some _ e, turn_tuple a _, ⟨_, Heap.get?_push_size _ rfl, rfl, rfl⟩, fun b hb => ?_, q⟩
  have e : b = s1.heap.objs.size := by simpa using hb
  subst e
  exact I1.fpOk (Nat.le_refl _) (I1.hok.fresh (Nat.le_refl _))
theorem range_it {pins : List (Addr × Obj)} {σ : St} {H : Hp} {s : Shared} {R : It → Hp → Prop} {E : Value → Shared → Prop} {lo hi : Int} {t u v : Tok} {tk : Nat} (I : Inv X pins σ H s) (h1 : -(2 ^ 62) ≤ lo) (h2 : lo < 2 ^ 62) (h3 : -(2 ^ 62) ≤ hi) (h4 : hi < 2 ^ 62)
    (q : R (Itr lo (hi - lo).toNat) H) : wpAny (model X.prog X.w) X.A (pyIter (.ref s.heap.objs.size)) (PIE X pins σ tg R) E { s with heap := s.heap.push { cls := .type "range", data := .fields #[.int lo t, .int hi u, .int 1 v] }, toks := tk } := by
  refine wpAny_pyIter_range (IsRange.new ..) (small_one h1 h2 h3 h4) ?_
  have I1 : Inv X pins σ H { s with heap := s.heap.push { cls := .type "range", data := .fields #[.int lo t, .int hi u, .int 1 v] }, toks := tk } := I.kept fun b o e => Heap.get?_push_of_some _ e
  refine ⟨(s.heap.push { cls := .type "range", data := .fields #[.int lo t, .int hi u, .int 1 v] }).objs.size, [(s.heap.push { cls := .type "range", data := .fields #[.int lo t, .int hi u, .int 1 v] }).objs.size], _, _, H, rfl,
    I1.kept (t' := tk) fun b o e => Heap.get?_push_of_some _ e, turn_range _ lo (hi - lo).toNat, ?_, fun b hb => ?_, q⟩
  · have e1 : lo + ((0 : Nat) : Int) * 1 = lo := by simp
    have e2 : (((hi - lo).toNat : Nat) : Int) - ((0 : Nat) : Int) = Builtin.Range.rangeSize lo hi 1 := by rw [rangeSize_one]; split <;> omega
    show IsRangeIter _ _ (lo + ((0 : Nat) : Int) * 1) ((((hi - lo).toNat : Nat) : Int) - ((0 : Nat) : Int)) 1
    rw [e1, e2]
    exact Heap.get?_push_size _ rfl
  · have e : b = (s.heap.push { cls := .type "range", data := .fields #[.int lo t, .int hi u, .int 1 v] }).objs.size := by simpa using hb
    subst e
    exact I1.fpOk (Nat.le_refl _) (I1.hok.fresh (Nat.le_refl _))
def iRng1 (ta : TA) : TI := fun σ H R => ta σ H fun vs H1 => ∃ j : Int, vs = [.int j] ∧ -(2 ^ 62) ≤ j ∧ j < 2 ^ 62 ∧ R (Itr 0 j.toNat) H1
theorem pi_range1 {a : Expr} {ta : TA} {p pos : Pos} (hg : Gl X "range") (hm : X.mg "range" = none) (ha : PA X [a] ta) (hs : starEach [a] X.env = [(false, eval a X.env)] := by rfl) : PI X tg (.Call (.Name "range" p) [a] [] pos) (iRng1 ta) := by
  intro pins s σ H R I h
  refine Call_ (ld_blt I hg hm boot_range (PyProof.Rows.callWith_type1 (thn (ha pos pins s σ H _ I h) fun us s1 ⟨vs, H1, I1, r1, q1⟩ => ?_) hs rfl))
  obtain ⟨j, e, q1, q2, q⟩ := q1
  subst e
  cases r1 with
  | cons r rr =>
    cases rr
    obtain ⟨t, rfl⟩ := r
    exact call_range_1 (range_it I1 (by omega) (by omega) q1 q2 (by simpa using q))
def tFor (wi : TI) (g : TG) (tb : TS) : TS := fun D σ H => wi σ H fun J H1 => ∃ W : Nat → Nat → St → Hp → Prop, (∃ m, W 0 m σ H1) ∧ ∀ i m σ H, W i m σ H →
  (J.stop i H ∧ D.nx σ H) ∨ (J.go i H ∧ ∃ N : St → Hp → Prop, (∀ σ' H', N σ' H' → ∃ m', m' < m ∧ W (i + 1) m' σ' H') ∧ ∀ x H', J.yld i H x H' → g x σ H' fun σ2 H2 => tb { D with nx := N, ct := N, bk := D.nx } σ2 H2)
def pinsAt (fp : List Addr) (h : Heap) : List (Addr × Obj) := fp.filterMap fun b => (h.get? b).map fun o => (b, o)
theorem mem_pinsAt {fp : List Addr} {h : Heap} {b : Addr} {o : Obj} (hb : b ∈ fp) (e : h.get? b = some o) : (b, o) ∈ pinsAt fp h := List.mem_filterMap.mpr ⟨b, hb, by rw [e]; rfl⟩
theorem of_pinsAt {fp : List Addr} {h : Heap} {p : Addr × Obj} (hp : p ∈ pinsAt fp h) : p.1 ∈ fp ∧ h.get? p.1 = some p.2 := by
  obtain ⟨b, hb, e⟩ := List.mem_filterMap.mp hp
  cases q : h.get? b with
  | none => rw [q] at e; cases e
  | some o =>
    rw [q] at e
    have e' : (b, o) = p := Option.some.inj e
    subst e'
    exact ⟨hb, q⟩
theorem Inv.pinned {pins : List (Addr × Obj)} {σ : St} {H : Hp} {s : Shared} {fp : List Addr} (I : Inv X pins σ H s) (hf : ∀ b ∈ fp, FpOk X pins H b) (ho : ∀ b ∈ fp, ∃ o, s.heap.get? b = some o ∧ ∀ v, o.data ≠ .cell v) : Inv X (pins ++ pinsAt fp s.heap) σ H s :=
  I.pins_of fun p hp => (List.mem_append.mp hp).elim (fun z => I.pin p (List.mem_append_right _ z)) fun z => by
    obtain ⟨hb, e⟩ := of_pinsAt z
    obtain ⟨f0, f1, f2, _⟩ := hf p.1 hb
    obtain ⟨o, e', d⟩ := ho p.1 hb
    rw [e] at e'; cases e'
    exact ⟨e, f0, f1, f2, d⟩
theorem Inv.unpinned {pins pl : List (Addr × Obj)} {σ : St} {H : Hp} {s : Shared} (I : Inv X (pins ++ pl) σ H s) : Inv X pins σ H s := I.pins_of fun p hp => I.pin p (List.mem_append_right _ (List.mem_append_left _ hp))
theorem ps_for {iter : Expr} {body : List Stmt} {wi : TI} {g : TG} {tb : TS} {pos : Pos} (hp : PassesOwn (model X.prog X.w) X.A X.env X.xe) (hc : X.calm = true) (hi : PI X tg iter wi) (hg : PG X tg g) (hb : PSs X body tb)
    (hs : ∀ x, foldedSetIterable iter X.env x = pure x := by intro _; rfl) : PS X (.For tg iter body [] pos) (tFor wi g tb) := by
  intro pins s σ H D I h
  refine wpAny_For (thn (hi pins s σ H _ I h) fun v s1 h1 => thn h1 fun itv s2 h2 => ?_) hs
  obtain ⟨it, fp, tn, J, H2, e, I2, T, st2, f2, W, ⟨m0, w0⟩, turn⟩ := h2
  subst e
  have stat : ∀ {H' : Hp}, (∀ b ∈ fp, H' b = none) → ∀ b ∈ fp, FpOk X pins H' b := fun hn b hb => ⟨hn b hb, (f2 b hb).2⟩
  refine codeAny_forLoop_any (fun n s' => ∃ i σ' H', Inv X pins σ' H' s' ∧ tn i s'.heap ∧ (∀ b ∈ fp, H' b = none) ∧ W i n σ' H') ?_ m0 ⟨0, σ, H2, I2, st2, fun b hb => (f2 b hb).1, w0⟩
  rintro n s3 ⟨i, σ3, H3, I3, st3, fr3, w3⟩
  rcases turn i n σ3 H3 w3 with ⟨stop, qn⟩ | ⟨go, N, hN, step⟩
  · refine wpAny_passesOwn hp (thn (T.done X rfl rfl rfl hc i pins s3 σ3 H3 X.xe I3 (stat fr3) st3 stop) fun r s4 ⟨hr, I4⟩ => ?_)
    subst hr
    exact wpAny_execs_nil ⟨σ3, H3, I4, qn⟩
  · refine wpAny_passesOwn hp (thn (T.item X rfl rfl rfl hc i pins s3 σ3 H3 X.xe I3 (stat fr3) st3 go) fun r s4 ⟨u, hr, h4⟩ => ?_)
    subst hr
    refine wpAny_passesOwn hp (thn h4 fun _ s5 ⟨x, H5, I5, r5, y5, st5, fr5⟩ => ?_)
    have I5' := I5.pinned (stat fr5) (T.obj _ _ st5)
    refine wpAny_passesOwn hp (thn (hg _ s5 σ3 H5 x u _ I5' r5 (step x H5 y5)) fun _ s6 ⟨σ6, H6, I6, q6⟩ => ?_)
    refine wpAny_passesOwn hp (thn (hb _ s6 σ6 H6 _ I6 q6) fun f s7 q7 => ?_)
    have again : ∀ {σ7 : St} {H7 : Hp}, Inv X (pins ++ pinsAt fp s5.heap) σ7 H7 s7 → N σ7 H7 → ∃ m, m < n ∧ ∃ i σ' H', Inv X pins σ' H' s7 ∧ tn i s7.heap ∧ (∀ b ∈ fp, H' b = none) ∧ W i m σ' H' := fun {σ7 H7} I7 n7 => by
      obtain ⟨m', hm, w7⟩ := hN σ7 H7 n7
      refine ⟨m', hm, i + 1, σ7, H7, I7.unpinned, T.keep _ _ _ st5 fun b hb o e => (I7.pin (b, o) (List.mem_append_right _ (List.mem_append_right _ (mem_pinsAt hb e)))).1, fun b hb => ?_, w7⟩
      obtain ⟨o, e, d⟩ := T.obj _ _ st5 b hb
      exact (I7.pin (b, o) (List.mem_append_right _ (List.mem_append_right _ (mem_pinsAt hb e)))).2.1
    cases f with
    | next => obtain ⟨σ7, H7, I7, n7⟩ := q7; exact again I7 n7
    | cont => obtain ⟨σ7, H7, I7, n7⟩ := q7; exact again I7 n7
    | brk => obtain ⟨σ7, H7, I7, q7⟩ := q7; exact ⟨σ7, H7, I7.unpinned, q7⟩
    | ret v => obtain ⟨x7, σ7, H7, I7, r7, q7⟩ := q7; exact ⟨x7, σ7, H7, I7.unpinned, r7, q7⟩
end
theorem for_list {K : PySem.W.Frag} {a : Addr} {xs : List V} {g : TG} {tb : TS} {D : Ends} {σ : St} {H : Hp} (Pv : Nat → St → Hp → Prop) (h0 : Pv 0 σ H) (hl : ∀ i σ H, i ≤ xs.length → Pv i σ H → SqL K H a xs)
    (hs : ∀ i x σ H, xs[i]? = some x → Pv i σ H → g x σ H fun σ2 H2 => tb { D with nx := Pv (i + 1), ct := Pv (i + 1), bk := D.nx } σ2 H2) (hd : ∀ σ H, Pv xs.length σ H → D.nx σ H) :
    ∃ W : Nat → Nat → St → Hp → Prop, (∃ m, W 0 m σ H) ∧ ∀ i m σ H, W i m σ H →
      ((Itl K a).stop i H ∧ D.nx σ H) ∨ ((Itl K a).go i H ∧ ∃ N : St → Hp → Prop, (∀ σ' H', N σ' H' → ∃ m', m' < m ∧ W (i + 1) m' σ' H') ∧ ∀ x H', (Itl K a).yld i H x H' → g x σ H' fun σ2 H2 => tb { D with nx := N, ct := N, bk := D.nx } σ2 H2) := by
  refine ⟨fun i m σ H => m = xs.length - i ∧ i ≤ xs.length ∧ Pv i σ H, ⟨xs.length, by simp, Nat.zero_le _, h0⟩, ?_⟩
  rintro i m σ H ⟨rfl, hi, p⟩
  have q := hl i σ H hi p
  by_cases hlt : i < xs.length
  · refine .inr ⟨⟨xs, xs[i], q, by simp [hlt]⟩, Pv (i + 1), fun σ' H' p' => ⟨xs.length - (i + 1), by omega, rfl, hlt, p'⟩, fun x H' y => ?_⟩
    obtain ⟨e, y⟩ := y
    subst e
    exact hs i x σ _ (y xs q) p
  · have e : i = xs.length := by omega
    subst e
    exact .inl ⟨⟨xs, q, Nat.le_refl _⟩, hd σ H p⟩
theorem for_tup {K : PySem.W.Frag} {a : Addr} {xs : List V} {g : TG} {tb : TS} {D : Ends} {σ : St} {H : Hp} (Pv : Nat → St → Hp → Prop) (h0 : Pv 0 σ H) (hl : ∀ i σ H, i ≤ xs.length → Pv i σ H → SqT K H a xs)
    (hs : ∀ i x σ H, xs[i]? = some x → Pv i σ H → g x σ H fun σ2 H2 => tb { D with nx := Pv (i + 1), ct := Pv (i + 1), bk := D.nx } σ2 H2) (hd : ∀ σ H, Pv xs.length σ H → D.nx σ H) :
    ∃ W : Nat → Nat → St → Hp → Prop, (∃ m, W 0 m σ H) ∧ ∀ i m σ H, W i m σ H →
      ((Itt K a).stop i H ∧ D.nx σ H) ∨ ((Itt K a).go i H ∧ ∃ N : St → Hp → Prop, (∀ σ' H', N σ' H' → ∃ m', m' < m ∧ W (i + 1) m' σ' H') ∧ ∀ x H', (Itt K a).yld i H x H' → g x σ H' fun σ2 H2 => tb { D with nx := N, ct := N, bk := D.nx } σ2 H2) := by
  refine ⟨fun i m σ H => m = xs.length - i ∧ i ≤ xs.length ∧ Pv i σ H, ⟨xs.length, by simp, Nat.zero_le _, h0⟩, ?_⟩
  rintro i m σ H ⟨rfl, hi, p⟩
  have q := hl i σ H hi p
  by_cases hlt : i < xs.length
  · refine .inr ⟨⟨xs, xs[i], q, by simp [hlt]⟩, Pv (i + 1), fun σ' H' p' => ⟨xs.length - (i + 1), by omega, rfl, hlt, p'⟩, fun x H' y => ?_⟩
    obtain ⟨e, y⟩ := y
    subst e
    exact hs i x σ _ (y xs q) p
  · have e : i = xs.length := by omega
    subst e
    exact .inl ⟨⟨xs, q, Nat.le_refl _⟩, hd σ H p⟩
theorem for_range {lo : Int} {n : Nat} {g : TG} {tb : TS} {D : Ends} {σ : St} {H : Hp} (Pv : Nat → St → Hp → Prop) (h0 : Pv 0 σ H)
    (hs : ∀ i σ H, i < n → Pv i σ H → g (.int (lo + i)) σ H fun σ2 H2 => tb { D with nx := Pv (i + 1), ct := Pv (i + 1), bk := D.nx } σ2 H2) (hd : ∀ σ H, Pv n σ H → D.nx σ H) :
    ∃ W : Nat → Nat → St → Hp → Prop, (∃ m, W 0 m σ H) ∧ ∀ i m σ H, W i m σ H →
      ((Itr lo n).stop i H ∧ D.nx σ H) ∨ ((Itr lo n).go i H ∧ ∃ N : St → Hp → Prop, (∀ σ' H', N σ' H' → ∃ m', m' < m ∧ W (i + 1) m' σ' H') ∧ ∀ x H', (Itr lo n).yld i H x H' → g x σ H' fun σ2 H2 => tb { D with nx := N, ct := N, bk := D.nx } σ2 H2) := by
  refine ⟨fun i m σ H => m = n - i ∧ i ≤ n ∧ Pv i σ H, ⟨n, by simp, Nat.zero_le _, h0⟩, ?_⟩
  rintro i m σ H ⟨rfl, hi, p⟩
  by_cases hlt : i < n
  · refine .inr ⟨hlt, Pv (i + 1), fun σ' H' p' => ⟨n - (i + 1), by omega, rfl, hlt, p'⟩, fun x H' y => ?_⟩
    obtain ⟨e, y⟩ := y
    subst e y
    exact hs i σ _ hlt p
  · have e : i = n := by omega
    subst e
    exact .inl ⟨Nat.le_refl _, hd σ H p⟩
end L2
namespace L2
open PySem PySem.Spec PyProof.Rows
abbrev R2 := V → V → Hp → VK → Prop
def OpR (X : Cx) (f : Value → Value → Sem Value) (r : R2) : Prop :=
  ∀ (pins : List (Addr × Obj)) (s : Shared) (σ : St) (H : Hp) (x y : V) (v u : Value) (Q : VK), Inv X pins σ H s → RelV x v → RelV y u → r x y H Q →
    wpAny (model X.prog X.w) X.A (f v u) (EP X pins σ Q) X.xe s
def CallR (X : Cx) (f : Value) (r : List V → Hp → VK → Prop) : Prop :=
  ∀ (pins : List (Addr × Obj)) (s : Shared) (σ : St) (H : Hp) (xs : List V) (us : List Value) (Q : VK), Inv X pins σ H s → Vals xs us → r xs H Q →
    wpAny (model X.prog X.w) X.A (call f us) (EP X pins σ Q) X.xe s
def tOp (r : R2) (ta tb : TE) : TE := fun σ H Q => ta σ H fun x H1 => tb σ H1 fun y H2 => r x y H2 Q
def rI0 (g : Int → Int → V) : R2 := fun x y H Q => ∃ i j, x = .int i ∧ y = .int j ∧ Q (g i j) H
section
variable {X : Cx} {a b c : Expr} {ta tb tc : TE} {pos : Pos}
theorem binT (ha : PE X a ta) (hb : PE X b tb) {pins : List (Addr × Obj)} {s : Shared} {σ : St} {H : Hp} {R : V → V → Hp → Prop} (I : Inv X pins σ H s)
    (h : ta σ H fun x H1 => tb σ H1 fun y H2 => R x y H2) {Q : Value → Shared → Prop} {f : Value → Value → Sem Value}
    (hf : ∀ v u s2 x y H2, Inv X pins σ H2 s2 → RelV x v → RelV y u → R x y H2 → wpAny (model X.prog X.w) X.A (f v u) Q X.xe s2) :
    wpAny (model X.prog X.w) X.A (eval a X.env) (fun v s₁ => wpAny (model X.prog X.w) X.A (eval b X.env) (fun u s₂ => wpAny (model X.prog X.w) X.A (f v u) Q X.xe s₂) X.xe s₁) X.xe s := by
  refine thn (ha pins s σ H _ I h) fun v s1 ⟨x, H1, I1, r1, q1⟩ => ?_
  refine thn (hb pins s1 σ H1 _ I1 q1) fun u s2 ⟨y, H2, I2, r2, q2⟩ => ?_
  exact hf v u s2 x y H2 I2 r1 r2 q2
theorem pe_op {op : Operator} {r : R2} (ho : OpR X (binaryOp op) r) (ha : PE X a ta) (hb : PE X b tb) : PE X (.BinOp a op b pos) (tOp r ta tb) := by
  intro pins s σ H Q I h
  exact wpAny_BinOp (binT ha hb I h fun v u s2 x y H2 I2 rx ry q => ho pins s2 σ H2 x y v u Q I2 rx ry q)
theorem opI0 {f : Value → Value → Sem Value} {g : Int → Int → Int}
    (rule : ∀ (i j : Int) (t u : Tok) (s : Shared) (Q : Value → Shared → Prop) (E : Value → Shared → Prop), Q (.int (g i j) s.toks) { s with toks := s.toks + 1 } → wpAny (model X.prog X.w) X.A (f (.int i t) (.int j u)) Q E s) :
    OpR X f (rI0 fun i j => .int (g i j)) := by
  intro pins s σ H x y v u Q I rx ry h
  obtain ⟨i, j, rfl, rfl, q⟩ := h
  obtain ⟨t, rfl⟩ := rx
  obtain ⟨t', rfl⟩ := ry
  exact rule i j t t' s _ _ ⟨.int (g i j), H, I.tok _, ⟨_, rfl⟩, q⟩
theorem opB0 {f : Value → Value → Sem Value} {g : Int → Int → Bool}
    (rule : ∀ (i j : Int) (t u : Tok) (s : Shared) (Q : Value → Shared → Prop) (E : Value → Shared → Prop), Q (.bool (g i j)) s → wpAny (model X.prog X.w) X.A (f (.int i t) (.int j u)) Q E s) :
    OpR X f (rI0 fun i j => .bl (g i j)) := by
  intro pins s σ H x y v u Q I rx ry h
  obtain ⟨i, j, rfl, rfl, q⟩ := h
  obtain ⟨t, rfl⟩ := rx
  obtain ⟨t', rfl⟩ := ry
  exact rule i j t t' s _ _ ⟨.bl (g i j), H, I, rfl, q⟩
theorem op_sub : OpR X (binaryOp .Sub) (rI0 fun i j => .int (i - j)) := opI0 fun _ _ _ _ _ _ _ q => sub_int q
end
def scal : V → V → Bool
  | .non, .non => true | .non, .int _ => true | .int _, .non => true | .non, .bl _ => true | .bl _, .non => true | .non, .str _ => true | .str _, .non => true
  | .int _, .int _ => true | .bl _, .bl _ => true | .str _, .str _ => true | .byt _, .byt _ => true
  | .int _, .str _ => true | .str _, .int _ => true | .bl _, .str _ => true | .str _, .bl _ => true
  | _, _ => false
def rEq : R2 := fun x y H Q => scal x y = true ∧ Q (.bl (decide (x = y))) H
def rNe : R2 := fun x y H Q => scal x y = true ∧ Q (.bl (!decide (x = y))) H
theorem dec_int {i j : Int} : decide (V.int i = V.int j) = (i == j) := by
  rw [Bool.eq_iff_iff]
  simp
theorem dec_bl {i j : Bool} : decide (V.bl i = V.bl j) = (i == j) := by
  rw [Bool.eq_iff_iff]
  simp
theorem dec_str {i j : Str} : decide (V.str i = V.str j) = (i == j) := by
  rw [Bool.eq_iff_iff]
  simp
theorem dec_byt {i j : Array UInt8} : decide (V.byt i = V.byt j) = (i.toList == j.toList) := by
  rw [Bool.eq_iff_iff]
  cases i
  cases j
  simp
section
variable {X : Cx} {a b c : Expr} {ta tb tc : TE} {pos : Pos}
theorem fin_bl {pins : List (Addr × Obj)} {σ : St} {H : Hp} {s : Shared} {Q : VK} {k k' : Bool} (I : Inv X pins σ H s) (q : Q (.bl k) H) (e : k = k') : EP X pins σ Q (.bool k') s := by
  subst e
  exact ⟨.bl k, H, I, rfl, q⟩
theorem op_eq : OpR X (compareOp .Eq) rEq := by
  intro pins s σ H x y v u Q I rx ry h
  obtain ⟨hs, q⟩ := h
  cases x with
  | non =>
    cases rx
    cases y with
    | non => cases ry; exact PySem.EqNone.eq_none_none (fin_bl I q (by simp))
    | bl j => cases ry; exact PySem.EqNone.eq_none_bool (fin_bl I q (by simp))
    | int j => obtain ⟨t', rfl⟩ := ry; exact PySem.EqNone.eq_none_int (fin_bl I q (by simp))
    | str j => obtain ⟨t', rfl⟩ := ry; exact PySem.EqNone.eq_none_str (fin_bl I q (by simp))
    | _ => exact absurd (show false = true from hs) Bool.false_ne_true
  | bl i =>
    cases rx
    cases y with
    | non => cases ry; exact PySem.EqNone.eq_bool_none (fin_bl I q (by simp))
    | bl j => cases ry; exact eq_bool (fin_bl I q dec_bl)
    | str j => obtain ⟨t', rfl⟩ := ry; exact PySem.EqMixed.eq_bool_str (fin_bl I q (by simp))
    | _ => exact absurd (show false = true from hs) Bool.false_ne_true
  | int i =>
    obtain ⟨t, rfl⟩ := rx
    cases y with
    | non => cases ry; exact PySem.EqNone.eq_int_none (fin_bl I q (by simp))
    | int j => obtain ⟨t', rfl⟩ := ry; exact eq_int (fin_bl I q dec_int)
    | str j => obtain ⟨t', rfl⟩ := ry; exact PySem.EqMixed.eq_int_str (fin_bl I q (by simp))
    | _ => exact absurd (show false = true from hs) Bool.false_ne_true
  | str i =>
    obtain ⟨t, rfl⟩ := rx
    cases y with
    | non => cases ry; exact PySem.EqNone.eq_str_none (fin_bl I q (by simp))
    | bl j => cases ry; exact PySem.EqMixed.eq_str_bool (fin_bl I q (by simp))
    | int j => obtain ⟨t', rfl⟩ := ry; exact PySem.EqMixed.eq_str_int (fin_bl I q (by simp))
    | str j => obtain ⟨t', rfl⟩ := ry; exact eq_str (fin_bl I q dec_str)
    | _ => exact absurd (show false = true from hs) Bool.false_ne_true
  | byt i =>
    obtain ⟨t, rfl⟩ := rx
    cases y with
    | byt j => obtain ⟨t', rfl⟩ := ry; exact PySem.W.eq_bytes (fin_bl I q dec_byt)
    | _ => exact absurd (show false = true from hs) Bool.false_ne_true
  | _ => cases y <;> exact absurd (show false = true from hs) Bool.false_ne_true
theorem op_ne : OpR X (compareOp .NotEq) rNe := by
  intro pins s σ H x y v u Q I rx ry h
  obtain ⟨hs, q⟩ := h
  cases x with
  | non =>
    cases rx
    cases y with
    | non => cases ry; exact PySem.EqNone.ne_none_none (fin_bl I q (by simp))
    | bl j => cases ry; exact PySem.EqNone.ne_none_bool (fin_bl I q (by simp))
    | int j => obtain ⟨t', rfl⟩ := ry; exact PySem.EqNone.ne_none_int (fin_bl I q (by simp))
    | str j => obtain ⟨t', rfl⟩ := ry; exact PySem.EqNone.ne_none_str (fin_bl I q (by simp))
    | _ => exact absurd (show false = true from hs) Bool.false_ne_true
  | bl i =>
    cases rx
    cases y with
    | non => cases ry; exact PySem.EqNone.ne_bool_none (fin_bl I q (by simp))
    | bl j => cases ry; exact ne_bool (fin_bl I q (congrArg not dec_bl))
    | str j => obtain ⟨t', rfl⟩ := ry; exact PySem.EqMixed.ne_bool_str (fin_bl I q (by simp))
    | _ => exact absurd (show false = true from hs) Bool.false_ne_true
  | int i =>
    obtain ⟨t, rfl⟩ := rx
    cases y with
    | non => cases ry; exact PySem.EqNone.ne_int_none (fin_bl I q (by simp))
    | int j => obtain ⟨t', rfl⟩ := ry; exact ne_int (fin_bl I q (congrArg not dec_int))
    | str j => obtain ⟨t', rfl⟩ := ry; exact PySem.EqMixed.ne_int_str (fin_bl I q (by simp))
    | _ => exact absurd (show false = true from hs) Bool.false_ne_true
  | str i =>
    obtain ⟨t, rfl⟩ := rx
    cases y with
    | non => cases ry; exact PySem.EqNone.ne_str_none (fin_bl I q (by simp))
    | bl j => cases ry; exact PySem.EqMixed.ne_str_bool (fin_bl I q (by simp))
    | int j => obtain ⟨t', rfl⟩ := ry; exact PySem.EqMixed.ne_str_int (fin_bl I q (by simp))
    | str j => obtain ⟨t', rfl⟩ := ry; exact ne_str (fin_bl I q (congrArg not dec_str))
    | _ => exact absurd (show false = true from hs) Bool.false_ne_true
  | byt i =>
    obtain ⟨t, rfl⟩ := rx
    cases y with
    | byt j => obtain ⟨t', rfl⟩ := ry; exact PySem.W.ne_bytes (fin_bl I q (congrArg not dec_byt))
    | _ => exact absurd (show false = true from hs) Bool.false_ne_true
  | _ => cases y <;> exact absurd (show false = true from hs) Bool.false_ne_true
theorem op_lt : OpR X (compareOp .Lt) (rI0 fun i j => .bl (decide (i < j))) := opB0 fun _ _ _ _ _ _ _ q => lt_int q
theorem op_gt : OpR X (compareOp .Gt) (rI0 fun i j => .bl (decide (j < i))) := opB0 fun _ _ _ _ _ _ _ q => gt_int q
theorem op_ge : OpR X (compareOp .GtE) (rI0 fun i j => .bl (decide (j ≤ i))) := opB0 fun _ _ _ _ _ _ _ q => ge_int q
theorem nomark (b : Expr) {op : CmpOp} (h : op ≠ .In := by decide) (h2 : op ≠ .NotIn := by decide) : behindInMarks op b = false := by
  have e1 : (op == CmpOp.In) = false := by cases op <;> first | rfl | exact absurd rfl h
  have e2 : (op == CmpOp.NotIn) = false := by cases op <;> first | rfl | exact absurd rfl h2
  cases b <;> simp [behindInMarks, e1, e2]
theorem pe_cmpR {op : CmpOp} {r : R2} (ho : OpR X (compareOp op) r) (ha : PE X a ta) (hb : PE X b tb) (hm : behindInMarks op b = false) : PE X (.Compare a [op] [b] pos) (tOp r ta tb) := by
  intro pins s σ H Q I h
  exact wpAny_Compare1 (binT ha hb I h fun v u s2 x y H2 I2 rx ry q => ho pins s2 σ H2 x y v u Q I2 rx ry q) hm
def tTest (t : TE) : TT := fun σ H Q => t σ H fun x H' => ∃ k, x = .bl k ∧ Q k H'
theorem pt_cmpR {op : CmpOp} {r : R2} (ho : OpR X (compareOp op) r) (ha : PE X a ta) (hb : PE X b tb) (hm : behindInMarks op b = false) : PT X (.Compare a [op] [b] pos) (tTest (tOp r ta tb)) := by
  intro pins s σ H Q I h
  refine wpAny_isTrue_Compare1 (thn (ha pins s σ H _ I h) fun v s1 ⟨x, H1, I1, r1, q1⟩ => thn (hb pins s1 σ H1 _ I1 q1) fun u s2 ⟨y, H2, I2, r2, q2⟩ =>
    thn (ho pins s2 σ H2 x y v u _ I2 r1 r2 q2) fun c s3 ⟨z, H3, I3, r3, k, e, q3⟩ => ?_) hm
  subst e
  cases r3
  exact wpAny_truthy_bool ⟨H3, I3, q3⟩
theorem line63 : (sizeLine : Nat) < 2 ^ 63 := by rw [sizeLine_eq]; decide
theorem vals1 {x : V} {us : List Value} (r : Vals [x] us) : ∃ u, us = [u] ∧ RelV x u := by
  cases r with
  | cons r1 r2 => cases r2; exact ⟨_, rfl, r1⟩
end
end L2
namespace L2
open PySem PySem.Spec PyProof.Rows
structure ObjM (h : Heap) (x dx C : Addr) (mA : Str → Option Value) : Prop where
  obj : h.get? x = some (PySem.W.instObj C dx)
  ns : h.Ns1 dx mA
  ne : dx ≠ x
theorem lookIn_ns {h : Heap} {dx : Addr} {mA : Str → Option Value} (n : h.Ns1 dx mA) : ∃ od, h.get? dx = some od ∧ ∀ name, PySem.W.lookIn name od = some (mA name) := by
  obtain ⟨o, es, ep, ho, hd, hk, _, hm⟩ := n
  refine ⟨o, ho, fun name => ?_⟩
  have e := hm name
  unfold nsFind findBy at e
  rw [← Array.find?_toList] at e
  unfold PySem.W.lookIn
  rw [hd]
  dsimp only
  split
  · rename_i y q
    rw [q] at e
    exact congrArg some e
  · rename_i q
    rw [q] at e
    have a : es.toList.any (·.refKey) = false := by
      rw [List.any_eq_false]
      intro y hy
      obtain ⟨z, t, hkey⟩ := hk y (Array.mem_toList_iff.mp hy)
      simp [DictEntry.refKey, hkey]
    have a' : ¬ es.toList.any (·.refKey) = true := by rw [a]; exact Bool.false_ne_true
    rw [if_neg a']
    exact congrArg some e
theorem ObjM.look {h : Heap} {x dx C : Addr} {mA : Str → Option Value} (I : ObjM h x dx C mA) : ∃ od, PySem.W.InstAt h x (PySem.W.instObj C dx) C (some od) ∧ ∀ name, PySem.W.lookIn name od = some (mA name) :=
  let ⟨od, ho, hl⟩ := lookIn_ns I.ns
  ⟨od, ⟨I.obj, rfl, rfl, ho⟩, hl⟩
section
variable {prog : Program} {w : World} {A : Around} {E : Value → Shared → Prop} {s : Shared} {K : PySem.W.Frag} {x dx C f : Addr} {mA : Str → Option Value} {name : Str} {v : Value}
theorem get_map {expr : Bool} {Q : Value → Shared → Prop} (X : K.In s.heap) (I : ObjM s.heap x dx C mA) (hg : PySem.W.plainGet K C name = true) (hh : PySem.W.hasDictIn K C = true)
    (ha : PySem.W.findIn K (.ref C) name = some none) (hv : mA name = some v) (hv' : PySem.W.handedIn v = true) (h : Q v { s with toks := s.toks + 1 }) :
    wpAny (model prog w) A (getAttr (.ref x) name expr) Q E s := by
  obtain ⟨od, J, hl⟩ := I.look
  exact PySem.W.get_value X J (PySem.W.plainGet_of hg).1 (PySem.W.findObj_own hh ha rfl (by rw [hl, hv])) hv' h
theorem get_meth {pl : Sem Bool} {Q : Value × List Value → Shared → Prop} (X : K.In s.heap) (I : ObjM s.heap x dx C mA) (hg : PySem.W.plainGet K C name = true)
    (hf : PySem.W.findIn K (.ref C) name = some (some (.ref f))) (ht : PySem.W.isFn K (.ref f) = true) (hv : mA name = none) (h : Q (.ref f, [.ref x]) s) :
    wpAny (model prog w) A (getMethod (.ref x) name pl) Q E s := by
  obtain ⟨od, J, hl⟩ := I.look
  exact PySem.W.method_fn X J (PySem.W.plainGet_of hg).1 (PySem.W.plainGet_of hg).2 hf (beq_iff_eq.mp ht) (by show (PySem.W.lookIn name od).map (·.isSome) = some false; rw [hl, hv]; rfl) h
theorem set_map {ns : List Str} {Q : Unit → Shared → Prop} (X : K.In s.heap) (I : ObjM s.heap x dx C mA)
    (hs : PySem.W.findIn K (.ref C) "__setattr__" = some (some (.builtin "object.__setattr__"))) (hp : PySem.W.plainOver K C = true) (ht : PySem.W.takerIn K C name = some none) (hh : PySem.W.hasDictIn K C = true)
    (hw : PySem.Within mA ns) (hsz : ns.length ≤ sizeLine)
    (h : ∀ h', ObjM h' x dx C (fun y => if y = name then some v else mA y) → Heap.SameBut dx s.heap h' → Q () { s with heap := h', toks := s.toks + 2 }) :
    wpAny (model prog w) A (setAttr (.ref x) name v) Q E s := by
  obtain ⟨od, J, hl⟩ := I.look
  refine PySem.W.set_plain X J hs (PySem.W.osa_open (s := { s with toks := s.toks + 1 }) (r := none) X J hp ht fun b => ?_)
  obtain ⟨cd, hc, hd'⟩ := PySem.W.any_some hh
  have hx : s.heap.get? x = some ⟨.ref C, some dx, .plain, #[]⟩ := I.obj
  refine wpAny_bind (wpAny_pure (wpAny_bind (wpAny_bind (wpAny_loadPart hx (wpAny_bind (PySem.W.Looks.here (s := { s with toks := s.toks + 1 }) (PySem.W.looks_clsIn X hc) ?_))))))
  rw [hd']
  refine wpAny_pure (a := some dx) (wpAny_bind (wpAny_pure (wpAny_bind ?_)))
  refine wpAny_nsSet1 (s := { s with toks := s.toks + 1 }) I.ns fun h' hn2 hs2 => ?_
  obtain ⟨oD, esD, epD, hoD, hdD, hcD⟩ := hn2.count (PySem.Within.cons name v hw)
  refine wpAny_bind (wpAny_lookBehind hoD (by rw [hdD]; exact pastItsLine_dict (Nat.le_trans hcD (by rw [List.length_cons]; omega))) ?_)
  exact wpAny_pure (h _ ⟨(hs2.2 _ (Ne.symm I.ne)).trans I.obj, hn2, I.ne⟩ hs2)
theorem make_map {R : Result → Shared → Prop} {vs : List Value} {kw : List (Str × Value)} (X : K.In s.heap) (hm : PySem.W.makesIn K C = true)
    (hi : PySem.W.findIn K (.ref C) "__init__" = some (some (.ref f))) (hf : PySem.W.typeIn K (.ref f) = some (.type "function"))
    (h : codeAny (model prog w) (A.under (.builtin "type.__call__" ⟨.ref C :: vs, kw⟩)) (.call (.ref f) ⟨.ref (s.heap.objs.size + 1) :: vs, kw⟩) (PySem.W.InitBack (s.heap.objs.size + 1) R)
      { s with heap := (s.heap.push PySem.W.emptyDict).push (PySem.W.instObj C s.heap.objs.size) }) :
    codeAny (model prog w) A (.call (.ref C) ⟨vs, kw⟩) R s := by
  obtain ⟨hh, g, d, t, os⟩ := s
  exact PySem.W.make_core (PySem.W.makes_of X hm) (PySem.W.looks_findIn X hi) (fun self => PySem.W.bind_fn X self hf) (.inl rfl) h
end
def putF (f : Str) (v : V) : List (Str × V) → List (Str × V)
  | [] => [(f, v)]
  | (g, x) :: r => if g = f then (g, v) :: r else (g, x) :: putF f v r
theorem lookup_putF (f g : Str) (v : V) : ∀ fs : List (Str × V), (putF f v fs).lookup g = if g = f then some v else fs.lookup g
  | [] => by
    show List.lookup g [(f, v)] = _
    by_cases h : g = f
    · have hb : (g == f) = true := beq_iff_eq.mpr h
      simp only [List.lookup, hb, if_pos h]
    · have hb : (g == f) = false := beq_eq_false_iff_ne.mpr h
      simp only [List.lookup, hb, if_neg h]
  | (k, x) :: r => by
    have ih := lookup_putF f g v r
    rw [show putF f v ((k, x) :: r) = (if k = f then (k, v) :: r else (k, x) :: putF f v r) from rfl]
    by_cases hk : k = f
    · rw [if_pos hk]
      by_cases h : g = k
      · have hb : (g == k) = true := beq_iff_eq.mpr h
        simp only [List.lookup, hb, if_pos (h.trans hk)]
      · have hb : (g == k) = false := beq_eq_false_iff_ne.mpr h
        simp only [List.lookup, hb, if_neg (fun e : g = f => h (e.trans hk.symm))]
    · rw [if_neg hk]
      by_cases h : g = k
      · have hb : (g == k) = true := beq_iff_eq.mpr h
        simp only [List.lookup, hb, if_neg (fun e : g = f => hk (h.symm.trans e))]
      · have hb : (g == k) = false := beq_eq_false_iff_ne.mpr h
        simp only [List.lookup, hb]
        exact ih
theorem keys_putF (f : Str) (v : V) : ∀ fs : List (Str × V), f ∈ (putF f v fs).map (·.1) ∧ ∀ g, g ∈ fs.map (·.1) → g ∈ (putF f v fs).map (·.1)
  | [] => ⟨by simp [putF], fun g h => by simp at h⟩
  | (k, x) :: r => by
    obtain ⟨i1, i2⟩ := keys_putF f v r
    rw [show putF f v ((k, x) :: r) = (if k = f then (k, v) :: r else (k, x) :: putF f v r) from rfl]
    by_cases hk : k = f
    · rw [if_pos hk]
      subst hk
      exact ⟨by simp, fun g h => by simpa using h⟩
    · rw [if_neg hk]
      refine ⟨?_, fun g h => ?_⟩
      · rw [List.map_cons]
        exact List.mem_cons_of_mem _ i1
      · rw [List.map_cons] at h ⊢
        rcases List.mem_cons.mp h with e | e
        · exact List.mem_cons.mpr (.inl e)
        · exact List.mem_cons_of_mem _ (i2 g e)
theorem length_putF (f : Str) (v : V) : ∀ fs : List (Str × V), (putF f v fs).length ≤ fs.length + 1
  | [] => by simp [putF]
  | (k, x) :: r => by
    have ih := length_putF f v r
    rw [show putF f v ((k, x) :: r) = (if k = f then (k, v) :: r else (k, x) :: putF f v r) from rfl]
    by_cases hk : k = f
    · rw [if_pos hk, List.length_cons, List.length_cons]; omega
    · rw [if_neg hk, List.length_cons, List.length_cons]; omega
theorem RelO.some_of {v : V} {o : Option Value} (r : RelO (some v) o) : ∃ u, o = some u ∧ RelV v u := by
  cases o with
  | none => exact (show False from r).elim
  | some u => exact ⟨u, rfl, r⟩
theorem RelO.none_of {o : Option Value} (r : RelO none o) : o = none := by
  cases o with
  | none => rfl
  | some u => exact (show False from r).elim
theorem handed_of {v : V} {u : Value} (r : RelV v u) : PySem.W.handedIn u = true := by
  cases v with
  | non => cases (show u = Value.none from r); rfl
  | bl b => cases (show u = Value.bool b from r); rfl
  | int i => obtain ⟨t, e⟩ := (show ∃ t, u = Value.int i t from r); cases e; rfl
  | str x => obtain ⟨t, e⟩ := (show ∃ t, u = Value.str x t from r); cases e; rfl
  | byt b => obtain ⟨t, e⟩ := (show ∃ t, u = Value.bytes b t from r); cases e; rfl
  | flt b => obtain ⟨t, e⟩ := (show ∃ t, u = Value.float b t from r); cases e; rfl
  | ref a => cases (show u = Value.ref a from r); rfl
  | ty n => cases (show u = Value.type n from r); rfl
section
variable {P : Program} {w : World} {H H' : Hp} {h h' : Heap} {a C dx : Addr} {fs fs' : List (Str × V)}
theorem ins_get (hok : HOk P w H h) (e : H a = some (.ins C dx fs)) : ∃ mA, ObjM h a dx C mA ∧ (∀ f, RelO (fs.lookup f) (mA f)) ∧ PySem.Within mA (fs.map (·.1)) ∧ fs.length ≤ 1000 ∧ H dx = some (.own a) := by
  obtain ⟨d, z, ne, ob, mA, n, r, q⟩ := (show ObjOk P w H h a (.ins C dx fs) from hok a _ e)
  exact ⟨mA, ⟨ob, n, ne⟩, r, q, z, d⟩
end
structure Cls (K : PySem.W.Frag) (C : Addr) : Prop where
  pg : PySem.W.plainGet K C Str.empty = true
  hd : PySem.W.hasDictIn K C = true
  po : PySem.W.plainOver K C = true
  sa : PySem.W.findIn K (.ref C) "__setattr__" = some (some (.builtin "object.__setattr__"))
theorem Cls.get {K : PySem.W.Frag} {C : Addr} (c : Cls K C) (f : Str) : PySem.W.plainGet K C f = true := c.pg
def NoAttr (K : PySem.W.Frag) (C : Addr) (f : Str) : Prop := PySem.W.findIn K (.ref C) f = some none
theorem NoAttr.taker {K : PySem.W.Frag} {C : Addr} {f : Str} (n : NoAttr K C f) : PySem.W.takerIn K C f = some none := by
  unfold PySem.W.takerIn
  rw [show PySem.W.findIn K (.ref C) f = some none from n]
  rfl
structure Meth (K : PySem.W.Frag) (C : Addr) (m : Str) (f : Addr) : Prop where
  at_ : PySem.W.findIn K (.ref C) m = some (some (.ref f))
  fn : PySem.W.isFn K (.ref f) = true
  kp : PySem.W.keepIn K (.ref f) = true
section
variable {X : Cx} {pins : List (Addr × Obj)} {σ : St} {H : Hp} {s : Shared} {a C dx : Addr} {fs : List (Str × V)} {f : Str} {v : V} {A : Around} {E : Value → Shared → Prop}
theorem getattr_ok {b : Bool} {Q : Value → Shared → Prop} (I : Inv X pins σ H s) (e : H a = some (.ins C dx fs)) (c : Cls X.K C) (n : NoAttr X.K C f) (l : fs.lookup f = some v)
    (h : ∀ u s', Inv X pins σ H s' → RelV v u → Q u s') : wpAny (model X.prog X.w) A (getAttr (.ref a) f b) Q E s := by
  obtain ⟨mA, O, r, _, _, _⟩ := ins_get I.hok e
  obtain ⟨u, hu, ru⟩ := RelO.some_of (v := v) (o := mA f) (by rw [← l]; exact r f)
  exact get_map I.kIn O (c.get f) c.hd n hu (handed_of ru) (h u _ (I.tok _) ru)
theorem getmeth_ok {m : Str} {g : Addr} {pl : Sem Bool} {Q : Value × List Value → Shared → Prop} (I : Inv X pins σ H s) (e : H a = some (.ins C dx fs)) (c : Cls X.K C) (k : Meth X.K C m g) (l : fs.lookup m = none)
    (h : Q (.ref g, [.ref a]) s) : wpAny (model X.prog X.w) A (getMethod (.ref a) m pl) Q E s := by
  obtain ⟨mA, O, r, _, _, _⟩ := ins_get I.hok e
  have hn : mA m = none := RelO.none_of (by rw [← l]; exact r m)
  exact get_meth I.kIn O (c.get m) k.at_ k.fn hn h
theorem setattr_ok {y : V} {u : Value} {Q : Unit → Shared → Prop} (I : Inv X pins σ H s) (e : H a = some (.ins C dx fs)) (c : Cls X.K C) (n : NoAttr X.K C f) (hl : fs.length < 1000) (ry : RelV y u)
    (h : ∀ s', Inv X pins σ (upd H a (.ins C dx (putF f y fs))) s' → Q () s') : wpAny (model X.prog X.w) A (setAttr (.ref a) f u) Q E s := by
  obtain ⟨mA, O, r, wi, _, ho⟩ := ins_get I.hok e
  have hz : (fs.map (·.1)).length ≤ sizeLine := by rw [List.length_map, sizeLine_eq]; omega
  refine set_map I.kIn O c.sa c.po n.taker c.hd wi hz fun h' O' sb => h _ ?_
  have hd : ∃ o, h'.get? dx = some o := let ⟨o, _, _, e', _⟩ := O'.ns; ⟨o, e'⟩
  refine I.write (x := a) (e := dx) (by rw [e]; exact True.intro) (.inr ho) (fun b q hb z => (sb.2 b hb).trans z) hd ?_
  refine ⟨by rw [upd_ne O.ne]; exact ho, ?_, O.ne, O'.obj, _, O'.ns, fun g => ?_, fun g hg => ?_⟩
  · have := length_putF f y fs; omega
  · show RelO ((putF f y fs).lookup g) (if g = f then some u else mA g)
    rw [lookup_putF]
    by_cases q : g = f
    · rw [if_pos q, if_pos q]; exact ry
    · rw [if_neg q, if_neg q]; exact r g
  · by_cases q : g = f
    · rw [q]; exact (keys_putF f y fs).1
    · refine (keys_putF f y fs).2 g (wi g fun z => hg ?_)
      show (if g = f then some u else mA g) = none
      rw [if_neg q]; exact z
theorem Inv.made (I : Inv X pins σ H s) : Inv X pins σ (upd (upd H s.heap.objs.size (.own (s.heap.objs.size + 1))) (s.heap.objs.size + 1) (.ins C s.heap.objs.size []))
    { s with heap := (s.heap.push PySem.W.emptyDict).push (PySem.W.instObj C s.heap.objs.size) } := by
  have e1 : (s.heap.push PySem.W.emptyDict).get? s.heap.objs.size = some PySem.W.emptyDict := Heap.get?_push_size s.heap rfl
  have e2 : ((s.heap.push PySem.W.emptyDict).push (PySem.W.instObj C s.heap.objs.size)).get? (s.heap.objs.size + 1) = some (PySem.W.instObj C s.heap.objs.size) := by
    have := Heap.get?_push_size (s.heap.push PySem.W.emptyDict) (o := PySem.W.instObj C s.heap.objs.size) rfl
    rwa [Heap.size_push] at this
  have e3 : (s.heap.push PySem.W.emptyDict).Ns s.heap.objs.size (fun _ => none) := ⟨PySem.W.emptyDict, #[], _, e1, rfl, (fun e he => absurd he (by simp)), fun _ => rfl⟩
  have I1 := I.laid (a := s.heap.objs.size) (o := .own (s.heap.objs.size + 1)) (h' := s.heap.push PySem.W.emptyDict) (t' := s.toks) (fun b u q => Heap.get?_push_of_some _ q) (Nat.le_refl _) ⟨_, e1⟩
  refine I1.laid (a := s.heap.objs.size + 1) (o := .ins C s.heap.objs.size []) (t' := s.toks) (fun b u q => Heap.get?_push_of_some _ q) (Nat.le_of_eq (Heap.size_push _ _)) ?_
  have ne : s.heap.objs.size ≠ s.heap.objs.size + 1 := Nat.ne_of_lt (Nat.lt_succ_self _)
  refine ⟨by rw [upd_ne ne, upd_same], Nat.zero_le _, ne, e2, fun _ => none, (Heap.Ns1.of_empty e3).at fun o q => Heap.get?_push_of_some _ q, fun _ => True.intro, fun y hy => absurd rfl hy⟩
theorem attr_of {prog : Program} {w : World} {env : Env} {e : Expr} {f : Str} {pos : Pos} {s : Shared} {Q : Value → Shared → Prop} (hb : attributeBase e f env (eval e env) = eval e env)
    (h : wpAny (model prog w) A (eval e env) (fun o s₁ => wpAny (model prog w) A (getAttr o f true) Q E s₁) E s) : wpAny (model prog w) A (eval (.Attribute e f pos) env) Q E s :=
  Attribute_any_ h (by rw [arm_eval_Attribute, hb])
end
def tFld (K : PySem.W.Frag) (ta : TE) (f : Str) : TE := fun σ H Q => ta σ H fun x H1 => ∃ a C dx fs v, x = .ref a ∧ H1 a = some (.ins C dx fs) ∧ Cls K C ∧ NoAttr K C f ∧ fs.lookup f = some v ∧ Q v H1
def sFld (K : PySem.W.Frag) (ta tv : TE) (f : Str) : TS := fun D σ H => tv σ H fun y H1 => ta σ H1 fun x H2 => ∃ a C dx fs, x = .ref a ∧ H2 a = some (.ins C dx fs) ∧ Cls K C ∧ NoAttr K C f ∧ fs.length < 1000 ∧
  D.nx σ (upd H2 a (.ins C dx (putF f y fs)))
def InOp (X : Cx) (op : Operator) (rd : V → V → Hp → VK → Prop) : Prop :=
  ∀ (pins : List (Addr × Obj)) (s : Shared) (σ : St) (H : Hp) (x y : V) (u v : Value) (Q : VK), Inv X pins σ H s → RelV x u → RelV y v → rd x y H Q → wpAny (model X.prog X.w) X.A (inplaceOp op u v) (EP X pins σ Q) X.xe s
def sFldAug (K : PySem.W.Frag) (ta tv : TE) (rd : V → V → Hp → VK → Prop) (f : Str) : TS := fun D σ H => ta σ H fun x H1 => ∃ a C dx fs v, x = .ref a ∧ H1 a = some (.ins C dx fs) ∧ Cls K C ∧ NoAttr K C f ∧ fs.lookup f = some v ∧
  tv σ H1 fun y H2 => rd v y H2 fun z H3 => ∃ dx' fs', H3 a = some (.ins C dx' fs') ∧ fs'.length < 1000 ∧ D.nx σ (upd H3 a (.ins C dx' (putF f z fs')))
section
variable {X : Cx} {o e value : Expr} {f : Str} {pos pos' tpos : Pos} {ta tv : TE}
theorem pe_fld (he : PE X e ta) (hb : attributeBase e f X.env (eval e X.env) = eval e X.env) : PE X (.Attribute e f pos) (tFld X.K ta f) := by
  intro pins s σ H Q I h
  refine attr_of hb (thn (he pins s σ H _ I h) fun u s1 ⟨x, H1, I1, rx, a, C, dx, fs, v, ex, ea, c, n, l, q⟩ => ?_)
  subst ex
  obtain rfl : u = Value.ref a := rx
  exact getattr_ok I1 ea c n l fun u' s2 I2 ru => ⟨v, H1, I2, ru, q⟩
theorem ps_fld (ha : PE X o ta) (hv : PE X value tv) (hs : swapsWith value (some (.Attribute o f pos')) pos.line X.env = pure false) : PS X (.Assign [.Attribute o f pos'] value pos) (sFld X.K ta tv f) := by
  intro pins s σ H D I h
  refine plainObj_wpAny_Assign_Attribute (thn (hv pins s σ H _ I h) fun u s1 ⟨y, H1, I1, ry, q⟩ => thn (ha pins s1 σ H1 _ I1 q) fun ov s2 ⟨x, H2, I2, rx, a, C, dx, fs, ex, ea, c, n, l, q2⟩ => ?_) hs
  subst ex
  obtain rfl : ov = Value.ref a := rx
  exact setattr_ok I2 ea c n l ry fun s3 I3 => ⟨σ, _, I3, q2⟩
theorem ps_fldaug {op : Operator} {rd : V → V → Hp → VK → Prop} (ha : PE X o ta) (hv : PE X value tv) (hop : InOp X op rd) : PS X (.AugAssign (.Attribute o f tpos) op value pos) (sFldAug X.K ta tv rd f) := by
  intro pins s σ H D I h
  refine wpAny_AugAssign_AttributeAny (thn (ha pins s σ H _ I h) fun ov s1 ⟨x, H1, I1, rx, a, C, dx, fs, v, ex, ea, c, n, l, q⟩ => ?_)
  subst ex
  obtain rfl : ov = Value.ref a := rx
  refine getattr_ok I1 ea c n l fun u s2 I2 ru => thn (hv pins s2 σ H1 _ I2 q) fun w3 s3 ⟨y, H2, I3, ry, q3⟩ => thn (hop pins s3 σ H2 v y u w3 _ I3 ru ry q3) fun w4 s4 ⟨z, H3, I4, rz, dx', fs', ea', l', q4⟩ => ?_
  exact setattr_ok I4 ea' c n l' rz fun s5 I5 => ⟨σ, _, I5, q4⟩
def rAdd : V → V → Hp → VK → Prop := fun x y H Q => ∃ i j, x = .int i ∧ y = .int j ∧ Q (.int (i + j)) H
theorem in_add : InOp X .Add rAdd := by
  rintro pins s σ H x y u v Q I rx ry ⟨i, j, rfl, rfl, q⟩
  obtain ⟨t, rfl⟩ := (show ∃ t, u = Value.int i t from rx)
  obtain ⟨t', rfl⟩ := (show ∃ t', v = Value.int j t' from ry)
  exact PyProof.Rows.iadd_int ⟨.int (i + j), H, I.tok _, ⟨_, rfl⟩, q⟩
theorem methcall_of {pl : Sem Bool} {m : Str} {apos : Pos} {args : List Expr} {pins : List (Addr × Obj)} {s : Shared} {σ : St} {H : Hp} {Q : Value → Shared → Prop} {te : TE} (he : PE X e te) (I : Inv X pins σ H s)
    (h : te σ H fun x H1 => ∃ a C dx fs g, x = .ref a ∧ H1 a = some (.ins C dx fs) ∧ Cls X.K C ∧ Meth X.K C m g ∧ fs.lookup m = none ∧
      ∀ s1, Inv X pins σ H1 s1 → wpAny (model X.prog X.w) X.A (callWith pos (.ref g) [.ref a] (backTo pos (starEach args X.env)) (backToKw pos (keywordEach [] X.env))) Q X.xe s1)
    (ht : eval (.Call (.Attribute e m apos) args [] pos) X.env = (do
      let ov ← eval e X.env
      standAt apos.atName
      let (f, first) ← holding [ov] (getMethod ov m pl)
      callWith pos f first (backTo pos (starEach args X.env)) (backToKw pos (keywordEach [] X.env)))) :
    wpAny (model X.prog X.w) X.A (eval (.Call (.Attribute e m apos) args [] pos) X.env) Q X.xe s := by
  refine PySem.W.methodCall_KW (pl := pl) (thn (he pins s σ H _ I h) fun u s1 ⟨x, H1, I1, rx, a, C, dx, fs, g, ex, ea, c, k, l, q⟩ => ?_) ht
  subst ex
  obtain rfl : u = Value.ref a := rx
  exact getmeth_ok I1 ea c k l (q s1 I1)
end
section
variable {X : Cx} {pins : List (Addr × Obj)} {σ : St} {H : Hp} {s : Shared} {A : Around} {E : Value → Shared → Prop} {Q : Value → Shared → Prop} {c : Value} {b : Bool}
end
end L2
namespace L2
open PySem PySem.Spec PyProof.Rows
structure Room (k : Nat) (A : Around) : Prop where
  hd : A.handled = none
  dp : A.depth + 3 * k + 5 < recursionLimit
  un : A.units + 16 * k + 200 < cLine
theorem Room.mono {j k : Nat} {A : Around} (r : Room k A) (h : j ≤ k) : Room j A := ⟨r.hd, by have := r.dp; omega, by have := r.un; omega⟩
theorem Room.deeper {k : Nat} {A : Around} (r : Room (k + 1) A) (env : Env) : Room k (A.deeper env) :=
  ⟨r.hd, by have := r.dp; show A.depth + 1 + 3 * k + 5 < _; omega, by have := r.un; show A.units + 3 + 16 * k + 200 < _; omega⟩
theorem make_depth {A : Around} {C : Addr} {us : List Value} {kw : List (Str × Value)} : (A.under (.builtin "type.__call__" ⟨.ref C :: us, kw⟩)).depth = A.depth + 1 := by
  first | rfl | simp [Around.under, Code.weight, Code.isCreation, Code.isGuard, Code.isCaller, Code.frames, Code.isFrame, guardIds]
theorem make_units {A : Around} {C : Addr} {us : List Value} {kw : List (Str × Value)} : (A.under (.builtin "type.__call__" ⟨.ref C :: us, kw⟩)).units = A.units + 1 := by
  first | rfl | simp [Around.under, Code.cUnits, Code.frames, Code.isFrame]
theorem Room.make {k : Nat} {A : Around} (r : Room (k + 1) A) (C : Addr) (us : List Value) (kw : List (Str × Value)) : Room k (A.under (.builtin "type.__call__" ⟨.ref C :: us, kw⟩)) :=
  ⟨r.hd, by have := r.dp; rw [make_depth]; omega, by have := r.un; rw [make_units]; omega⟩
theorem Room.depth {k : Nat} {A : Around} (r : Room k A) : A.depth < recursionLimit := by have := r.dp; omega
theorem Room.units {k : Nat} {A : Around} (r : Room k A) : A.units + 64 < cLine := by have := r.un; omega
def tNil : TA := fun _ H Q => Q [] H
def tCons (ta : TE) (tr : TA) : TA := fun σ H Q => ta σ H fun x H1 => tr σ H1 fun xs H2 => Q (x :: xs) H2
section
variable {X : Cx} {e : Expr} {es : List Expr} {te : TE} {t : TA} {pos : Pos}
theorem pa_nil : PA X [] tNil := fun _ _ _ _ H Q I h => Calls.spliced_nil ⟨[], H, I, .nil, h⟩
theorem pa_cons (ha : PE X e te) (hr : PA X es t) (hs : starEach (e :: es) X.env = (false, eval e X.env) :: starEach es X.env := by rfl) : PA X (e :: es) (tCons te t) := by
  intro pos pins s σ H Q I h
  rw [hs]
  show wpAny _ _ (spliced ((false, eval e X.env) :: backTo pos (starEach es X.env))) _ _ s
  refine Calls.spliced_cons (thn (ha pins s σ H _ I h) fun u s1 ⟨x, H1, I1, r1, q1⟩ => ?_)
  exact thn (hr pos pins s1 σ H1 _ I1 q1) fun us s2 ⟨xs, H2, I2, r2, q2⟩ => ⟨x :: xs, H2, I2, .cons r1 r2, q2⟩
def tTup (t : TA) : TE := fun σ H Q => t σ H fun xs H1 => xs.length ≤ sizeLine ∧ ∀ p, H1 p = none → Q (.ref p) (upd H1 p (.tup xs))
def tLst (t : TA) : TE := fun σ H Q => t σ H fun xs H1 => xs.length ≤ sizeLine ∧ ∀ p, H1 p = none → Q (.ref p) (upd H1 p (.lst xs))
theorem pe_tup {x1} (h : PA X es t) : PE X (.Tuple es x1 pos) (tTup t) := by
  intro pins s σ H Q I hq
  refine wpAny_Tuple_spliced (thn (h pos pins s σ H _ I hq) fun us s1 ⟨xs, H1, I1, r, z, q⟩ => ⟨by rw [← r.length]; exact z, ?_⟩)
  have hf : H1 s1.heap.objs.size = none := I1.hok.fresh (Nat.le_refl _)
  refine ⟨.ref s1.heap.objs.size, upd H1 s1.heap.objs.size (.tup xs), I1.laid (t' := s1.toks) (fun b u e => Heap.get?_push_of_some _ e) (Nat.le_refl _) ?_, rfl, q _ hf⟩
  exact ⟨z, us, r, ⟨_, Heap.get?_push_size _ rfl, rfl, _, rfl⟩⟩
theorem pe_lst (h : PA X es t) : PE X (.List es pos) (tLst t) := by
  intro pins s σ H Q I hq
  refine wpAny_List_spliced (thn (h pos pins s σ H _ I hq) fun us s1 ⟨xs, H1, I1, r, z, q⟩ => ⟨by rw [← r.length]; exact z, ?_⟩)
  have hf : H1 s1.heap.objs.size = none := I1.hok.fresh (Nat.le_refl _)
  refine ⟨.ref s1.heap.objs.size, upd H1 s1.heap.objs.size (.lst xs), I1.laid (t' := s1.toks) (fun b u e => Heap.get?_push_of_some _ e) (Nat.le_refl _) ?_, rfl, q _ hf⟩
  exact ⟨z, us, 0, r, Heap.get?_push_size _ rfl⟩
end
abbrev Sp := List V → Hp → VK → XK → Prop
abbrev CXT := List Env → Hp → Shared → XK → Value → Shared → Prop
structure Env0 (P : Program) (w : World) (K : PySem.W.Frag) (mg : Str → Option Value) (base : Heap) (A : Around) (outer : List Env) (s : Shared) (H : Hp) : Prop where
  frames : A.frames = some outer
  mod : Mod K mg base
  bs : ∀ b o, base.get? b = some o → s.heap.get? b = some o ∧ H b = none
  bsz : base.objs.size ≤ s.heap.objs.size
  funs : s.heap.FunFrames base outer
  frf : ∀ b ∈ frs outer, H b = none
  hok : HOk P w H s.heap
  bare : AllBare s.gens
def CE (outer : List Env) (P : Program) (w : World) (H : Hp) (s : Shared) (Q : VK) (u : Value) (s' : Shared) : Prop :=
  ∃ v H', s'.os = s.os ∧ AllBare s'.gens ∧ Un (frs outer) [] H H' s.heap s'.heap ∧ HOk P w H' s'.heap ∧ RelV v u ∧ Q v H'
def CR (CX : CXT) (outer : List Env) (P : Program) (w : World) (H : Hp) (s : Shared) (Q : VK) (E : XK) (r : Result) (s' : Shared) : Prop :=
  match r with
  | .ok (.ret u) => CE outer P w H s Q u s'
  | .ok _ => False
  | .error e => CX outer H s E e s'
structure FnOk (P : Program) (w : World) (K : PySem.W.Frag) (mg : Str → Option Value) (base : Heap) (CX : CXT) (k : Nat) (f : Addr) (fd : FuncData) (ps : List Str) (sp : Sp) : Prop where
  len : ∀ vs H Q E, sp vs H Q E → vs.length = ps.length
  run : ∀ (A : Around) (outer : List Env) (s : Shared) (H : Hp) (args : Args) (us : List Value) (vs : List V) (Q : VK) (E : XK), Room k A → Env0 P w K mg base A outer s H → BindsTo s fd args (ps.zip us) → Vals vs us → sp vs H Q E →
    codeAny (model P w) A (.call (.ref f) args) (CR CX outer P w H s Q E) s
theorem Env0.make {P : Program} {w : World} {K : PySem.W.Frag} {mg : Str → Option Value} {base : Heap} {A : Around} {outer : List Env} {s : Shared} {H : Hp} (e : Env0 P w K mg base A outer s H) (C : Addr) (us : List Value) (kw : List (Str × Value)) :
    Env0 P w K mg base (A.under (.builtin "type.__call__" ⟨.ref C :: us, kw⟩)) outer s H := ⟨by first | exact e.frames | (simpa [Around.under, Code.envs, Code.isFrame, pushEnvs] using e.frames), e.mod, e.bs, e.bsz, e.funs, e.frf, e.hok, e.bare⟩
section
variable {X : Cx} {pins : List (Addr × Obj)} {σ : St} {H : Hp} {s s' : Shared}
theorem Inv.env0 (I : Inv X pins σ H s) : Env0 X.prog X.w X.K X.mg X.base X.A X.stack s H :=
  ⟨I.ok.frames, I.ok.mod, I.bs, Nat.le_trans I.ok.bsz I.sz, I.stack, I.stkFree, I.hok, I.bare⟩
theorem Inv.after {Q : VK} {u : Value} (I : Inv X pins σ H s) (h : CE X.stack X.prog X.w H s Q u s') : EP X pins σ Q u s' := by
  obtain ⟨v, H', os, bare, un, hok, r, q⟩ := h
  obtain ⟨hh, g, d, t, os'⟩ := s'
  obtain rfl : os' = s.os := os
  exact ⟨v, H', I.call (h' := hh) (g' := g) (d' := d) (t' := t) (ch := []) un hok bare (fun b z => absurd z (by simp)), r, q⟩
end
def tCall (sp : Sp) (dvs : List V) (E : XK) (t : TA) : TE := fun σ H Q => t σ H fun vs H1 => sp (vs ++ dvs) H1 Q E
def tMeth (C : Addr) (m : Str) (sp : Sp) (dvs : List V) (E : XK) (ta : TE) (t : TA) : TE := fun σ H Q => ta σ H fun x H1 => ∃ a dx fs, x = .ref a ∧ H1 a = some (.ins C dx fs) ∧ fs.lookup m = none ∧
  t σ H1 fun vs H2 => sp (x :: (vs ++ dvs)) H2 Q E
def tMake (C : Addr) (sp : Sp) (dvs : List V) (E : XK) (t : TA) : TE := fun σ H Q => t σ H fun vs H1 => ∀ x dx, H1 x = none → H1 dx = none → dx ≠ x →
  sp (.ref x :: (vs ++ dvs)) (upd (upd H1 dx (.own x)) x (.ins C dx [])) (fun v H2 => v = .non ∧ Q (.ref x) H2) E
def Binds (K : PySem.W.Frag) (fd : FuncData) (ps : List Str) (ds : List Value) : Prop :=
  ∀ (s : Shared) (us : List Value), K.In s.heap → (us ++ ds).length = ps.length → BindsTo s fd ⟨us, []⟩ (ps.zip (us ++ ds))
theorem Binds.all {K : PySem.W.Frag} {fd : FuncData} {ps : List Str} (h : ∀ us : List Value, us.length = ps.length → bindArgs fd ⟨us, []⟩ = pure (ps.zip us)) : Binds K fd ps [] := fun s us _ hl => by
  rw [List.append_nil] at hl ⊢
  exact .of_eq (h us hl)
def Passes (CX : CXT) (X : Cx) (E : XK) : Prop := ∀ (pins : List (Addr × Obj)) (σ : St) (H : Hp) (s : Shared) (e : Value) (s' : Shared), Inv X pins σ H s → CX X.stack H s E e s' → X.xe e s'
section
variable {X : Cx} {CX : CXT} {k : Nat} {f C : Addr} {fd : FuncData} {ps : List Str} {sp : Sp} {dvs : List V} {ds : List Value} {E : XK} {x m : Str} {p pos apos : Pos} {e o : Expr} {es : List Expr} {ta : TE} {t : TA}
theorem run_fn {pins : List (Addr × Obj)} {σ : St} {H : Hp} {s : Shared} {Q : VK} {us : List Value} {vs : List V} (F : FnOk X.prog X.w X.K X.mg X.base CX k f fd ps sp) (hr : Room k X.A) (hb : Binds X.K fd ps ds) (hd : Vals dvs ds) (hx : Passes CX X E)
    (I : Inv X pins σ H s) (r : Vals vs us) (h : sp (vs ++ dvs) H Q E) : wpAny (model X.prog X.w) X.A (call (.ref f) us) (EP X pins σ Q) X.xe s := by
  have r2 : Vals (vs ++ dvs) (us ++ ds) := r.append hd
  have hl : (us ++ ds).length = ps.length := by rw [← r2.length]; exact F.len _ _ _ _ h
  refine wpAny_call (codeAny_mono (F.run X.A X.stack s H ⟨us, []⟩ (us ++ ds) (vs ++ dvs) Q E hr I.env0 (hb s us I.kIn hl) r2 h) fun r s' hq => ?_)
  cases r with
  | error e => exact hx pins σ H s e s' I hq
  | ok fl =>
    cases fl with
    | ret u => exact I.after hq
    | next => exact False.elim hq
    | brk => exact False.elim hq
    | cont => exact False.elim hq
theorem pe_call (F : FnOk X.prog X.w X.K X.mg X.base CX k f fd ps sp) (hr : Room k X.A) (hg : Gl X x) (hm : X.mg x = some (.ref f)) (hk : PySem.W.keepIn X.K (.ref f) = true) (hb : Binds X.K fd ps ds) (hd : Vals dvs ds) (hx : Passes CX X E)
    (ha : PA X (e :: es) t) (hdb : (x == ("__debug__" : Str)) = false := by decide) (he : starEach (e :: es) X.env = (false, eval e X.env) :: starEach es X.env := by rfl) (hpl : (backTo pos (starEach es X.env)).any (·.1) = false := by rfl) :
    PE X (.Call (.Name x p) (e :: es) [] pos) (tCall sp dvs E t) := by
  intro pins s σ H Q I h
  refine wpAny_Call_Name_kw (ld_glob I hg hm ?_ hdb)
  refine PySem.W.callWith_K (h₀ := X.base) I.ok.mod.kin hk (thn (ha pos pins s σ H _ I h) fun us s1 ⟨vs, H1, I1, r, q⟩ => ⟨I1.kIn, ?_⟩) he hpl
  exact run_fn F hr hb hd hx I1 r q
theorem pe_meth {pl : Sem Bool} (he : PE X o ta) (c : Cls X.K C) (hm : Meth X.K C m f) (F : FnOk X.prog X.w X.K X.mg X.base CX k f fd ps sp) (hr : Room k X.A) (hb : Binds X.K fd ps ds) (hd : Vals dvs ds) (hx : Passes CX X E) (ha : PA X (e :: es) t)
    (hst : starEach (e :: es) X.env = (false, eval e X.env) :: starEach es X.env := by rfl) (hpl : (backTo pos (starEach es X.env)).any (·.1) = false := by rfl)
    (ht : eval (.Call (.Attribute o m apos) (e :: es) [] pos) X.env = (do
      let ov ← eval o X.env
      standAt apos.atName
      let (f, first) ← holding [ov] (getMethod ov m pl)
      callWith pos f first (backTo pos (starEach (e :: es) X.env)) (backToKw pos (keywordEach [] X.env))) := by rfl) :
    PE X (.Call (.Attribute o m apos) (e :: es) [] pos) (tMeth C m sp dvs E ta t) := by
  intro pins s σ H Q I h
  refine PySem.W.methodCall_KW (pl := pl) (thn (he pins s σ H _ I h) fun u s1 ⟨x, H1, I1, rx, a, dx, fs, ex, ea, l, q⟩ => ?_) ht
  subst ex
  obtain rfl : u = Value.ref a := rx
  refine getmeth_ok I1 ea c hm l ?_
  refine PySem.W.callWith_K (first := [.ref a]) (h₀ := X.base) I.ok.mod.kin hm.kp (thn (ha pos pins s1 σ H1 _ I1 q) fun us s2 ⟨vs, H2, I2, r, q2⟩ => ⟨I2.kIn, ?_⟩) hst hpl
  exact run_fn (us := .ref a :: us) (vs := .ref a :: vs) F hr hb hd hx I2 (.cons rfl r) q2
theorem pe_meth0 {pl : Sem Bool} (he : PE X o ta) (c : Cls X.K C) (hm : Meth X.K C m f) (F : FnOk X.prog X.w X.K X.mg X.base CX k f fd ps sp) (hr : Room k X.A) (hb : Binds X.K fd ps ds) (hd : Vals dvs ds) (hx : Passes CX X E)
    (ht : eval (.Call (.Attribute o m apos) [] [] pos) X.env = (do
      let ov ← eval o X.env
      standAt apos.atName
      let (f, first) ← holding [ov] (getMethod ov m pl)
      callWith pos f first (backTo pos (starEach [] X.env)) (backToKw pos (keywordEach [] X.env))) := by rfl) :
    PE X (.Call (.Attribute o m apos) [] [] pos) (tMeth C m sp dvs E ta tNil) := by
  intro pins s σ H Q I h
  refine PySem.W.methodCall_KW (pl := pl) (thn (he pins s σ H _ I h) fun u s1 ⟨x, H1, I1, rx, a, dx, fs, ex, ea, l, q⟩ => ?_) ht
  subst ex
  obtain rfl : u = Value.ref a := rx
  refine getmeth_ok I1 ea c hm l ?_
  exact PySem.W.callWith_K0 (first := [.ref a]) I1.kIn hm.kp (run_fn (us := [.ref a]) (vs := [.ref a]) F hr hb hd hx I1 (.cons rfl .nil) q)
structure Mk (K : PySem.W.Frag) (C f : Addr) : Prop where
  makes : PySem.W.makesIn K C = true
  init : PySem.W.findIn K (.ref C) "__init__" = some (some (.ref f))
  fn : PySem.W.isFn K (.ref f) = true
  kp : PySem.W.keepIn K (.ref C) = true
theorem run_make {pins : List (Addr × Obj)} {σ : St} {H : Hp} {s : Shared} {Q : VK} {us : List Value} {vs : List V} (M : Mk X.K C f) (F : FnOk X.prog X.w X.K X.mg X.base CX k f fd ps sp) (hr : Room (k + 1) X.A) (hb : Binds X.K fd ps ds) (hd : Vals dvs ds)
    (hx : Passes CX X E) (I : Inv X pins σ H s) (r : Vals vs us)
    (h : ∀ x dx, H x = none → H dx = none → dx ≠ x → sp (.ref x :: (vs ++ dvs)) (upd (upd H dx (.own x)) x (.ins C dx [])) (fun v H2 => v = .non ∧ Q (.ref x) H2) E) :
    wpAny (model X.prog X.w) X.A (call (.ref C) us) (EP X pins σ Q) X.xe s := by
  have hq := h (s.heap.objs.size + 1) s.heap.objs.size (I.hok.fresh (Nat.le_succ _)) (I.hok.fresh (Nat.le_refl _)) (Nat.ne_of_lt (Nat.lt_succ_self _))
  have I2 := Inv.made (C := C) I
  have r2 : Vals (V.ref (s.heap.objs.size + 1) :: (vs ++ dvs)) (Value.ref (s.heap.objs.size + 1) :: (us ++ ds)) := .cons rfl (r.append hd)
  have hl : (Value.ref (s.heap.objs.size + 1) :: us ++ ds).length = ps.length := by
    have e := r2.length
    rw [F.len _ _ _ _ hq] at e
    exact e.symm
  refine wpAny_call (make_map (f := f) I.kIn M.makes M.init (beq_iff_eq.mp M.fn) (codeAny_mono (F.run _ X.stack _ _ ⟨Value.ref (s.heap.objs.size + 1) :: us, []⟩ (Value.ref (s.heap.objs.size + 1) :: (us ++ ds)) _ _ E (hr.make C us [])
    (I2.env0.make C us []) (hb _ (Value.ref (s.heap.objs.size + 1) :: us) I2.kIn hl) r2 hq) fun r s' hq' => ?_))
  cases r with
  | error e => exact hx pins σ _ _ e s' I2 hq'
  | ok fl =>
    cases fl with
    | ret u =>
      obtain ⟨v, H', I3, rv, ev, q3⟩ := I2.after hq'
      subst ev
      exact ⟨rv, ⟨V.ref (s.heap.objs.size + 1), H', I3, rfl, q3⟩⟩
    | next => exact False.elim hq'
    | brk => exact False.elim hq'
    | cont => exact False.elim hq'
theorem pe_make (M : Mk X.K C f) (F : FnOk X.prog X.w X.K X.mg X.base CX k f fd ps sp) (hr : Room (k + 1) X.A) (hg : Gl X x) (hm : X.mg x = some (.ref C)) (hb : Binds X.K fd ps ds) (hd : Vals dvs ds) (hx : Passes CX X E)
    (ha : PA X (e :: es) t) (hdb : (x == ("__debug__" : Str)) = false := by decide) (he : starEach (e :: es) X.env = (false, eval e X.env) :: starEach es X.env := by rfl) (hpl : (backTo pos (starEach es X.env)).any (·.1) = false := by rfl) :
    PE X (.Call (.Name x p) (e :: es) [] pos) (tMake C sp dvs E t) := by
  intro pins s σ H Q I h
  refine wpAny_Call_Name_kw (ld_glob I hg hm ?_ hdb)
  refine PySem.W.callWith_K (h₀ := X.base) I.ok.mod.kin M.kp (thn (ha pos pins s σ H _ I h) fun us s1 ⟨vs, H1, I1, r, q⟩ => ⟨I1.kIn, ?_⟩) he hpl
  exact run_make M F hr hb hd hx I1 r q
theorem pe_make0 (M : Mk X.K C f) (F : FnOk X.prog X.w X.K X.mg X.base CX k f fd ps sp) (hr : Room (k + 1) X.A) (hg : Gl X x) (hm : X.mg x = some (.ref C)) (hb : Binds X.K fd ps ds) (hd : Vals dvs ds) (hx : Passes CX X E)
    (hdb : (x == ("__debug__" : Str)) = false := by decide) : PE X (.Call (.Name x p) [] [] pos) (tMake C sp dvs E tNil) := by
  intro pins s σ H Q I h
  refine wpAny_Call_Name_kw (ld_glob I hg hm ?_ hdb)
  exact PySem.W.callWith_K0 I.kIn M.kp (run_make (us := []) M F hr hb hd hx I .nil h)
end
section
variable {X : Cx} {CX : CXT} {k : Nat} {f C : Addr} {fd : FuncData} {ps ks : List Str} {sp : Sp} {E : XK} {x m : Str} {p pos apos kpos : Pos} {e o : Expr} {es : List Expr} {kws : List Keyword} {te ta : TE} {t tk : TA} {nm : Option Str}
variable {g : List Value → List Value → List Value} {gV : List V → List V → List V}
end
structure FnScope (N P : List Str) (sc : Scope) : Prop where
  kind : sc.kind = .function
  co : sc.isCoroutine = false
  gen : sc.isGenerator = false
  nd : N.Nodup
  pre : N.take P.length = P
  par : ∀ x ∈ P, sc.names.lookup x = some .local ∨ sc.names.lookup x = some .cell
  nofree : ∀ y ∈ sc.names, y.2 ≠ .free
theorem bindL_out {kindOf : Str → Option NameKind} {x : Str} : ∀ {binds : List (Str × Value)} {m : Str → Option Value}, (∀ v, (x, v) ∉ binds) → bindL kindOf binds m x = m x
  | [], _, _ => rfl
  | (n, v) :: r, m, h => by
    unfold bindL
    rw [bindL_out fun w hw => h w (List.mem_cons_of_mem _ hw)]
    split
    · have : x ≠ n := by rintro rfl; exact h v List.mem_cons_self
      simp [this]
    · rfl
theorem bindC_out {kindOf : Str → Option NameKind} {x : Str} : ∀ {binds : List (Str × Value)} {m : Str → Option Value}, (∀ v, (x, v) ∉ binds) → bindC kindOf binds m x = m x
  | [], _, _ => rfl
  | (n, v) :: r, m, h => by
    unfold bindC
    rw [bindC_out fun w hw => h w (List.mem_cons_of_mem _ hw)]
    split
    · rfl
    · have : x ≠ n := by rintro rfl; exact h v List.mem_cons_self
      simp [this]
theorem bindL_get {kindOf : Str → Option NameKind} {x : Str} {v : Value} : ∀ {P : List Str} {vs : List Value} {i : Nat} {m : Str → Option Value}, P.Nodup → P[i]? = some x → vs[i]? = some v → kindOf x = some .local →
    bindL kindOf (P.zip vs) m x = some v
  | [], _, _, _, _, h, _, _ => by simp at h
  | _ :: _, [], _, _, _, _, h, _ => by simp at h
  | p :: P, w :: vs, 0, m, nd, h1, h2, hk => by
    simp at h1 h2; subst h1; subst h2
    show bindL kindOf ((p, w) :: P.zip vs) m p = _
    unfold bindL
    rw [bindL_out fun v hv => (List.nodup_cons.mp nd).1 (List.of_mem_zip hv).1, if_pos hk]
    simp
  | p :: P, w :: vs, i + 1, m, nd, h1, h2, hk => by
    show bindL kindOf ((p, w) :: P.zip vs) m x = _
    unfold bindL
    exact bindL_get (i := i) (List.nodup_cons.mp nd).2 (by simpa using h1) (by simpa using h2) hk
theorem bindC_get {kindOf : Str → Option NameKind} {x : Str} {v : Value} : ∀ {P : List Str} {vs : List Value} {i : Nat} {m : Str → Option Value}, P.Nodup → P[i]? = some x → vs[i]? = some v → kindOf x ≠ some .local →
    bindC kindOf (P.zip vs) m x = some v
  | [], _, _, _, _, h, _, _ => by simp at h
  | _ :: _, [], _, _, _, _, h, _ => by simp at h
  | p :: P, w :: vs, 0, m, nd, h1, h2, hk => by
    simp at h1 h2; subst h1; subst h2
    show bindC kindOf ((p, w) :: P.zip vs) m p = _
    unfold bindC
    rw [bindC_out fun v hv => (List.nodup_cons.mp nd).1 (List.of_mem_zip hv).1, if_neg hk]
    simp
  | p :: P, w :: vs, i + 1, m, nd, h1, h2, hk => by
    show bindC kindOf ((p, w) :: P.zip vs) m x = _
    unfold bindC
    exact bindC_get (i := i) (List.nodup_cons.mp nd).2 (by simpa using h1) (by simpa using h2) hk
def start (N : List Str) (vs : List V) : St := vs.map some ++ List.replicate (N.length - vs.length) none
def cxOf (CX : CXT) (P : Program) (w : World) (K : PySem.W.Frag) (mg : Str → Option Value) (base : Heap) (N : List Str) (qual : Str) (scope : Scope) (f : Addr) (cd : Value) (A : Around) (outer : List Env) (s : Shared) (H : Hp) (E : XK) : Cx where
  prog := P
  w := w
  K := K
  mg := mg
  base := base
  A := A.deeper (envOfC qual scope s.heap.objs.size f cd)
  N := N
  s_0 := s
  H_0 := H
  env := envOfC qual scope s.heap.objs.size f cd
  outer := outer
  stack := envOfC qual scope s.heap.objs.size f cd :: outer
  ex := []
  calm := true
  fn := fun _ => true
  pn := []
  xe := fun e s' => wpAny (model P w) (A.deeper (envOfC qual scope s.heap.objs.size f cd)) (leaving (envOfC qual scope s.heap.objs.size f cd) e) (fun _ s'' => CX outer H s E e s'') (fun e' s'' => CX outer H s E e' s'') s'
theorem cell_has {sc : Scope} {n : Nat} {x : Str} (h : sc.names.lookup x = some .cell) : ∃ c, (cellsFrom n sc.names []).lookup x = some c := by
  have q := PySem.W.cellsFrom_some sc.names n [] (.inl h)
  exact Option.isSome_iff_exists.mp q
theorem inv_start {CX : CXT} {P : Program} {w : World} {K : PySem.W.Frag} {mg : Str → Option Value} {base : Heap} {N ps : List Str} {qual : Str} {scope : Scope} {f : Addr} {cd : Value} {A : Around} {outer : List Env} {s s1 : Shared} {H : Hp} {E : XK} {us : List Value} {vs : List V}
    (S : FnScope N ps scope) (hd : A.handled = none) (e0 : Env0 P w K mg base A outer s H) (hl : vs.length = ps.length) (r : Vals vs us)
    (x : InCallC s s.heap.objs.size (bindL (envOfC qual scope s.heap.objs.size f cd).kindOf (ps.zip us) fun _ => none) (cellsFrom (s.heap.objs.size + 1) scope.names []) (bindC (envOfC qual scope s.heap.objs.size f cd).kindOf (ps.zip us) fun _ => none) s1) :
    Inv (cxOf CX P w K mg base N qual scope f cd A outer s H E) [] (start N vs) H s1 := by
  have hpl : ps.length ≤ N.length := by have := congrArg List.length S.pre; rw [List.length_take] at this; omega
  obtain ⟨h1, tk, rfl, hk⟩ := x.done
  have noA : ∀ b : Addr, b ∉ (cxOf CX P w K mg base N qual scope f cd A outer s H E).ex := fun b z => absurd (show b ∈ ([] : List Addr) from z) (by simp)
  refine ⟨⟨e0.mod, S.kind, rfl, rfl, Nat.le_refl _, fun y z c h1 h2 => ?_, fun y hy => ?_, fun y c _ h => ?_, fun _ => hd, Around.frames_deeper e0.frames, .inr ⟨rfl, rfl⟩, fun b z => absurd z (noA b), e0.bs, e0.bsz, fun b _ _ => noA b, fun b z => absurd z (noA b), e0.funs, e0.frf⟩,
    rfl, e0.bare, Un.kept hk, ⟨_, x.toInCall.ns, fun i y v h1 h2 h3 => ?_⟩, fun y c h => ⟨_, x.cell y c h⟩, e0.hok.fresh (Nat.le_refl _), fun y c h => ?_, fun p hp => absurd (show p ∈ ([] : List (Addr × Obj)) from hp) (by simp), e0.hok.kept hk, ?_⟩
  · exact name_of_addr x.apart (PySem.mem_of_lookup h1) (PySem.mem_of_lookup h2)
  · have hy : scope.names.lookup y = some .cell ∨ scope.names.lookup y = some .free := hy
    rcases hy with hy | hy
    · exact cell_has hy
    · exact absurd rfl (S.nofree _ (PySem.mem_of_lookup hy))
  · exact Nat.le_of_lt (x.above y c (PySem.mem_of_lookup h))
  · have hi : i < vs.length := by
      unfold start at h2
      by_cases hi : i < vs.length
      · exact hi
      · rw [List.getElem?_append_right (by simpa using hi)] at h2
        rw [List.getElem?_replicate] at h2
        split at h2 <;> cases h2
    have ha : vs[i]? = some v := by
      unfold start at h2
      rw [List.getElem?_append_left (by simpa using hi), List.getElem?_map] at h2
      cases e : vs[i]? with
      | none => rw [e] at h2; cases h2
      | some a => rw [e] at h2; cases h2; rfl
    obtain ⟨u, hu, rv⟩ := r.get ha
    have hp : ps[i]? = some y := by
      rw [← S.pre, List.getElem?_take_of_lt (by omega)]; exact h1
    have ndP : ps.Nodup := by rw [← S.pre]; exact S.nd.sublist (List.take_sublist _ _)
    refine ⟨u, rv, ?_⟩
    rcases S.par y (List.mem_of_getElem? hp) with k | k
    · exact .inl ⟨k, bindL_get ndP hp hu k⟩
    · obtain ⟨c, e⟩ := cell_has (n := s.heap.objs.size + 1) k
      refine .inr ⟨.inl k, c, e, ?_⟩
      have q := x.cell y c e
      rw [bindC_get ndP hp hu (by show scope.names.lookup y ≠ _; rw [k]; decide)] at q
      exact q
  · exact e0.hok.fresh (Nat.le_of_lt (x.above y c (PySem.mem_of_lookup h)))
  · unfold start
    show _ = N.length
    rw [List.length_append, List.length_map, List.length_replicate]
    omega
theorem fn_of {CX : CXT} {P : Program} {w : World} {K : PySem.W.Frag} {mg : Str → Option Value} {base : Heap} {k : Nat} {f : Addr} {name qual : Str} {params : Arguments} {body : List Stmt} {scope : Scope} {dV kV doc pm cdv ct oc : Value} {an od : Option Addr}
    {osl : Array (Option Value)} {N ps : List Str} {sp : Sp} (lk : K.lookup f = some ⟨oc, od, .func (PySem.W.fnOf name qual params body scope dV kV doc pm an cdv ct), osl⟩) (hcd : PySem.W.codeIn K cdv qual = true) (S : FnScope N ps scope)
    (len : ∀ vs H Q E, sp vs H Q E → vs.length = ps.length)
    (hbody : ∀ (A : Around) (outer : List Env) (s : Shared) (H : Hp) (vs : List V) (Q : VK) (E : XK), Room k (A.deeper (envOfC qual scope s.heap.objs.size f cdv)) → sp vs H Q E →
      ∃ t, PSs (cxOf CX P w K mg base N qual scope f cdv A outer s H E) body t ∧ t { nx := fun _ H' => Q .non H', rt := Q } (start N vs) H) :
    FnOk P w K mg base CX (k + 1) f (PySem.W.fnOf name qual params body scope dV kV doc pm an cdv ct) ps sp := by
  refine ⟨len, fun A outer s H args us vs Q E hr e0 hb r hsp => ?_⟩
  have hl := len _ _ _ _ hsp
  have KX : K.In s.heap := e0.mod.kin.keeps fun b o e => (e0.bs b o e).1
  have lim : s.heap.NoLimit := e0.mod.nolimit.keeps fun b o e => (e0.bs b o e).1
  have hkind : ∀ y ∈ ps.zip us, scope.names.lookup y.1 = some .local ∨ (scope.names.lookup y.1 = some .cell ∧ ((cellsFrom (s.heap.objs.size + 1) scope.names []).lookup y.1).isSome = true) := fun ⟨n, v⟩ hy => by
    rcases S.par n (List.of_mem_zip hy).1 with q | q
    · exact .inl q
    · exact .inr ⟨q, PySem.W.cellsFrom_some _ _ _ (.inl q)⟩
  refine codeAny_call_function hr.depth (KX _ _ lk) rfl S.co S.gen rfl (PySem.W.codeRec_of KX hcd) (hb _ _ _ _ ?_)
  refine wpAny_newFunctionEnv_cells S.kind hkind fun env he s1 x => ?_
  subst he
  refine ⟨lim.keeps x.toInCall.keep, codeAny_func ?_⟩
  obtain ⟨t, ht, hq⟩ := hbody A outer s H vs Q E (hr.deeper _) hsp
  have I : Inv (cxOf CX P w K mg base N qual scope f cdv A outer s H E) [] (start N vs) H s1 := inv_start S hr.hd e0 hl r x
  refine wpAny_mono (ht [] s1 (start N vs) H _ I hq) (fun fl s' hs => ?_) fun e s' hs => hs
  have fin : ∀ {σ' : St} {H' : Hp} {v : V} {u : Value}, Inv (cxOf CX P w K mg base N qual scope f cdv A outer s H E) [] σ' H' s' → RelV v u → Q v H' → CE outer P w H s Q u s' :=
    fun {σ' H' v u} J rv q => ⟨v, H', J.os, J.bare, J.base, J.hok, rv, q⟩
  cases fl with
  | ret u =>
    obtain ⟨v, σ', H', J, rv, q⟩ := hs
    exact fin J rv q
  | next =>
    obtain ⟨σ', H', J, q⟩ := hs
    exact fin (v := V.non) (u := Value.none) J rfl q
  | brk =>
    obtain ⟨_, _, _, q⟩ := hs
    exact False.elim q
  | cont =>
    obtain ⟨_, _, _, q⟩ := hs
    exact False.elim q
end L2
namespace L2
open PySem PySem.Spec PyProof.Rows
section
variable {X : Cx} {x : Str} {p pos : Pos} {e : Expr} {es : List Expr} {t : TA} {id T : String} {r : List V → Hp → VK → Prop}
def tCB (r : List V → Hp → VK → Prop) (t : TA) : TE := fun σ H Q => t σ H fun vs H1 => r vs H1 Q
theorem pe_callB (hc : CallR X (.builtin id) r) (hg : Gl X x) (hm : X.mg x = none) (hv : bootBuiltins x = some (.builtin id)) (ha : PA X (e :: es) t) (hn : x ≠ "__name__" := by decide) (hdb : (x == ("__debug__" : Str)) = false := by decide)
    (he : starEach (e :: es) X.env = (false, eval e X.env) :: starEach es X.env := by rfl) (hpl : (backTo pos (starEach es X.env)).any (·.1) = false := by rfl) : PE X (.Call (.Name x p) (e :: es) [] pos) (tCB r t) := by
  intro pins s σ H Q I h
  refine wpAny_Call_Name_kw (ld_blt I hg hm hv ?_ hn hdb)
  exact PyProof.Rows.callWith_builtin1 (thn (ha pos pins s σ H _ I h) fun us s1 ⟨vs, H1, I1, r1, q1⟩ => hc pins s1 σ H1 vs us Q I1 r1 q1) he hpl
theorem pe_callTy (hc : CallR X (.type T) r) (hg : Gl X x) (hm : X.mg x = none) (hv : bootBuiltins x = some (.type T)) (ha : PA X (e :: es) t) (hn : x ≠ "__name__" := by decide) (hdb : (x == ("__debug__" : Str)) = false := by decide)
    (he : starEach (e :: es) X.env = (false, eval e X.env) :: starEach es X.env := by rfl) (hpl : (backTo pos (starEach es X.env)).any (·.1) = false := by rfl) : PE X (.Call (.Name x p) (e :: es) [] pos) (tCB r t) := by
  intro pins s σ H Q I h
  refine wpAny_Call_Name_kw (ld_blt I hg hm hv ?_ hn hdb)
  exact PyProof.Rows.callWith_type1 (thn (ha pos pins s σ H _ I h) fun us s1 ⟨vs, H1, I1, r1, q1⟩ => hc pins s1 σ H1 vs us Q I1 r1 q1) he hpl
end
end L2
namespace HT
open PySem PyProof.Rows
section
open PySem.SeqAt
open PySem.AutoSeq1 (wpAny_loadPart')
open PySem.MeetsSeq PySem.MeetsSeq2 PySem.MeetsSeq3
end
section
variable {prog : Program} {w : World} {A : Around} {E : Value → Shared → Prop} {s : Shared}
def sIx (n d : Nat) : Option Int → Nat
  | none => d
  | some v => if v < 0 then (v + (n : Int)).toNat else min v.toNat n
theorem sIx_nat (n d k : Nat) : sIx n d (some (k : Int)) = min k n := by
  show (if (k : Int) < 0 then ((k : Int) + (n : Int)).toNat else min (k : Int).toNat n) = min k n
  rw [if_neg (by omega), Int.toNat_natCast]
end
end HT
namespace L2
open PySem PySem.Spec PyProof.Rows
abbrev TO := St → Hp → (Option Int → Hp → Prop) → Prop
def PO (X : Cx) (e : Option Expr) (t : TO) : Prop :=
  ∀ (pins : List (Addr × Obj)) (s : Shared) (σ : St) (H : Hp) (Q : Option Int → Hp → Prop), Inv X pins σ H s → t σ H Q →
    wpAny (model X.prog X.w) X.A (evalPart e X.env) (fun u s' => ∃ o H', Inv X pins σ H' s' ∧ IsPart u o ∧ Q o H') X.xe s
def tPart (t : TE) : TO := fun σ H Q => t σ H fun x H1 => ∃ i, x = .int i ∧ Q (some i) H1
section
variable {X : Cx} {e : Expr} {te : TE} {lo hi : Option Expr} {tl th : TO} {pos p2 : Pos}
theorem po_some (h : PE X e te) : PO X (some e) (tPart te) := by
  intro pins s σ H Q I hw
  rw [evalPart_some]
  refine thn (h pins s σ H _ I hw) fun u s1 ⟨x, H1, I1, r1, q1⟩ => ?_
  obtain ⟨i, rfl, q⟩ := q1
  obtain ⟨t, rfl⟩ := r1
  exact ⟨some i, H1, I1, .int i t, q⟩
def SlR (X : Cx) (r : V → Option Int → Option Int → Hp → VK → Prop) : Prop :=
  ∀ (pins : List (Addr × Obj)) (s : Shared) (σ : St) (H : Hp) (x : V) (v vl vu : Value) (lo hi : Option Int) (sl : Addr) (Q : VK), Inv X pins σ H s → RelV x v → s.heap.IsSliceOf sl vl vu .none → IsPart vl lo → IsPart vu hi → r x lo hi H Q →
    ∃ T id, typeLookup (.type T) "__getitem__" = pure (some (.builtin id)) ∧ s.TypeIs v T ∧ wpAny (model X.prog X.w) X.A (getItem v (.ref sl)) (EP X pins σ Q) X.xe s
def tSl (r : V → Option Int → Option Int → Hp → VK → Prop) (te : TE) (tl th : TO) : TE := fun σ H Q => te σ H fun x H1 => tl σ H1 fun l H2 => th σ H2 fun u H3 => r x l u H3 Q
theorem pe_slice {r : V → Option Int → Option Int → Hp → VK → Prop} (hr : SlR X r) (he : PE X e te) (hl : PO X lo tl) (hu : PO X hi th) : PE X (.Subscript e (.Slice lo hi none p2) pos) (tSl r te tl th) := by
  intro pins s σ H Q I h
  refine Subscript_ (thn (he pins s σ H _ I h) fun v s1 ⟨x, H1, I1, r1, q1⟩ => ?_)
  refine wpAny_Slice (thn (hl pins s1 σ H1 _ I1 q1) fun vl s2 ⟨l, H2, I2, pl, q2⟩ => thn (hu pins s2 σ H2 _ I2 q2) fun vu s3 ⟨u, H3, I3, pu, q3⟩ => ?_)
  rw [evalPart_none]
  refine wpAny_pure ?_
  have I4 : Inv X pins σ H3 { s3 with heap := s3.heap.push { cls := .type "slice", data := .fields #[vl, vu, .none] } } := I3.kept (t' := s3.toks) fun b ob q => Heap.get?_push_of_some _ q
  obtain ⟨T, id, hT, ht, hg⟩ := hr pins { s3 with heap := s3.heap.push { cls := .type "slice", data := .fields #[vl, vu, .none] } } σ H3 x v vl vu l u s3.heap.objs.size Q I4 r1 (Heap.IsSliceOf.new ..) pl pu q3
  show wpAny (model X.prog X.w) X.A (subscriptTail e (.Slice lo hi none p2) v (.ref s3.heap.objs.size)) (EP X pins σ Q) X.xe { s3 with heap := s3.heap.push { cls := .type "slice", data := .fields #[vl, vu, .none] } }
  exact tail_any (ops := [.ref s3.heap.objs.size, v]) ht hT hg (by with_unfolding_all rfl)
def cutV (xs : List V) (lo hi : Option Int) : List V := (xs.drop (HT.sIx xs.length 0 lo)).take (HT.sIx xs.length xs.length hi - HT.sIx xs.length 0 lo)
theorem cutV_length (xs : List V) (lo hi : Option Int) : (cutV xs lo hi).length ≤ xs.length := by
  unfold cutV
  rw [List.length_take, List.length_drop]
  omega
end
end L2
namespace L2
open PySem PySem.Spec PyProof.Rows
def ixN (n : Nat) (i : Int) : Option Nat := if 0 ≤ i then (if i < n then some i.toNat else none) else if -(n : Int) ≤ i then some (i + n).toNat else none
def atI {α : Type} (xs : List α) (i : Int) : Option α := (ixN xs.length i).bind fun j => xs[j]?
theorem ixN_seq {n : Nat} {i : Int} {j : Nat} (h : ixN n i = some j) : seqIndex? i n = some j ∧ j < n ∧ -(n : Int) ≤ i ∧ i < n := by
  unfold ixN at h
  by_cases h0 : 0 ≤ i
  · rw [if_pos h0] at h
    by_cases h1 : i < n
    · rw [if_pos h1] at h
      have e : i.toNat = j := Option.some.inj h
      exact ⟨by rw [seqIndex_of h0 h1, e], by omega, by omega, h1⟩
    · rw [if_neg h1] at h; cases h
  · rw [if_neg h0] at h
    by_cases h1 : -(n : Int) ≤ i
    · rw [if_pos h1] at h
      have e : (i + n).toNat = j := Option.some.inj h
      exact ⟨by rw [seqIndex_neg (by omega) h1, e], by omega, h1, by omega⟩
    · rw [if_neg h1] at h; cases h
theorem atI_get {α : Type} {xs : List α} {i : Int} {v : α} (h : atI xs i = some v) : ∃ j, seqIndex? i xs.length = some j ∧ xs[j]? = some v ∧ j < xs.length ∧ -(xs.length : Int) ≤ i ∧ i < xs.length := by
  unfold atI at h
  cases e : ixN xs.length i with
  | none => rw [e] at h; cases h
  | some j =>
    rw [e] at h
    obtain ⟨h1, h2, h3, h4⟩ := ixN_seq e
    exact ⟨j, h1, h, h2, h3, h4⟩
theorem atI_nat {α : Type} {xs : List α} {j : Nat} {v : α} (h : xs[j]? = some v) : atI xs (j : Int) = some v := by
  have hj : j < xs.length := (List.getElem?_eq_some_iff.mp h).1
  have e : ixN xs.length (j : Int) = some j := by
    unfold ixN
    rw [if_pos (by omega), if_pos (by omega)]; simp
  unfold atI; rw [e]; exact h
def PlainIx (b : Expr) : Prop := ∀ o i, subscripted b false o i = operate [o, i] (getItem o i)
def IxR (X : Cx) (r : R2) : Prop :=
  ∀ (value slice : Expr) (pins : List (Addr × Obj)) (s : Shared) (σ : St) (H : Hp) (x y : V) (v u : Value) (Q : VK), Inv X pins σ H s → RelV x v → RelV y u → r x y H Q →
    subscripted slice false v u = operate [v, u] (getItem v u) → wpAny (model X.prog X.w) X.A (subscriptTail value slice v u) (EP X pins σ Q) X.xe s
def MtR (X : Cx) (id : String) (r : V → List V → Hp → VK → Prop) : Prop :=
  ∀ (pins : List (Addr × Obj)) (s : Shared) (σ : St) (H : Hp) (x : V) (xs : List V) (v : Value) (us : List Value) (Q : VK), Inv X pins σ H s → RelV x v → Vals xs us → r x xs H Q →
    wpAny (model X.prog X.w) X.A (call (.builtin id) (v :: us)) (EP X pins σ Q) X.xe s
section
variable {X : Cx} {a b : Expr} {ta tb : TE} {pos : Pos}
theorem pe_ix {r : R2} (hr : IxR X r) (ha : PE X a ta) (hb : PE X b tb) (hs : PlainIx b) : PE X (.Subscript a b pos) (tOp r ta tb) := by
  intro pins s σ H Q I h
  exact Subscript_ (binT ha hb I h fun v u s2 x y H2 I2 rx ry q => hr a b pins s2 σ H2 x y v u Q I2 rx ry q (hs _ _))
def rIxL (K : PySem.W.Frag) : R2 := fun x y H Q => ∃ p xs i v, x = .ref p ∧ y = .int i ∧ SqL K H p xs ∧ atI xs i = some v ∧ Q v H
def rIxT (K : PySem.W.Frag) : R2 := fun x y H Q => ∃ p xs i v, x = .ref p ∧ y = .int i ∧ SqT K H p xs ∧ atI xs i = some v ∧ Q v H
theorem ix_list : IxR X (rIxL X.K) := by
  intro value slice pins s σ H x y v u Q I rx ry h hs
  obtain ⟨p, xs, i, z, rfl, rfl, hq, he, q⟩ := h
  cases rx
  obtain ⟨t, rfl⟩ := ry
  obtain ⟨its, r, pl, hz⟩ := I.list hq
  obtain ⟨j, h1, h2, h3, h4, h5⟩ := atI_get he
  obtain ⟨w, ew, rw'⟩ := r.get h2
  have hl := r.length
  have hn := line63
  have fin : EP X pins σ Q w s := ⟨z, H, I, rw', q⟩
  by_cases h0 : 0 ≤ i
  · have hj : i.toNat = j := by
      rw [seqIndex_of h0 h5] at h1
      exact Option.some.inj h1
    exact item_listR pl.isList h0 (by omega) (by rw [hj]; simpa using ew) fin hs
  · have hj : (i + (its.toArray.size : Int)).toNat = j := by
      rw [seqIndex_neg (by omega) h4] at h1
      rw [List.size_toArray, ← hl]
      exact Option.some.inj h1
    exact subscriptTail_builtinR (x := w) pl.isList.typeIs slot_list_getitem.lookup
      (wpAny_getItem_list_neg (Q := fun r s' => r = w ∧ EP X pins σ Q r s') pl.isList (by omega) (by rw [List.size_toArray] <;> omega) (by omega) (by rw [hj]; simpa using ew) ⟨rfl, fin⟩) hs
theorem ix_tup : IxR X (rIxT X.K) := by
  intro value slice pins s σ H x y v u Q I rx ry h hs
  obtain ⟨p, xs, i, z, rfl, rfl, hq, he, q⟩ := h
  cases rx
  obtain ⟨t, rfl⟩ := ry
  obtain ⟨its, r, pl, hz⟩ := I.tuple hq
  obtain ⟨j, h1, h2, h3, h4, h5⟩ := atI_get he
  obtain ⟨w, ew, rw'⟩ := r.get h2
  have hl := r.length
  have hn := line63
  have fin : EP X pins σ Q w s := ⟨z, H, I, rw', q⟩
  exact subscriptTail_builtinR (x := w) pl.typeIs slot_tuple_getitem.lookup
    (getItem_tuple (j := j) (Q := fun r s' => r = w ∧ EP X pins σ Q r s') pl (by omega) (by omega) (by rw [List.size_toArray, ← hl]; exact h1) (by simpa using ew) ⟨rfl, fin⟩) hs
theorem slice_bounds (lo hi : Option Int) (n : Nat) : (sliceBounds lo hi none n).1 = ((HT.sIx n 0 lo : Nat) : Int) ∧ (sliceBounds lo hi none n).2.1 = ((HT.sIx n n hi : Nat) : Int) ∧ (sliceBounds lo hi none n).2.2 = 1 := by
  refine ⟨?_, ?_, rfl⟩
  · cases lo with
    | none => simp [sliceBounds, HT.sIx]
    | some i =>
      simp only [sliceBounds, HT.sIx, Option.getD_none, show (1 : Int) > 0 by decide, if_true]
      by_cases h : i < 0
      · simp only [h, if_true] <;> omega
      · simp only [h, if_false] <;> omega
  · cases hi with
    | none => simp [sliceBounds, HT.sIx]
    | some i =>
      simp only [sliceBounds, HT.sIx, Option.getD_none, show (1 : Int) > 0 by decide, if_true]
      by_cases h : i < 0
      · simp only [h, if_true] <;> omega
      · simp only [h, if_false] <;> omega
theorem slicePick_cut (its : List Value) (lo hi : Option Int) : slicePick its.toArray lo hi none = ((its.drop (HT.sIx its.length 0 lo)).take (HT.sIx its.length its.length hi - HT.sIx its.length 0 lo)).toArray := by
  obtain ⟨h1, h2, h3⟩ := slice_bounds lo hi its.toArray.size
  unfold slicePick
  rw [h1, h2, h3]
  simp only [sliceRange_one, pick_run, List.size_toArray] <;> rfl
def rSlL (K : PySem.W.Frag) : V → Option Int → Option Int → Hp → VK → Prop := fun x lo hi H Q => ∃ a xs, x = .ref a ∧ SqL K H a xs ∧ ∀ p, H p = none → Q (.ref p) (upd H p (.lst (cutV xs lo hi)))
theorem sl_list : SlR X (rSlL X.K) := by
  intro pins s σ H x v vl vu lo hi sl Q I rx hs pl pu h
  obtain ⟨a, xs, rfl, hx, q⟩ := h
  cases rx
  obtain ⟨its, r, ht, hz⟩ := I.list hx
  have hlen := r.length
  refine ⟨"list", _, slot_list_getitem.lookup, ht.isList.typeIs, ?_⟩
  refine wpAny_getItem_list_slice ht.isList hs pl pu .none (by simp) ?_ (by rw [List.size_toArray] <;> omega)
  rw [slicePick_cut, ← hlen]
  refine ⟨.ref s.heap.objs.size, _, I.laid (t' := s.toks) (o := .lst (cutV xs lo hi)) (fun b ob q => Heap.get?_push_of_some _ q) (Nat.le_refl _) ?_, rfl, q _ (I.hok.fresh (Nat.le_refl _))⟩
  exact ⟨Nat.le_trans (cutV_length xs lo hi) hz, _, 0, (r.drop (HT.sIx xs.length 0 lo)).take (HT.sIx xs.length xs.length hi - HT.sIx xs.length 0 lo), Heap.get?_push_size _ rfl⟩
def flatV : V → Bool
  | .non => true
  | .bl _ => true
  | .int _ => true
  | .str _ => true
  | _ => false
def eqV : V → V → Bool
  | .non, .non => true
  | .bl a, .bl b => a == b
  | .bl a, .int b => (if a then 1 else 0) == b
  | .int a, .bl b => a == (if b then 1 else 0)
  | .int a, .int b => a == b
  | .str a, .str b => a == b
  | _, _ => false
theorem eqAt_V {A : Around} {s : Shared} {y x : V} {u v : Value} (ry : RelV y u) (rx : RelV x v) (fy : flatV y = true) (fx : flatV x = true) : SeqAt.EqAt A s u v (eqV y x) := by
  cases y with
  | non =>
    cases ry
    cases x with
    | non => cases rx; exact SeqAt.EqAt.same _
    | bl b => cases rx; exact SeqAt.EqAt.none_bool b
    | int b => obtain ⟨t, rfl⟩ := rx; exact SeqAt.EqAt.none_int b t
    | str b => obtain ⟨t, rfl⟩ := rx; exact SeqAt.EqAt.none_str b t
    | _ => exact absurd (show false = true from fx) Bool.false_ne_true
  | bl a =>
    cases ry
    cases x with
    | non => cases rx; exact SeqAt.EqAt.bool_none a
    | bl b => cases rx; exact SeqAt.EqAt.bool_bool a b
    | int b => obtain ⟨t, rfl⟩ := rx; exact SeqAt.EqAt.bool_int a b t
    | str b => obtain ⟨t, rfl⟩ := rx; exact SeqAt.EqAt.bool_str a b t
    | _ => exact absurd (show false = true from fx) Bool.false_ne_true
  | int a =>
    obtain ⟨t', rfl⟩ := ry
    cases x with
    | non => cases rx; exact SeqAt.EqAt.int_none a t'
    | bl b => cases rx; exact SeqAt.EqAt.int_bool a t' b
    | int b => obtain ⟨t, rfl⟩ := rx; exact SeqAt.EqAt.int_int a t' b t
    | str b => obtain ⟨t, rfl⟩ := rx; exact SeqAt.EqAt.int_str a t' b t
    | _ => exact absurd (show false = true from fx) Bool.false_ne_true
  | str a =>
    obtain ⟨t', rfl⟩ := ry
    cases x with
    | non => cases rx; exact SeqAt.EqAt.str_none a t'
    | bl b => cases rx; exact SeqAt.EqAt.str_bool a t' b
    | int b => obtain ⟨t, rfl⟩ := rx; exact SeqAt.EqAt.str_int a t' b t
    | str b => obtain ⟨t, rfl⟩ := rx; exact SeqAt.EqAt.str_str a t' b t
    | _ => exact absurd (show false = true from fx) Bool.false_ne_true
  | _ => exact absurd (show false = true from fy) Bool.false_ne_true
def eqU (x : V) (u : Value) : Bool := match u with
  | .none => eqV .non x
  | .bool b => eqV (.bl b) x
  | .int i _ => eqV (.int i) x
  | .str z _ => eqV (.str z) x
  | _ => false
theorem eqU_of {x y : V} {u : Value} (r : RelV y u) (f : flatV y = true) : eqU x u = eqV y x := by
  cases y with
  | non => cases r; rfl
  | bl b => cases r; rfl
  | int i => obtain ⟨t, rfl⟩ := r; rfl
  | str z => obtain ⟨t, rfl⟩ := r; rfl
  | _ => exact absurd (show false = true from f) Bool.false_ne_true
theorem any_eqU {x : V} : ∀ {xs : List V} {us : List Value}, Vals xs us → xs.all flatV = true → us.any (eqU x) = xs.any fun y => eqV y x
  | _, _, .nil, _ => rfl
  | y :: xs, u :: us, .cons r t, f => by
    rw [List.all_cons, Bool.and_eq_true] at f
    rw [List.any_cons, List.any_cons, eqU_of r f.1, any_eqU t f.2]
theorem mem_eqAt {A : Around} {s : Shared} {x : V} {v : Value} (rx : RelV x v) (fx : flatV x = true) : ∀ {xs : List V} {us : List Value}, Vals xs us → xs.all flatV = true → ∀ u ∈ us, SeqAt.EqAt A s u v (eqU x u)
  | _, _, .nil, _ => fun u hu => by cases hu
  | y :: xs, u :: us, .cons r t, f => fun u' hu => by
    rw [List.all_cons, Bool.and_eq_true] at f
    rcases List.mem_cons.mp hu with rfl | hu
    · rw [eqU_of r f.1]; exact eqAt_V r rx f.1 fx
    · exact mem_eqAt rx fx t f.2 u' hu
def inV (x : V) (xs : List V) : Bool := xs.any fun y => eqV y x
def rIn (K : PySem.W.Frag) (neg : Bool) : R2 := fun x y H Q => ∃ p xs, y = .ref p ∧ (SqL K H p xs ∨ SqT K H p xs) ∧ flatV x = true ∧ xs.all flatV = true ∧ Q (.bl (if neg then !inV x xs else inV x xs)) H
theorem op_in_seq : OpR X (compareOp .In) (rIn X.K false) := by
  intro pins s σ H x y v u Q I rx ry h
  obtain ⟨p, xs, rfl, hq, fx, fs, q⟩ := h
  cases ry
  rcases hq with hq | hq
  · obtain ⟨its, r, pl, hz⟩ := I.list hq
    refine SeqAt.in_listAt (eqU x) pl.isList (fun w hw => mem_eqAt rx fx r fs w (by simpa using hw)) ⟨.bl _, H, I, rfl, ?_⟩
    rw [show its.toArray.any (eqU x) = its.any (eqU x) by simp, any_eqU r fs]
    exact q
  · obtain ⟨its, r, pl, hz⟩ := I.tuple hq
    refine SeqAt.in_tupleAt (eqU x) pl (fun w hw => mem_eqAt rx fx r fs w (by simpa using hw)) ⟨.bl _, H, I, rfl, ?_⟩
    rw [show its.toArray.any (eqU x) = its.any (eqU x) by simp, any_eqU r fs]
    exact q
theorem call_len_seq : CallR X (.builtin "len") (fun xs H Q => ∃ p ys, xs = [.ref p] ∧ (SqL X.K H p ys ∨ SqT X.K H p ys) ∧ Q (.int ys.length) H) := by
  intro pins s σ H xs us Q I r h
  obtain ⟨p, ys, rfl, hq, q⟩ := h
  obtain ⟨u, rfl, rx⟩ := vals1 r
  cases rx
  have hn := line63
  rcases hq with hq | hq
  · obtain ⟨its, r', pl, hz⟩ := I.list hq
    have hlen := r'.length
    exact Calls.call_len_list pl.isList (by simp only [List.size_toArray] <;> omega) ⟨.int ys.length, H, I.tok _, ⟨s.toks + 1, by rw [List.size_toArray, hlen]⟩, q⟩
  · obtain ⟨its, r', pl, hz⟩ := I.tuple hq
    have hlen := r'.length
    exact len_tuple pl (by simp only [List.size_toArray] <;> omega) ⟨.int ys.length, H, I.tok _, ⟨s.toks + 1, by rw [List.size_toArray, hlen]⟩, q⟩
theorem call_tuple_of : CallR X (.type "tuple") (fun xs H Q => ∃ p ys, xs = [.ref p] ∧ ((SqL X.K H p ys ∧ ∀ l, H l = none → Q (.ref l) (upd H l (.tup ys))) ∨ (SqT X.K H p ys ∧ Q (.ref p) H))) := by
  intro pins s σ H xs us Q I r h
  obtain ⟨p, ys, rfl, h⟩ := h
  obtain ⟨u, rfl, rx⟩ := vals1 r
  cases rx
  rcases h with ⟨hq, q⟩ | ⟨hq, q⟩
  · obtain ⟨its, r', pl, hz⟩ := I.list hq
    have hlen := r'.length
    refine call_tuple_list pl.isList (fun h' kp => ?_) (by simp only [List.size_toArray] <;> omega)
    have I1 : Inv X pins σ H { s with heap := h' } := I.kept (t' := s.toks) kp
    have I2 : Inv X pins σ (upd H h'.objs.size (.tup ys)) { s with heap := h'.push { cls := .type "tuple", data := .seq its.toArray } } :=
      I1.laid (t' := s.toks) (fun b o e => Heap.get?_push_of_some _ e) (Nat.le_refl _) (show ObjOk X.prog X.w _ _ _ (.tup ys) from ⟨hz, its, r', IsTup.new _ _⟩)
    exact ⟨.ref h'.objs.size, _, I2, rfl, q _ (I1.hok.fresh (Nat.le_refl _))⟩
  · obtain ⟨its, r', pl, hz⟩ := I.tuple hq
    exact call_tuple_same pl ⟨.ref p, H, I, rfl, q⟩
def tyV (K : PySem.W.Frag) (T : String) (x : V) (H : Hp) : Prop := match x with
  | .str _ => T = "str"
  | .int _ => T = "int"
  | .ref p => (T = "list" ∧ ∃ xs, SqL K H p xs) ∨ (T = "tuple" ∧ ∃ o, K.lookup p = some o ∧ o.cls = .type "tuple" ∧ o.dict = none) ∨
      (T = "dict" ∧ ((∃ kvs, H p = some (.dK kvs)) ∨ ∃ kvs, H p = some (.dT kvs))) ∨ (T = "set" ∧ ∃ S n, H p = some (.set S n))
  | _ => False
theorem tyV_is {pins : List (Addr × Obj)} {σ : St} {H : Hp} {s : Shared} {T : String} {x : V} {v : Value} (I : Inv X pins σ H s) (r : RelV x v) (ty : tyV X.K T x H) :
    s.TypeIs v T ∧ ∀ a, v = .ref a → ∃ ob, s.heap.get? a = some ob ∧ ob.dict = none := by
  cases x with
  | str z =>
    obtain ⟨t, rfl⟩ := r
    cases (show T = "str" from ty)
    exact ⟨typeIs_str s z t, fun _ e => nomatch e⟩
  | int i =>
    obtain ⟨t, rfl⟩ := r
    cases (show T = "int" from ty)
    exact ⟨typeIs_int s i t, fun _ e => nomatch e⟩
  | ref p =>
    cases r
    rcases ty with ⟨rfl, xs, hq⟩ | ⟨rfl, o, hk, hc, hd⟩ | ⟨rfl, hk⟩ | ⟨rfl, S, n, hk⟩
    · obtain ⟨its, _, pl, _⟩ := I.list hq
      refine ⟨pl.isList.typeIs, fun a e => ?_⟩
      cases e
      obtain ⟨o, n, e, c, hd, _⟩ := pl
      exact ⟨o, e, hd⟩
    · refine ⟨⟨o, I.kIn p o hk, hc⟩, fun a e => ?_⟩
      cases e
      exact ⟨o, I.kIn _ o hk, hd⟩
    · have z : ∃ o, s.heap.get? p = some o ∧ o.ExactDict := by
        rcases hk with ⟨kvs, hk⟩ | ⟨kvs, hk⟩
        · obtain ⟨_, _, _, _, o, _, _, e, ex, _⟩ := I.hok p _ hk
          exact ⟨o, e, ex⟩
        · obtain ⟨_, _, _, _, o, _, _, e, ex, _⟩ := I.hok p _ hk
          exact ⟨o, e, ex⟩
      obtain ⟨o, e, ex⟩ := z
      refine ⟨⟨o, e, ex.1⟩, fun a e2 => ?_⟩
      cases e2
      exact ⟨o, e, ex.2.1⟩
    · obtain ⟨o, _, _, _, e, ex, _⟩ := I.hok p _ hk
      refine ⟨⟨o, e, ex.1⟩, fun a e2 => ?_⟩
      cases e2
      exact ⟨o, e, ex.2.1⟩
  | _ => exact False.elim ty
def tBM0 (K : PySem.W.Frag) (T : String) (r : V → List V → Hp → VK → Prop) (to : TE) : TE := fun σ H Q => to σ H fun x H1 => tyV K T x H1 ∧ r x [] H1 Q
def tBM (K : PySem.W.Frag) (T : String) (r : V → List V → Hp → VK → Prop) (to : TE) (t : TA) : TE := fun σ H Q => to σ H fun x H1 => tyV K T x H1 ∧ t σ H1 fun xs H2 => r x xs H2 Q
variable {o e : Expr} {es : List Expr} {to : TE} {t : TA} {name : Str} {apos cpos : Pos} {T id : String} {r : V → List V → Hp → VK → Prop}
theorem pe_bm0 (pa : PlainAttrs T) (slot : Slot T name id) (hty : typeOf (.builtin id) = pure (.type "method_descriptor")) (hm : MtR X id r) (ho : PE X o to)
    (hbase : attributeBase o name X.env (eval o X.env) = eval o X.env := by rfl) (hline : (apos.endLine == cpos.line) = true := by rfl) : PE X (.Call (.Attribute o name apos) [] [] cpos) (tBM0 X.K T r to) := by
  intro pins s σ H Q I h
  refine wpAny_Call_method0_late hbase hline (thn (ho pins s σ H _ I h) fun v s1 ⟨x, H1, I1, r1, ty, q1⟩ => ?_)
  obtain ⟨h1, h2⟩ := tyV_is I1 r1 ty
  exact ⟨T, id, pa, slot, hty, h1, h2, Calls.callWith_builtin rfl (PySem.evalArgs_none (hm pins s1 σ H1 x [] v [] Q I1 r1 .nil q1))⟩
theorem pe_bm (pa : PlainAttrs T) (slot : Slot T name id) (hty : typeOf (.builtin id) = pure (.type "method_descriptor")) (hm : MtR X id r) (ho : PE X o to) (ha : PA X (e :: es) t)
    (hbase : attributeBase o name X.env (eval o X.env) = eval o X.env := by rfl)
    (hfew : ((backTo cpos (starEach (e :: es) X.env)).all (fun x => !x.1) && (backToKw cpos (keywordEach [] X.env)).all (fun x => x.1.isSome)
      && decide ((e :: es).length + ([] : List Keyword).length + (if ([] : List Keyword).isEmpty then 0 else 1) < 30)) = true := by rfl)
    (hline : (apos.endLine == cpos.line) = true := by rfl) (hs : starEach (e :: es) X.env = (false, eval e X.env) :: starEach es X.env := by rfl) (hplain : (backTo cpos (starEach es X.env)).any (·.1) = false := by rfl) :
    PE X (.Call (.Attribute o name apos) (e :: es) [] cpos) (tBM X.K T r to t) := by
  intro pins s σ H Q I h
  refine wpAny_Call_method_late hbase hfew hline rfl (thn (ho pins s σ H _ I h) fun v s1 ⟨x, H1, I1, r1, ty, q1⟩ => ?_)
  obtain ⟨h1, h2⟩ := tyV_is I1 r1 ty
  refine ⟨T, id, pa, slot, hty, h1, h2, ?_⟩
  have hA := ha cpos pins s1 σ H1 _ I1 q1
  rw [hs] at hA ⊢
  refine Calls.callWith_builtin (by show (false || (backTo cpos (starEach es X.env)).any (·.1)) = false; rw [hplain] <;> rfl) (Calls.evalArgs_plain ?_)
  exact thn hA fun us s2 ⟨vs, H2, I2, r2, q2⟩ => hm pins s2 σ H2 x vs v us Q I2 r1 r2 q2
end
end L2
namespace L2
open PySem PySem.Spec PyProof.Rows
def MtM (X : Cx) (id : String) (r : V → List V → Hp → VK → Prop) : Prop :=
  ∀ (pins : List (Addr × Obj)) (s : Shared) (σ : St) (H : Hp) (x : V) (xs : List V) (v : Value) (us : List Value) (Q : VK), Inv X pins σ H s → RelV x v → Vals xs us → r x xs H Q →
    wpAny (model X.prog X.w) X.A (call (.builtin id) (v :: us)) (EP X pins σ Q) X.xe s
theorem Vals.one : ∀ {x : V} {us : List Value}, Vals [x] us → ∃ u, us = [u] ∧ RelV x u
  | _, _, .cons r .nil => ⟨_, rfl, r⟩
theorem Vals.zero : ∀ {us : List Value}, Vals [] us → us = []
  | _, .nil => rfl
theorem Vals.dropLast {xs : List V} {us : List Value} (h : Vals xs us) : Vals xs.dropLast us.dropLast := by
  induction h with
  | nil => exact .nil
  | cons r t ih =>
    cases t with
    | nil => exact .nil
    | cons q t' => exact .cons r ih
theorem Vals.eraseIdx : ∀ {xs : List V} {us : List Value} (i : Nat), Vals xs us → Vals (xs.eraseIdx i) (us.eraseIdx i)
  | _, _, _, .nil => .nil
  | _, _, 0, .cons _ t => t
  | _, _, i + 1, .cons r t => .cons r (Vals.eraseIdx i t)
theorem erase_last {α : Type} (l : List α) : l.eraseIdx (l.length - 1) = l.dropLast := by
  induction l with
  | nil => rfl
  | cons a r ih =>
    cases r with
    | nil => rfl
    | cons b r =>
      have e : (a :: b :: r).length - 1 = ((b :: r).length - 1) + 1 := by
        have h1 : (a :: b :: r).length = r.length + 2 := rfl
        have h2 : (b :: r).length = r.length + 1 := rfl
        omega
      rw [e, List.eraseIdx_cons_succ, ih]
      all_goals rfl
theorem len_erase {α : Type} : ∀ (l : List α) (i : Nat), (l.eraseIdx i).length ≤ l.length
  | [], _ => Nat.le_refl _
  | _ :: _, 0 => Nat.le_succ _
  | _ :: r, i + 1 => Nat.succ_le_succ (len_erase r i)
section
variable {X : Cx} {pins : List (Addr × Obj)} {σ : St} {H : Hp} {s : Shared} {l b : Addr} {xs ys zs : List V}
theorem Inv.lset {its its' : List Value} {n : Nat} {f : Array Value → Array Value} {t' : Nat} (I : Inv X pins σ H s) (hH : H l = some (.lst xs))
    (e : s.heap.get? l = some { cls := .type "list", data := .seq its.toArray n }) (hf : f its.toArray = its'.toArray) (hv : Vals ys its') (hz : ys.length ≤ sizeLine) :
    Inv X pins σ (upd H l (.lst ys)) { s with heap := s.heap.update l (Obj.mapSeq f), toks := t' } := by
  have q := PySem.IsL.update e f
  rw [hf] at q
  refine I.write (x := l) (e := l) (by rw [hH]; exact trivial) (.inl rfl) (fun b' u hb hu => (Heap.get?_update_other s.heap (Obj.mapSeq f) (Ne.symm hb)).trans hu) ⟨_, q⟩ ?_
  exact ⟨hz, its', _, hv, q⟩
theorem Inv.lnew {its : List Value} {t' : Nat} (I : Inv X pins σ H s) (hv : Vals ys its) (hz : ys.length ≤ sizeLine) :
    Inv X pins σ (upd H s.heap.objs.size (.lst ys)) { s with heap := s.heap.push { cls := .type "list", data := .seq its.toArray }, toks := t' } :=
  I.laid (fun _ _ q => Heap.get?_push_of_some _ q) (Nat.le_refl _) ⟨hz, its, 0, hv, Heap.get?_push_size _ rfl⟩
theorem Inv.fresh (I : Inv X pins σ H s) : H s.heap.objs.size = none := I.hok.fresh (Nat.le_refl _)
theorem Inv.lstM (I : Inv X pins σ H s) (hH : H l = some (.lst xs)) : xs.length ≤ sizeLine ∧ ∃ (its : List Value) (n : Nat), Vals xs its ∧ xs.length = its.length ∧ s.heap.get? l = some { cls := .type "list", data := .seq its.toArray n } := by
  obtain ⟨z, its, n, r, e⟩ := I.hok l _ hH
  exact ⟨z, its, n, r, r.length, e⟩
theorem notLongL {n : Nat} (h : n ≤ sizeLine) : Builtin.List.listTooLong n = false := by
  unfold Builtin.List.listTooLong
  exact decide_eq_false (by omega)
end
section
variable {X : Cx}
def rAppend : V → List V → Hp → VK → Prop := fun x vs H Q => ∃ l xs y, x = .ref l ∧ vs = [y] ∧ H l = some (.lst xs) ∧ xs.length < sizeLine ∧ Q .non (upd H l (.lst (xs ++ [y])))
theorem mt_append : MtM X "list.append" rAppend := by
  intro pins s σ H x vs v us Q I rx rv h
  obtain ⟨l, xs, y, rfl, rfl, hH, hz, q⟩ := h
  cases rx
  obtain ⟨u, rfl, ru⟩ := rv.one
  obtain ⟨z, its, n, r, hl, e⟩ := I.lstM hH
  refine call_meets F.slot_list_append ⟨_, e, rfl⟩ F.entry_list_append (F.args_list_append_2 _ _) (PySem.list_append l its.toArray n u (by rw [List.size_toArray]; omega)) ⟨e, ?_⟩
  refine ⟨.non, _, I.lset (its' := its ++ [u]) hH e (by simp) (r.append (.cons ru .nil)) ?_, rfl, q⟩
  rw [List.length_append, List.length_singleton]
  omega
def rExtend : V → List V → Hp → VK → Prop := fun x vs H Q => ∃ l b xs zs, x = .ref l ∧ vs = [.ref b] ∧ H l = some (.lst xs) ∧ H b = some (.lst zs) ∧ xs.length + zs.length ≤ sizeLine ∧ Q .non (upd H l (.lst (xs ++ zs)))
theorem mt_extend : MtM X "list.extend" rExtend := by
  intro pins s σ H x vs v us Q I rx rv h
  obtain ⟨l, b, xs, zs, rfl, rfl, hH, hB, hz, q⟩ := h
  cases rx
  obtain ⟨u, rfl, ru⟩ := rv.one
  cases ru
  obtain ⟨z, its, n, r, hl, e⟩ := I.lstM hH
  obtain ⟨z2, its2, n2, r2, hl2, e2⟩ := I.lstM hB
  have hsz : its.toArray.size + its2.toArray.size ≤ sizeLine := by rw [List.size_toArray, List.size_toArray]; omega
  have hlong : ¬ (!its.toArray.isEmpty && Builtin.List.listTooLong (its.toArray.size + its2.toArray.size)) = true := by
    rw [notLongL hsz, Bool.and_false]
    exact Bool.false_ne_true
  refine call_meets F.slot_list_extend ⟨_, e, rfl⟩ F.entry_list_extend (F.args_list_extend_2 _ _)
    (AutoSeq1.list_extend_list_list_0 l its.toArray n b its2.toArray n2 hlong (by rw [List.size_toArray]; omega) (by omega)) ⟨e, e2, ?_⟩
  refine ⟨.non, _, I.lset (its' := its ++ its2) hH e (by simp) (r.append r2) ?_, rfl, q⟩
  rw [List.length_append]
  omega
def rPop : V → List V → Hp → VK → Prop := fun x vs H Q => ∃ l xs y, x = .ref l ∧ vs = [] ∧ H l = some (.lst xs) ∧ xs[xs.length - 1]? = some y ∧ Q y (upd H l (.lst xs.dropLast))
theorem mt_pop : MtM X "list.pop" rPop := by
  intro pins s σ H x vs v us Q I rx rv h
  obtain ⟨l, xs, y, rfl, rfl, hH, hy, q⟩ := h
  cases rx
  have hus := rv.zero
  subst hus
  obtain ⟨z, its, n, r, hl, e⟩ := I.lstM hH
  obtain ⟨u, hu, ru⟩ := r.get hy
  have hy' : its.toArray[its.toArray.size - 1]? = some u := by
    show its.toArray[its.length - 1]? = some u
    rw [← Array.getElem?_toList, ← hl]
    exact hu
  refine call_meets F.slot_list_pop ⟨_, e, rfl⟩ F.entry_list_pop (F.args_list_pop_1 _) (MeetsSeq.list_pop_last l its.toArray n u hy' (by rw [List.size_toArray]; omega)) ⟨e, ?_⟩
  refine ⟨y, _, I.lset (its' := its.dropLast) hH e ?_ r.dropLast ?_, ru, q⟩
  · show its.toArray.eraseIdxIfInBounds (its.toArray.size - 1) = its.dropLast.toArray
    rw [List.size_toArray, List.eraseIdxIfInBounds_toArray, erase_last]
  · rw [List.length_dropLast]
    omega
def rPopAt : V → List V → Hp → VK → Prop := fun x vs H Q => ∃ l xs i k y, x = .ref l ∧ vs = [.int i] ∧ H l = some (.lst xs) ∧ -(2 ^ 63) ≤ i ∧ i < 2 ^ 63 ∧ seqIndex? i xs.length = some k ∧ xs[k]? = some y ∧ Q y (upd H l (.lst (xs.eraseIdx k)))
theorem mt_popAt : MtM X "list.pop" rPopAt := by
  intro pins s σ H x vs v us Q I rx rv h
  obtain ⟨l, xs, i, k, y, rfl, rfl, hH, h1, h2, hk, hy, q⟩ := h
  cases rx
  obtain ⟨u, rfl, ru⟩ := rv.one
  obtain ⟨t, rfl⟩ := ru
  obtain ⟨z, its, n, r, hl, e⟩ := I.lstM hH
  obtain ⟨w, hw, rw'⟩ := r.get hy
  refine call_meets F.slot_list_pop ⟨_, e, rfl⟩ F.entry_list_pop (F.args_list_pop_2 _ _)
    (MeetsSeq.list_pop_at l its.toArray n i t k w (fitsIndex_both h1 h2) (by rw [List.size_toArray, ← hl]; exact hk) (by rw [← Array.getElem?_toList]; exact hw) (by rw [List.size_toArray]; omega)) ⟨e, ?_⟩
  refine ⟨y, _, I.lset (its' := its.eraseIdx k) hH e ?_ (r.eraseIdx k) ?_, rw', q⟩
  · show its.toArray.eraseIdxIfInBounds k = (its.eraseIdx k).toArray
    rw [List.eraseIdxIfInBounds_toArray]
  · have := len_erase xs k
    omega
def rCat : R2 := fun x y H Q => ∃ l b xs zs, x = .ref l ∧ y = .ref b ∧ H l = some (.lst xs) ∧ H b = some (.lst zs) ∧ xs.length + zs.length ≤ sizeLine ∧ ∀ p, H p = none → Q (.ref p) (upd H p (.lst (xs ++ zs)))
theorem op_cat : OpR X (binaryOp .Add) rCat := by
  intro pins s σ H x y v u Q I rx ry h
  obtain ⟨l, b, xs, zs, rfl, rfl, hH, hB, hz, q⟩ := h
  cases rx
  cases ry
  obtain ⟨z, its, n, r, hl, e⟩ := I.lstM hH
  obtain ⟨z2, its2, n2, r2, hl2, e2⟩ := I.lstM hB
  refine PySem.P.add_list e e2 ?_ (by rw [List.size_toArray, List.size_toArray]; omega)
  have ea : its.toArray ++ its2.toArray = (its ++ its2).toArray := by simp
  rw [ea]
  exact ⟨.ref _, _, I.lnew (t' := s.toks) (r.append r2) (by rw [List.length_append]; omega), rfl, q _ I.fresh⟩
end
section
variable {prog : Program} {w : World} {A : Around} {E : Value → Shared → Prop} {s : Shared}
end
section
variable {X : Cx}
end
end L2
namespace L2
open PySem PySem.Spec PyProof.Rows
theorem Vals.ints : ∀ {ns : List Int} {us : List Value}, Vals (ns.map V.int) us → IntsAre us ns
  | [], us, h => by
    rw [List.map_nil] at h
    cases h
    exact IntsAre.nil
  | n :: ns, us, h => by
    rw [List.map_cons] at h
    cases h with
    | cons r t =>
      obtain ⟨k, rfl⟩ := r
      exact IntsAre.cons n k (Vals.ints t)
theorem vals_of_ints : ∀ {us : List Value} {ns : List Int}, IntsAre us ns → Vals (ns.map V.int) us
  | _, _, .nil => by rw [List.map_nil]; exact Paired.nil
  | _, _, .cons n t h => by rw [List.map_cons]; exact Paired.cons (show RelV (V.int n) (Value.int n t) from ⟨t, rfl⟩) (vals_of_ints h)
theorem Vals.bls : ∀ {bs : List Bool} {us : List Value}, Vals (bs.map V.bl) us → us = bs.map Value.bool
  | [], us, h => by
    rw [List.map_nil] at h
    cases h
    rfl
  | b :: bs, us, h => by
    rw [List.map_cons] at h
    cases h with
    | cons r t =>
      cases r
      rw [Vals.bls t, List.map_cons]
theorem Vals.ref1 {a : Addr} {us : List Value} (r : Vals [V.ref a] us) : us = [Value.ref a] := by
  cases r with
  | cons r t =>
    cases t
    cases r
    rfl
section
variable {prog : Program} {w : World} {A : Around} {E : Value → Shared → Prop} {s : Shared} {l : Addr} {its : List Value} {ns : List Int} {Q : Value → Shared → Prop}
end
section
variable {X : Cx}
end
section
variable {X : Cx}
end
section
variable {X : Cx}
end
theorem iter_any {prog : Program} {w : World} {A : Around} {E : Value → Shared → Prop} {s : Shared} {l : Addr} {items : Array Value} {Q : Value → Shared → Prop} (hl : s.heap.IsList l items)
    (h : ∀ s₂ : Shared, s₂ = { s with heap := s.heap.push { cls := .type "list_iterator", data := .fields #[.ref l, .int 0 0] } } →
      (s₂.heap.IsListIter s.heap.objs.size l 0 ∧ s₂.heap.IsList l items) → l ≠ s.heap.objs.size → Q (.ref s.heap.objs.size) s₂) : wpAny (model prog w) A (pyIter (.ref l)) Q E s := by
  have hlt : l < s.heap.objs.size := by obtain ⟨_, e, _⟩ := hl; exact Heap.lt_size e
  exact wpAny_pyIter_list hl (h _ rfl ⟨⟨_, Heap.get?_push_size _ rfl, rfl, rfl⟩, hl.push _⟩ (Nat.ne_of_lt hlt))
theorem truth_bools {prog : Program} {w : World} {A : Around} {bs : List Bool} {its : List Value} (e : its = bs.map Value.bool) :
    TruthOf prog w A (fun i v => its.toArray[i]? = some v) (fun i => bs.getD i false) := fun i v s Q E hv hq => by
  have hv' : its[i]? = some v := by simpa using hv
  rw [e, List.getElem?_map] at hv'
  obtain ⟨b, hb, rfl⟩ := Option.map_eq_some_iff.mp hv'
  have hg : bs.getD i false = b := by rw [List.getD_eq_getElem?_getD, hb] <;> rfl
  have hq' : Q (bs.getD i false) s := hq
  rw [hg] at hq'
  exact wpAny_truthy_bool hq'
theorem any_range : ∀ bs : List Bool, (List.range bs.length).any (fun i => bs.getD i false) = bs.any id
  | [] => rfl
  | b :: bs => by
    rw [List.length_cons, List.range_succ_eq_map, List.any_cons, List.any_map, List.any_cons, ← any_range bs]
    all_goals rfl
theorem all_range : ∀ bs : List Bool, (List.range bs.length).all (fun i => bs.getD i false) = bs.all id
  | [] => rfl
  | b :: bs => by
    rw [List.length_cons, List.range_succ_eq_map, List.all_cons, List.all_map, List.all_cons, ← all_range bs]
    all_goals rfl
section
variable {X : Cx}
def rAny (K : PySem.W.Frag) : List V → Hp → VK → Prop := fun vs H Q => ∃ (a : Addr) (bs : List Bool), vs = [V.ref a] ∧ SqL K H a (bs.map V.bl) ∧ Q (.bl (bs.any id)) H
def rAll (K : PySem.W.Frag) : List V → Hp → VK → Prop := fun vs H Q => ∃ (a : Addr) (bs : List Bool), vs = [V.ref a] ∧ SqL K H a (bs.map V.bl) ∧ Q (.bl (bs.all id)) H
theorem cr_any (hc : X.calm = true) : CallR X (.builtin "any") (rAny X.K) := by
  intro pins s σ H vs us Q I r h
  obtain ⟨a, bs, rfl, hs, q⟩ := h
  obtain ⟨its, rv, hl, _⟩ := I.list hs
  rw [Vals.ref1 r]
  have hb := rv.bls
  refine call_any_walk (iter_any hl.isList fun s₂ e2 st hne => ?_)
  subst e2
  refine ⟨_, _, _, _, _, _, _, rfl, Walks.list (A := X.A.in1) (I.ok.hd hc) _ a hne its.toArray, st, truth_bools hb, fun h' tk hk => ?_⟩
  refine ⟨.bl _, H, I.kept fun b o eo => hk b o (fun hmem => ?_) (Heap.get?_push_of_some _ eo), ?_, q⟩
  · rcases List.mem_cons.mp hmem with e1 | hmem
    · exact absurd (e1 ▸ Heap.lt_size eo) (Nat.lt_irrefl _)
    · cases hmem
  · show Value.bool _ = Value.bool _
    rw [← any_range, hb, List.size_toArray, List.length_map]
theorem cr_all (hc : X.calm = true) : CallR X (.builtin "all") (rAll X.K) := by
  intro pins s σ H vs us Q I r h
  obtain ⟨a, bs, rfl, hs, q⟩ := h
  obtain ⟨its, rv, hl, _⟩ := I.list hs
  rw [Vals.ref1 r]
  have hb := rv.bls
  refine call_all_walk (iter_any hl.isList fun s₂ e2 st hne => ?_)
  subst e2
  refine ⟨_, _, _, _, _, _, _, rfl, Walks.list (A := X.A.in1) (I.ok.hd hc) _ a hne its.toArray, st, truth_bools hb, fun h' tk hk => ?_⟩
  refine ⟨.bl _, H, I.kept fun b o eo => hk b o (fun hmem => ?_) (Heap.get?_push_of_some _ eo), ?_, q⟩
  · rcases List.mem_cons.mp hmem with e1 | hmem
    · exact absurd (e1 ▸ Heap.lt_size eo) (Nat.lt_irrefl _)
    · cases hmem
  · show Value.bool _ = Value.bool _
    rw [← all_range, hb, List.size_toArray, List.length_map]
end
mutual
inductive Dp (K : PySem.W.Frag) (H : Hp) : V → PyData → Prop
  | non : Dp K H .non .none
  | bl (b : Bool) : Dp K H (.bl b) (.bool b)
  | int (i : Int) : Dp K H (.int i) (.int i)
  | str (x : Str) : Dp K H (.str x) (.str x)
  | lst {a : Addr} {xs : List V} {ds : List PyData} : SqL K H a xs → DpAll K H xs ds → Dp K H (.ref a) (.list ds)
  | tup {a : Addr} {xs : List V} {ds : List PyData} : SqT K H a xs → DpAll K H xs ds → Dp K H (.ref a) (.tuple ds)
inductive DpAll (K : PySem.W.Frag) (H : Hp) : List V → List PyData → Prop
  | nil : DpAll K H [] []
  | cons {v : V} {vs : List V} {d : PyData} {ds : List PyData} : Dp K H v d → DpAll K H vs ds → DpAll K H (v :: vs) (d :: ds)
end
section
variable {X : Cx} {pins : List (Addr × Obj)} {σ : St} {H : Hp} {s : Shared}
mutual
theorem Dp.reads (I : Inv X pins σ H s) : ∀ (d : PyData) (v : V) (u : Value), Dp X.K H v d → RelV v u → ∃ as, Reads s.heap u d as
  | .none, _, _, h, r => by
    cases h
    cases r
    exact ⟨_, Reads.none⟩
  | .bool b, _, _, h, r => by
    cases h
    cases r
    exact ⟨_, Reads.bool b⟩
  | .int i, _, _, h, r => by
    cases h
    obtain ⟨t, rfl⟩ := r
    exact ⟨_, Reads.int i t⟩
  | .str x, _, _, h, r => by
    cases h
    obtain ⟨t, rfl⟩ := r
    exact ⟨_, Reads.str x t⟩
  | .list ds, _, _, h, r => by
    cases h with
    | lst hs ha =>
      cases r
      obtain ⟨its, rv, ⟨o, n, ho, hc, _, hd⟩, _⟩ := I.list hs
      obtain ⟨as, hr⟩ := Dp.readsAll I ds _ its ha rv
      exact ⟨_, Reads.list ho hc hd hr⟩
  | .tuple ds, _, _, h, r => by
    cases h with
    | tup hs ha =>
      cases r
      obtain ⟨its, rv, ⟨o, ho, hc, n, hd⟩, _⟩ := I.tuple hs
      obtain ⟨as, hr⟩ := Dp.readsAll I ds _ its ha rv
      exact ⟨_, Reads.tuple ho hc hd hr⟩
  | .dict _, _, _, h, _ => by cases h
theorem Dp.readsAll (I : Inv X pins σ H s) : ∀ (ds : List PyData) (vs : List V) (us : List Value), DpAll X.K H vs ds → Vals vs us → ∃ as, ReadsAll s.heap us ds as
  | [], _, _, h, r => by
    cases h
    cases r
    exact ⟨_, ReadsAll.nil⟩
  | d :: ds, _, _, h, r => by
    cases h with
    | cons h1 h2 =>
      cases r with
      | cons r1 r2 =>
        obtain ⟨as, q1⟩ := Dp.reads I d _ _ h1 r1
        obtain ⟨bs, q2⟩ := Dp.readsAll I ds _ _ h2 r2
        exact ⟨_, ReadsAll.cons q1 q2⟩
end
end
section
variable {X : Cx}
def rEqD (K : PySem.W.Frag) : R2 := fun x y H Q => ∃ d e, Dp K H x d ∧ Dp K H y e ∧ SeqAt.shaped d = true ∧ SeqAt.shaped e = true ∧ Q (.bl (PyData.eqv d e)) H
theorem op_eqD (hu : X.A.units + 64 < cLine) : OpR X (compareOp .Eq) (rEqD X.K) := by
  intro pins s σ H x y v u Q I rx ry h
  obtain ⟨d, e, hd, he, sd, se, q⟩ := h
  obtain ⟨as, r1⟩ := Dp.reads I d x v hd rx
  obtain ⟨bs, r2⟩ := Dp.reads I e y u he ry
  exact SeqAt.compareEq_shaped r1 r2 sd se hu ⟨.bl _, H, I, rfl, q⟩
end
end L2
namespace L2
open PySem PySem.Spec PyProof.Rows
abbrev CellAt (h : Heap) (c : Addr) (v : Option Value) : Prop := h.IsCell c v
def relS (scope sc : Scope) : Scope :=
  { scope with names := scope.names.map fun (n, k) => if (k == .free && sc.kind == .function && sc.names.lookup n == some .cell) then (n, .cell) else (n, k) }
def cloFrom (cells : List (Str × Addr)) : List (Str × NameKind) → List (Str × Addr) → List (Str × Addr)
  | [], acc => acc
  | (n, k) :: r, acc => if k == .free then cloFrom cells r ((n, (cells.lookup n).getD 0) :: acc) else cloFrom cells r acc
theorem closure_loop (env : Env) (f : Str × NameKind → List (Str × Addr) → Sem (ForInStep (List (Str × Addr))))
    (hf : ∀ n k c, f (n, k) c = if k == .free then (do let a ← cellOf env n; pure (.yield ((n, a) :: c))) else pure (.yield c)) :
    ∀ (names : List (Str × NameKind)) (acc : List (Str × Addr)), (∀ y ∈ names, y.2 = .free → ∃ c, env.cells.lookup y.1 = some c) → forIn names acc f = pure (cloFrom env.cells names acc)
  | [], acc, _ => by rw [List.forIn_nil]; rfl
  | (n, k) :: r, acc, h => by
    rw [List.forIn_cons, hf]
    have ih := fun acc => closure_loop env f hf r acc fun y hy => h y (List.mem_cons_of_mem _ hy)
    unfold cloFrom
    by_cases hk : (k == NameKind.free) = true
    · rw [if_pos hk, if_pos hk]
      obtain ⟨c, hc⟩ := h (n, k) List.mem_cons_self (by simpa using hk)
      have e : cellOf env n = pure c := by unfold cellOf; rw [hc]
      rw [e]
      have e2 : (env.cells.lookup n).getD 0 = c := by rw [hc]; rfl
      rw [e2]
      exact ih _
    · rw [if_neg hk, if_neg hk]
      exact ih _
theorem closure_ok {scope : Scope} {env : Env} (h : ∀ y ∈ scope.names, y.2 = .free → ∃ c, env.cells.lookup y.1 = some c) : closureFor scope env = pure (cloFrom env.cells scope.names []) := by
  simp only [closureFor]
  rw [closure_loop env _ (fun n k c => rfl) scope.names [] h]
  rfl
theorem mem_lookup {α : Type} : ∀ {l : List (Str × α)} {n : Str} {c : α}, (n, c) ∈ l → ∃ c', l.lookup n = some c'
  | (k, v) :: r, n, c, h => by
    rw [List.lookup_cons]
    cases hb : n == k with
    | true => exact ⟨_, rfl⟩
    | false =>
      rcases List.mem_cons.mp h with e | h
      · cases e; simp at hb
      · exact mem_lookup h
theorem cloFrom_mem {cells : List (Str × Addr)} : ∀ {names : List (Str × NameKind)} {acc : List (Str × Addr)} {n : Str} {c : Addr}, (n, c) ∈ cloFrom cells names acc → (n, c) ∈ acc ∨ ((n, .free) ∈ names ∧ c = (cells.lookup n).getD 0)
  | [], _, _, _, h => .inl h
  | (m, k) :: r, acc, n, c, h => by
    unfold cloFrom at h
    split at h
    · rename_i hk
      have hk : k = .free := by simpa using hk
      rcases cloFrom_mem h with h | ⟨h1, h2⟩
      · rcases List.mem_cons.mp h with e | h
        · cases e; exact .inr ⟨hk ▸ List.mem_cons_self, rfl⟩
        · exact .inl h
      · exact .inr ⟨List.mem_cons_of_mem _ h1, h2⟩
    · rcases cloFrom_mem h with h | ⟨h1, h2⟩
      · exact .inl h
      · exact .inr ⟨List.mem_cons_of_mem _ h1, h2⟩
theorem cloFrom_acc {cells : List (Str × Addr)} : ∀ {names : List (Str × NameKind)} {acc : List (Str × Addr)} {p : Str × Addr}, p ∈ acc → p ∈ cloFrom cells names acc
  | [], _, _, h => h
  | (m, k) :: r, acc, p, h => by
    unfold cloFrom
    split
    · exact cloFrom_acc (List.mem_cons_of_mem _ h)
    · exact cloFrom_acc h
theorem cloFrom_has {cells : List (Str × Addr)} : ∀ {names : List (Str × NameKind)} {acc : List (Str × Addr)} {n : Str}, (n, .free) ∈ names → (n, (cells.lookup n).getD 0) ∈ cloFrom cells names acc
  | (m, k) :: r, acc, n, h => by
    unfold cloFrom
    rcases List.mem_cons.mp h with e | h
    · cases e
      exact cloFrom_acc List.mem_cons_self
    · split
      · exact cloFrom_has h
      · exact cloFrom_has h
theorem cells_mem : ∀ {names : List (Str × NameKind)} {h : Heap} {acc : List (Str × Addr)} {x : Str} {c : Addr}, (x, c) ∈ cellsFrom h.objs.size names acc →
    (x, c) ∈ acc ∨ ((x, .cell) ∈ names ∧ h.objs.size ≤ c ∧ CellAt (pushCells h names) c none)
  | [], _, _, _, _, h => .inl h
  | (n, k) :: r, h, acc, x, c, hm => by
    unfold cellsFrom at hm
    unfold pushCells
    split at hm
    · rename_i hk
      rw [if_pos hk]
      have hk : k = .cell := by simpa using hk
      rw [← Heap.size_push h { cls := .type "cell", data := .cell none }] at hm
      rcases cells_mem hm with hm | ⟨h1, h2, h3⟩
      · rcases List.mem_cons.mp hm with e | hm
        · cases e
          exact .inr ⟨hk ▸ List.mem_cons_self, Nat.le_refl _, _, pushCells_keeps r _ _ _ (Heap.get?_push_size _ rfl), rfl⟩
        · exact .inl hm
      · rw [Heap.size_push] at h2
        exact .inr ⟨List.mem_cons_of_mem _ h1, Nat.le_of_succ_le h2, h3⟩
    · rename_i hk
      rw [if_neg hk]
      rcases cells_mem hm with hm | ⟨h1, h2, h3⟩
      · exact .inl hm
      · exact .inr ⟨List.mem_cons_of_mem _ h1, h2, h3⟩
theorem cells_acc : ∀ {names : List (Str × NameKind)} {n : Nat} {acc : List (Str × Addr)} {p : Str × Addr}, p ∈ acc → p ∈ cellsFrom n names acc
  | [], _, _, _, h => h
  | (m, k) :: r, n, acc, p, h => by
    unfold cellsFrom
    split
    · exact cells_acc (List.mem_cons_of_mem _ h)
    · exact cells_acc h
theorem cells_has : ∀ {names : List (Str × NameKind)} {n : Nat} {acc : List (Str × Addr)} {x : Str}, (x, .cell) ∈ names → ∃ c, (x, c) ∈ cellsFrom n names acc
  | (m, k) :: r, n, acc, x, h => by
    unfold cellsFrom
    rcases List.mem_cons.mp h with e | h
    · cases e
      exact ⟨n, cells_acc List.mem_cons_self⟩
    · split
      · exact cells_has h
      · exact cells_has h
theorem cells_inj : ∀ {names : List (Str × NameKind)} {h : Heap} {acc : List (Str × Addr)} {x y : Str} {c : Addr}, (∀ p ∈ acc, p.2 < h.objs.size) → (∀ x y c, (x, c) ∈ acc → (y, c) ∈ acc → x = y) →
    (x, c) ∈ cellsFrom h.objs.size names acc → (y, c) ∈ cellsFrom h.objs.size names acc → x = y
  | [], _, _, _, _, _, _, hi, h1, h2 => hi _ _ _ h1 h2
  | (n, k) :: r, h, acc, x, y, c, hl, hi, h1, h2 => by
    unfold cellsFrom at h1 h2
    split at h1
    · rename_i hk
      rw [if_pos hk] at h2
      rw [← Heap.size_push h { cls := .type "cell", data := .cell none }] at h1 h2
      refine cells_inj (h := h.push _) (fun p hp => ?_) (fun x y c a b => ?_) h1 h2
      · rw [Heap.size_push]
        rcases List.mem_cons.mp hp with rfl | hp
        · exact Nat.lt_succ_self _
        · exact Nat.lt_succ_of_lt (hl p hp)
      · rcases List.mem_cons.mp a with e | a <;> rcases List.mem_cons.mp b with e' | b
        · cases e; cases e'; rfl
        · cases e; exact absurd (hl _ b) (Nat.lt_irrefl _)
        · cases e'; exact absurd (hl _ a) (Nat.lt_irrefl _)
        · exact hi _ _ _ a b
    · rename_i hk
      rw [if_neg hk] at h2
      exact cells_inj hl hi h1 h2
theorem newEnv_comp {M : Model} {A : Around} {E : Value → Shared → Prop} {s : Shared} {scope : Scope} {globals : Addr} {closure : List (Str × Addr)} {qual : Str} {func : Option Addr} {code : Value} {around : Env} {builtins : Addr} {Q : Env → Shared → Prop}
    (h : Q (newEnv scope s.heap.objs.size globals (cellsFrom (s.heap.objs.size + 1) scope.names closure) qual func code (some around) builtins)
      { s with heap := pushCells (s.heap.push { cls := .type "dict", data := .dict #[] }) scope.names }) :
    wpAny M A (newFunctionEnv scope globals closure [] qual func code (some around) builtins) Q E s := by
  simp only [newFunctionEnv, Option.isSome_some, if_true]
  refine wpAny_bind (wpAny_alloc ?_)
  refine wpAny_bind (wpAny_layCells _ (fun n k c => rfl) scope.names closure _ _ ?_)
  rw [show ({ s with heap := s.heap.push { cls := .type "dict", data := .dict #[] } } : Shared).heap.objs.size = s.heap.objs.size + 1 from Heap.size_push ..]
  rw [List.forIn_nil]
  exact wpAny_bind (wpAny_pure (wpAny_pure h))
theorem lookup_relS {sc : Scope} : ∀ {names : List (Str × NameKind)} {x : Str} {k : NameKind},
    (names.map fun (n, k) => if (k == NameKind.free && sc.kind == .function && sc.names.lookup n == some .cell) then (n, NameKind.cell) else (n, k)).lookup x = some k →
    ∃ k', names.lookup x = some k' ∧ (k = k' ∨ (k' = .free ∧ k = .cell))
  | [], _, _, h => by simp at h
  | (n, k₀) :: r, x, k, h => by
    have ih := @lookup_relS sc r x k
    have h' : List.lookup x ((if (k₀ == NameKind.free && sc.kind == .function && sc.names.lookup n == some .cell) = true then (n, NameKind.cell) else (n, k₀)) :: (r.map _)) = some k := h
    cases hx : x == n with
    | true =>
      simp only [List.lookup_cons, hx]
      by_cases hc : (k₀ == NameKind.free && sc.kind == .function && sc.names.lookup n == some .cell) = true
      · rw [if_pos hc] at h'
        simp only [List.lookup_cons, hx] at h'
        cases h'
        simp only [Bool.and_eq_true, beq_iff_eq] at hc
        exact ⟨k₀, rfl, .inr ⟨hc.1.1, rfl⟩⟩
      · rw [if_neg hc] at h'
        simp only [List.lookup_cons, hx] at h'
        cases h'
        exact ⟨_, rfl, .inl rfl⟩
    | false =>
      simp only [List.lookup_cons, hx]
      by_cases hc : (k₀ == NameKind.free && sc.kind == .function && sc.names.lookup n == some .cell) = true
      · rw [if_pos hc] at h'
        simp only [List.lookup_cons, hx] at h'
        exact ih h'
      · rw [if_neg hc] at h'
        simp only [List.lookup_cons, hx] at h'
        exact ih h'
structure BlkOk (N : List Str) (sc scope : Scope) (own : List (Str × Nat)) : Prop where
  kind : scope.kind = .function
  uniq : ∀ y ∈ scope.names, scope.names.lookup y.1 = some y.2
  ix : ∀ p ∈ own, N[p.2]? = some p.1
  free : ∀ y ∈ scope.names, y.2 = .free → sc.names.lookup y.1 = some .cell ∨ sc.names.lookup y.1 = some .free
  own : ∀ y ∈ scope.names, y.2 = .local ∨ y.2 = .cell → y.1 ∈ own.map (·.1) ∨ y.1 ∉ N
def wipe (σ : St) : List Nat → St
  | [] => σ
  | v :: vs => (wipe σ vs).set v none
theorem wipe_length (σ : St) : ∀ vs : List Nat, (wipe σ vs).length = σ.length
  | [] => rfl
  | v :: vs => by unfold wipe; rw [List.length_set, wipe_length σ vs]
theorem wipe_some {σ : St} {i : Nat} {x : V} : ∀ {vs : List Nat}, (wipe σ vs)[i]? = some (some x) → σ[i]? = some (some x) ∧ i ∉ vs
  | [], h => ⟨h, by simp⟩
  | v :: vs, h => by
    unfold wipe at h
    by_cases hi : v = i
    · subst hi
      by_cases hv : v < (wipe σ vs).length
      · rw [List.getElem?_set_self hv] at h; cases h
      · rw [List.getElem?_eq_none (by simpa using hv)] at h; cases h
    · rw [List.getElem?_set_ne hi] at h
      obtain ⟨h1, h2⟩ := wipe_some h
      exact ⟨h1, by simp only [List.mem_cons, not_or]; exact ⟨fun e => hi e.symm, h2⟩⟩
abbrev Cx.blk (X : Cx) (s : Shared) (H : Hp) (scope : Scope) (cenv : Env) (fp : List Addr) : Cx := { X with s_0 := s, H_0 := H, env := cenv, outer := X.stack, ex := fp, fn := fun x => scope.names.lookup x == some .cell, pn := [], xe := fun _ _ => False }
section
variable {X : Cx} {pins : List (Addr × Obj)} {σ : St} {H : Hp} {s : Shared}
theorem block_start {scope : Scope} {own : List (Str × Nat)} {fp : List Addr} (I : Inv X pins σ H s) (ok : BlkOk X.N X.env.scope scope own) (hN : X.N.Nodup) (hfp : ∀ b ∈ fp, FpOk X pins H b ∧ b < s.heap.objs.size) :
    Inv (X.blk s H scope (compEnvC scope (cellsFrom (s.heap.objs.size + 1) scope.names (cloFrom X.env.cells scope.names [])) s.heap.objs.size X.env) fp) [] (wipe σ (own.map (·.2))) H { s with heap := pushCells (s.heap.push { cls := .type "dict", data := .dict #[] }) scope.names } := by
  have hfree : ∀ y ∈ scope.names, y.2 = .free → ∃ c, X.env.cells.lookup y.1 = some c := fun y hy e => by
    rcases ok.free y hy e with k | k
    · exact I.ok.has _ (.inl k)
    · exact I.ok.has _ (.inr k)
  generalize hcenv : compEnvC scope (cellsFrom (s.heap.objs.size + 1) scope.names (cloFrom X.env.cells scope.names [])) s.heap.objs.size X.env = cenv
  have kp : ∀ b o, s.heap.get? b = some o → (pushCells (s.heap.push { cls := .type "dict", data := .dict #[] }) scope.names).get? b = some o := fun b o e => pushCells_keeps _ _ _ _ (Heap.get?_push_of_some _ e)
  have hL : cenv.locals = s.heap.objs.size := by rw [← hcenv]; rfl
  have hcl : cenv.cells = cellsFrom (s.heap.objs.size + 1) scope.names (cloFrom X.env.cells scope.names []) := by rw [← hcenv]; rfl
  have hsc : cenv.scope = relS scope X.env.scope := by rw [← hcenv]; rfl
  rw [← Heap.size_push s.heap { cls := .type "dict", data := .dict #[] }] at hcl
  have cm : ∀ {y c}, (y, c) ∈ cloFrom X.env.cells scope.names [] → X.env.cells.lookup y = some c ∧ c < s.heap.objs.size := fun {y c} hm => by
    rcases cloFrom_mem hm with hm | ⟨h1, rfl⟩
    · cases hm
    · obtain ⟨c, hc⟩ := hfree _ h1 rfl
      rw [hc]
      obtain ⟨w, z⟩ := I.cell _ _ hc
      exact ⟨rfl, z.lt⟩
  have mem : ∀ {y c}, cenv.cells.lookup y = some c → (X.env.cells.lookup y = some c ∧ c < s.heap.objs.size) ∨ (s.heap.objs.size + 1 ≤ c ∧ CellAt (pushCells (s.heap.push { cls := .type "dict", data := .dict #[] }) scope.names) c none) := fun {y c} e => by
    rw [hcl] at e
    rcases cells_mem (PySem.mem_of_lookup e) with hm | ⟨_, h2, h3⟩
    · exact .inl (cm hm)
    · rw [Heap.size_push] at h2; exact .inr ⟨h2, h3⟩
  have look : ∀ {y}, scope.names.lookup y = some .free → ∃ c, cenv.cells.lookup y = some c ∧ X.env.cells.lookup y = some c := fun {y} hl => by
    have hy : (y, NameKind.free) ∈ scope.names := PySem.mem_of_lookup hl
    obtain ⟨c', e'⟩ := mem_lookup (cells_acc (names := scope.names) (n := (s.heap.push { cls := .type "dict", data := .dict #[] }).objs.size) (cloFrom_has (cells := X.env.cells) (acc := []) hy))
    rw [← hcl] at e'
    refine ⟨c', e', ?_⟩
    rw [hcl] at e'
    rcases cells_mem (PySem.mem_of_lookup e') with hm | ⟨h1, _, _⟩
    · exact (cm hm).1
    · have := ok.uniq _ h1
      rw [hl] at this; cases this
  have okB : (X.blk s H scope cenv fp).Ok := by
    refine ⟨I.ok.mod, by show cenv.scope.kind = _; rw [hsc]; exact ok.kind, by show cenv.globals = _; rw [← hcenv]; exact I.ok.glob, by show cenv.builtins = _; rw [← hcenv]; exact I.ok.blt, by show s.heap.objs.size ≤ cenv.locals; rw [hL]; exact Nat.le_refl _,
      fun y z c e1 e2 => ?_, fun y hy => ?_, fun y c z e => ?_, I.ok.hd, I.ok.frames, .inl rfl, fun b hb => ⟨?_, fun y c e z => ?_⟩, I.bs, Nat.le_trans I.ok.bsz I.sz, fun b o e hb => ?_, fun b hb z => ?_, I.stack, I.stkFree⟩
    · have e1 : cenv.cells.lookup y = some c := e1
      have e2 : cenv.cells.lookup z = some c := e2
      rw [hcl] at e1 e2
      refine cells_inj (fun p hp => ?_) (fun y z c a b => I.ok.inj y z c (cm a).1 (cm b).1) (PySem.mem_of_lookup e1) (PySem.mem_of_lookup e2)
      rw [Heap.size_push]
      exact Nat.lt_succ_of_lt (cm (y := p.1) (c := p.2) hp).2
    · show ∃ c, cenv.cells.lookup y = some c
      have key : ∀ k, cenv.kindOf y = some k → (k = .cell ∨ k = .free) → ∃ c, cenv.cells.lookup y = some c := fun k hk hk' => by
        unfold Env.kindOf at hk
        rw [hsc] at hk
        obtain ⟨k', e, r⟩ := lookup_relS hk
        have : k' = .cell ∨ k' = .free := by
          rcases r with rfl | ⟨rfl, _⟩
          · exact hk'
          · exact .inr rfl
        rcases this with rfl | rfl
        · obtain ⟨c, hm⟩ := cells_has (n := (s.heap.push { cls := .type "dict", data := .dict #[] }).objs.size) (acc := cloFrom X.env.cells scope.names []) (PySem.mem_of_lookup e)
          obtain ⟨c', e'⟩ := mem_lookup hm
          exact ⟨c', by rw [hcl]; exact e'⟩
        · obtain ⟨c, h1, _⟩ := look e
          exact ⟨c, h1⟩
      rcases hy with hy | hy
      · exact key _ hy (.inl rfl)
      · exact key _ hy (.inr rfl)
    · have z : (scope.names.lookup y == some NameKind.cell) = true := z
      have z : scope.names.lookup y = some .cell := by simpa using z
      have e : cenv.cells.lookup y = some c := e
      rw [hcl] at e
      rcases cells_mem (PySem.mem_of_lookup e) with hm | ⟨_, h2, _⟩
      · rcases cloFrom_mem hm with hm | ⟨h1, _⟩
        · cases hm
        · have q := ok.uniq _ h1
          rw [z] at q; cases q
      · rw [Heap.size_push] at h2
        exact Nat.le_of_succ_le h2
    · show b ≠ cenv.locals
      rw [hL]; exact Nat.ne_of_lt (hfp b hb).2
    · have e : cenv.cells.lookup y = some c := e
      rcases mem e with ⟨h1, _⟩ | ⟨h1, _⟩
      · exact (hfp b hb).1.2.2.2.2.1 y c h1 z
      · have h2 : s.heap.objs.size + 1 ≤ b := by rw [← z]; exact h1
        exact absurd (Nat.lt_of_lt_of_le (hfp b hb).2 (Nat.le_of_succ_le h2)) (Nat.lt_irrefl _)
    · rcases (hfp b hb).1.2.2.2.1 with z | z
      · exact I.ok.noex b o e z
      · exact absurd (Nat.lt_of_lt_of_le (Heap.lt_size e) (Nat.le_trans I.ok.bsz z)) (Nat.lt_irrefl _)
    · rcases List.mem_cons.mp (I.stkSub b z) with z | z
      · exact (hfp b hb).1.2.1 z
      · exact (hfp b hb).1.2.2.1 z
  refine ⟨okB, rfl, I.bare, Un.kept kp, ⟨fun _ => none, ?_, fun i y av e1 e2 e3 => ?_⟩, fun y c e => ?_, ?_, fun y c e => ?_, fun p hp => ?_, I.hok.kept kp, by rw [wipe_length]; exact I.len⟩
  · show Heap.Ns _ cenv.locals _
    rw [hL]
    exact Heap.Ns.keeps (Heap.Ns.new ..) fun b o e => pushCells_keeps _ _ _ _ e
  · obtain ⟨e2, hne⟩ := wipe_some e2
    have hfr : scope.names.lookup y = some .free ∧ (cenv.kindOf y = some .cell ∨ cenv.kindOf y = some .free) := by
      have key : ∀ k, cenv.scope.names.lookup y = some k → k = .local ∨ k = .cell ∨ k = .free → scope.names.lookup y = some .free ∧ (cenv.kindOf y = some .cell ∨ cenv.kindOf y = some .free) := fun k hk hk' => by
        have hk0 := hk
        rw [hsc] at hk
        obtain ⟨k', e, r⟩ := lookup_relS hk
        have no : ¬ (k' = .local ∨ k' = .cell) := fun hh => by
          rcases ok.own _ (PySem.mem_of_lookup e) hh with e' | e'
          · obtain ⟨p, hp, hpy⟩ := List.mem_map.mp e'
            have e3 := ok.ix p hp
            have : p.1 = y := hpy
            rw [this] at e3
            exact hne (List.mem_map.mpr ⟨p, hp, nodup_ix hN e3 e1⟩)
          · exact e' (List.mem_of_getElem? e1)
        rcases r with rfl | ⟨rfl, rfl⟩
        · rcases hk' with rfl | rfl | rfl
          · exact absurd (.inl rfl) no
          · exact absurd (.inr rfl) no
          · exact ⟨e, .inr hk0⟩
        · exact ⟨e, .inl hk0⟩
      have e3 : Vis cenv.scope y := e3
      rcases e3 with e3 | e3 | e3
      · exact key _ e3 (.inl rfl)
      · exact key _ e3 (.inr (.inl rfl))
      · exact key _ e3 (.inr (.inr rfl))
    obtain ⟨m, hn, hl⟩ := I.loc
    have hvis : Vis X.env.scope y := (ok.free _ (PySem.mem_of_lookup hfr.1) rfl).elim (fun k => .inr (.inl k)) (fun k => .inr (.inr k))
    obtain ⟨w, r, q⟩ := hl i y av e1 e2 hvis
    refine ⟨w, r, .inr ⟨hfr.2, ?_⟩⟩
    obtain ⟨c, h1, h2⟩ := look hfr.1
    rcases q with ⟨k, _⟩ | ⟨_, c', e', z⟩
    · have k : X.env.scope.names.lookup y = some .local := k
      rcases ok.free _ (PySem.mem_of_lookup hfr.1) rfl with k' | k' <;> rw [show X.env.scope.names.lookup y = _ from k'] at k <;> cases k
    · rw [h2] at e'; cases e'
      exact ⟨c, h1, z.keeps kp⟩
  · have e : cenv.cells.lookup y = some c := e
    rcases mem e with ⟨h1, _⟩ | ⟨_, z⟩
    · obtain ⟨w, z⟩ := I.cell y c h1
      exact ⟨w, z.keeps kp⟩
    · exact ⟨_, z⟩
  · show H cenv.locals = none
    rw [hL]; exact I.hok.fresh (Nat.le_refl _)
  · have e : cenv.cells.lookup y = some c := e
    rcases mem e with ⟨h1, _⟩ | ⟨h1, _⟩
    · exact I.freeC y c h1
    · exact I.hok.fresh (Nat.le_of_succ_le h1)
  · exact absurd (show p ∈ ([] : List (Addr × Obj)) ++ [] from hp) (by simp)
theorem app_ok {E : Value → Shared → Prop} {D : Addr} {xs : List V} {y : V} {v : Value} {Q : Value → Shared → Prop} (I : Inv X pins σ H s) (hD : H D = some (.lst xs)) (hz : xs.length < sizeLine) (r : RelV y v)
    (h : ∀ s', Inv X pins σ (upd H D (.lst (xs ++ [y]))) s' → Q .none s') : wpAny (model X.prog X.w) X.A (call (.builtin "list.append") [.ref D, v]) Q E s := by
  obtain ⟨hz', its, n, ri, e⟩ := I.hok D _ hD
  have hl := ri.length
  refine append_at (hsz := by rw [List.size_toArray]; omega) e fun h' sb ho' => ?_
  refine h { s with heap := h' } (I.write (t' := s.toks) (by rw [hD]; trivial) (.inl rfl) (fun b u hb q => (sb.2 b hb).trans q) ⟨_, ho'⟩ ⟨by rw [List.length_append]; exact hz, its ++ [v], n + 1, ri.append (.cons r .nil), ?_⟩)
  rw [ho']
  simp
def PTs (X : Cx) (ifs : List Expr) (t : TT) : Prop :=
  ∀ (pins : List (Addr × Obj)) (s : Shared) (σ : St) (H : Hp) (Q : Bool → Hp → Prop), Inv X pins σ H s → t σ H Q →
    wpAny (model X.prog X.w) X.A (forIn ifs true fun c r => if r = true then do let ok ← isTrue c X.env (eval c X.env); pure (ForInStep.yield ok) else pure (ForInStep.yield r)) (TP X pins σ Q) X.xe s
def tYes : TT := fun _ H Q => Q true H
theorem pts_nil : PTs X [] tYes := fun _ _ _ H _ I h => wpAny_tests_nil ⟨H, I, h⟩
theorem pts_one {c : Expr} {t : TT} (h : PT X c t) : PTs X [c] t := fun pins s σ H Q I hw => wpAny_tests_one (h pins s σ H Q I hw)
end
theorem thnF {α : Type} {t : Sem α} {Q Q' : α → Shared → Prop} {M : Model} {A : Around} {E : Value → Shared → Prop} {s : Shared} (h : wpAny M A t Q (fun _ _ => False) s) (hQ : ∀ a s, Q a s → Q' a s) : wpAny M A t Q' E s := wpAny_mono h hQ fun _ _ z => False.elim z
theorem compLoop_any {prog : Program} {w : World} {A : Around} {R : Result → Shared → Prop} {s : Shared} {elt target iter : Expr} {ifs : List Expr} {scope : Scope} {pos : Pos} {it acc : Value} {env : Env} (I : Nat → Shared → Prop)
    (turn : ∀ n s, I n s → wpAny (model prog w) A (pyNext it) (fun r s₁ => match r with
      | none => R (.ok .next) s₁
      | some v => wpAny (model prog w) A (letOwnedTupleGo target it v) (fun _ s₁' => wpAny (model prog w) A (assign target env v) (fun _ s₂ =>
          wpAny (model prog w) A (forIn ifs true fun c r => if r = true then do let ok ← isTrue c env (eval c env); pure (ForInStep.yield ok) else pure (ForInStep.yield r)) (fun ok s₃ =>
            if ok = true then wpAny (model prog w) A (eval elt env) (fun x s₄ =>
              wpAny (model prog w) A (call (.builtin "list.append") [acc, x]) (fun _ s₅ => ∃ m, m < n ∧ I m s₅) (notedBy (model prog w) A env fun e s' => R (.error e) s') s₄) (notedBy (model prog w) A env fun e s' => R (.error e) s') s₃
            else ∃ m, m < n ∧ I m s₃) (notedBy (model prog w) A env fun e s' => R (.error e) s') s₂) (notedBy (model prog w) A env fun e s' => R (.error e) s') s₁') (notedBy (model prog w) A env fun e s' => R (.error e) s') s₁) (notedBy (model prog w) A env fun e s' => R (.error e) s') s)
    (n : Nat) (h : I n s) :
    codeAny (model prog w) A (.compLoop (.ListComp elt [⟨target, iter, ifs, 0⟩] scope pos) 0 it acc env) R s := by
  refine codeAny_loop rfl I (fun n s hI => ?_) n h
  show wpAny _ A ((compTurn (.ListComp elt [⟨target, iter, ifs, 0⟩] scope pos) 0 it acc env).onRaise (fun x => do noteFrame x env; theTreesLotGoes x)) _ _ s
  refine wpAny_noted ?_
  rw [compTurn_list]
  refine wpAny_bind (wpAny_standAt (wpAny_bind (wpAny_mono (turn n s hI) (fun r s₁ h₁ => ?_) fun _ _ h' => h')))
  cases r with
  | none => exact wpAny_pure h₁
  | some v =>
    refine wpAny_bind (wpAny_mono h₁ (fun _ s₁' h₁' => ?_) fun _ _ h' => h')
    refine wpAny_bind (wpAny_mono h₁' (fun _ s₂ h₂ => wpAny_bind (wpAny_mono h₂ (fun ok s₃ h₃ => ?_) fun _ _ h' => h')) fun _ _ h' => h')
    cases ok with
    | false => exact wpAny_pure ⟨rfl, h₃⟩
    | true =>
      exact wpAny_bind (wpAny_bind (wpAny_mono h₃ (fun x s₄ h₄ => wpAny_bind (wpAny_mono h₄ (fun _ s₅ h₅ => wpAny_pure (wpAny_pure ⟨rfl, h₅⟩)) fun _ _ h' => h')) fun _ _ h' => h'))
section
variable {X : Cx}
def tLc (wi : TI) (g : TG) (tt : TT) (te : TE) (vs : List Nat) : TE := fun σ H Q => wi σ H fun J H1 => ∀ D, H1 D = none → ∃ W : Nat → Nat → Hp → Prop, (∃ m, W 0 m (upd H1 D (.lst []))) ∧ ∀ i m H, W i m H →
  (J.stop i H ∧ Q (.ref D) H) ∨ (J.go i H ∧ ∃ Nx : Hp → Prop, (∀ H', Nx H' → ∃ m', m' < m ∧ W (i + 1) m' H') ∧ ∀ x H', J.yld i H x H' → g x (wipe σ vs) H' fun σ2 H2 => wipe σ2 vs = wipe σ vs ∧ tt σ2 H2 fun b H3 =>
    if b = true then te σ2 H3 fun y H4 => ∃ acc, H4 D = some (.lst acc) ∧ acc.length < sizeLine ∧ Nx (upd H4 D (.lst (acc ++ [y]))) else Nx H3)
theorem lc_core {pins : List (Addr × Obj)} {s : Shared} {σ : St} {H : Hp} {Q : VK} {elt tg iter : Expr} {ifs : List Expr} {scope : Scope} {own : List (Str × Nat)} {pos pos' : Pos} {wi : TI} {g : TG} {tt : TT} {te : TE} {use : Option (Value → Sem Unit)} {Qf : Value → Shared → Prop}
    (hc : X.calm = true) (hN : X.N.Nodup) (I : Inv X pins σ H s) (hi : PI X tg iter wi) (ok : BlkOk X.N X.env.scope scope own)
    (hg : ∀ (s : Shared) (H : Hp) (C : Addr) (cl : List (Str × Addr)) (fp : List Addr), PG (X.blk s H scope (compEnvC scope cl C X.env) fp) tg g) (ht : ∀ (s : Shared) (H : Hp) (C : Addr) (cl : List (Str × Addr)) (fp : List Addr), PTs (X.blk s H scope (compEnvC scope cl C X.env) fp) ifs tt)
    (he : ∀ (s : Shared) (H : Hp) (C : Addr) (cl : List (Str × Addr)) (fp : List Addr), PE (X.blk s H scope (compEnvC scope cl C X.env) fp) elt te) (hs : ∀ x, foldedSetIterable iter X.env x = pure x)
    (h : tLc wi g tt te (own.map (·.2)) σ H Q)
    (hRR : ∀ D C s' m H', Inv X pins σ H' s' → Q (.ref D) H' → s'.heap.Ns C m → FpOk X pins H' C → compPost (model X.prog X.w) X.A X.xe use Qf (.ref D) C (.ok .next) s') :
    wpAny (model X.prog X.w) X.A (comprehension (.ListComp elt [⟨tg, iter, ifs, 0⟩] scope pos) scope X.env pos' (newList []) false (eval iter X.env) use) Qf X.xe s := by
  have hfree : ∀ y ∈ scope.names, y.2 = .free → ∃ c, X.env.cells.lookup y.1 = some c := fun y hy e => by
    rcases ok.free y hy e with k | k
    · exact I.ok.has _ (.inl k)
    · exact I.ok.has _ (.inr k)
  refine wpAny_comprehension_free (use := use) rfl hs (closure_ok hfree) ok.kind (fun y hy e => by rw [ok.uniq y hy, e])
    (thn (hi pins s σ H _ I h) fun xv s1 hx => thn hx fun itv s2 h2 => ?_)
  obtain ⟨it, fp, tn, J, H2, e, I2, T, st2, f2, q⟩ := h2
  subst e
  refine wpAny_newObj_type (newEnv_comp ?_) (by show 0 ≤ sizeLine; decide)
  generalize hD : s2.heap.objs.size = D
  have hDn : H2 D = none := I2.hok.fresh (Nat.le_of_eq hD)
  obtain ⟨W, ⟨m0, w0⟩, turn⟩ := q D hDn
  generalize hs3 : ({ s2 with heap := s2.heap.push { cls := .type "list", data := .seq ([] : List Value).toArray } } : Shared) = s3
  have I3 : Inv X pins σ (upd H2 D (.lst [])) s3 := by
    rw [← hs3]
    refine I2.laid (t' := s2.toks) (fun b o e => Heap.get?_push_of_some _ e) (Nat.le_of_eq hD) ⟨Nat.zero_le _, [], 0, .nil, ?_⟩
    rw [← hD]
    exact Heap.get?_push_size _ rfl
  have h3 : s3.heap = s2.heap.push { cls := .type "list", data := .seq ([] : List Value).toArray } := by rw [← hs3]
  have sz : ∀ b ∈ fp, b < s2.heap.objs.size := fun b hb => by
    obtain ⟨o, e, _⟩ := T.obj _ _ st2 b hb
    exact Heap.lt_size e
  have f3 : ∀ b ∈ fp, FpOk X pins (upd H2 D (.lst [])) b ∧ b < s3.heap.objs.size := fun b hb => by
    have hlt := sz b hb
    refine ⟨⟨?_, (f2 b hb).2⟩, by rw [h3, Heap.size_push]; exact Nat.lt_succ_of_lt hlt⟩
    rw [upd_ne (by rw [← hD]; exact Nat.ne_of_lt hlt)]
    exact (f2 b hb).1
  have st3 : tn 0 s3.heap := T.keep _ _ _ st2 fun b _ o e => by rw [h3]; exact Heap.get?_push_of_some _ e
  have I4 := block_start I3 ok hN f3
  have pg := hg s3 (upd H2 D (.lst [])) s3.heap.objs.size (cellsFrom (s3.heap.objs.size + 1) scope.names (cloFrom X.env.cells scope.names [])) fp
  have pt := ht s3 (upd H2 D (.lst [])) s3.heap.objs.size (cellsFrom (s3.heap.objs.size + 1) scope.names (cloFrom X.env.cells scope.names [])) fp
  have pe := he s3 (upd H2 D (.lst [])) s3.heap.objs.size (cellsFrom (s3.heap.objs.size + 1) scope.names (cloFrom X.env.cells scope.names [])) fp
  show codeAny _ _ (.compStart (.ListComp elt [⟨tg, iter, ifs, 0⟩] scope pos) 0 (.ref it) (.ref D) (compEnvC scope (cellsFrom (s3.heap.objs.size + 1) scope.names (cloFrom X.env.cells scope.names [])) s3.heap.objs.size X.env)) (compPost (model X.prog X.w) X.A X.xe use Qf (.ref D) s3.heap.objs.size) { s3 with heap := pushCells (s3.heap.push { cls := .type "dict", data := .dict #[] }) scope.names }
  have nfp : ∀ b ∈ fp, (upd H2 D (.lst [])) b = none := fun b hb => (f3 b hb).1.1
  generalize hce : compEnvC scope (cellsFrom (s3.heap.objs.size + 1) scope.names (cloFrom X.env.cells scope.names [])) s3.heap.objs.size X.env = ce at I4 pg pt pe ⊢
  have cL : ce.locals = s3.heap.objs.size := by subst hce; rfl
  generalize hH3 : upd H2 D (.lst []) = H3 at I3 I4 pg pt pe w0 nfp f3
  generalize hs4 : ({ s3 with heap := pushCells (s3.heap.push { cls := .type "dict", data := .dict #[] }) scope.names } : Shared) = s4 at I4 ⊢
  have st4 : tn 0 s4.heap := T.keep _ _ _ st3 fun b _ o e => by rw [← hs4]; exact pushCells_keeps _ _ _ _ (Heap.get?_push_of_some _ e)
  have stat : ∀ {σ' : St} {H' : Hp} {s' : Shared}, Inv (X.blk s3 H3 scope ce fp) [] σ' H' s' → (∀ b ∈ fp, H' b = none) → ∀ b ∈ fp, FpOk (X.blk s3 H3 scope ce fp) [] H' b := fun {σ' H' s'} I' hn b hb =>
    ⟨hn b hb, (I'.ok.exf b hb).1, I'.ok.exfs b hb, .inl hb, fun x c e => (I'.ok.exf b hb).2 x c e, fun p hp => absurd (show p ∈ ([] : List (Addr × Obj)) ++ [] from hp) (by simp)⟩
  have loop : codeAny (model X.prog X.w) X.A (.compLoop (.ListComp elt [⟨tg, iter, ifs, 0⟩] scope pos) 0 (.ref it) (.ref D) ce) (compPost (model X.prog X.w) X.A X.xe use Qf (.ref D) s3.heap.objs.size) s4 := by
    refine compLoop_any (fun n s' => ∃ i H', Inv (X.blk s3 H3 scope ce fp) [] (wipe σ (own.map (·.2))) H' s' ∧ tn i s'.heap ∧ (∀ b ∈ fp, H' b = none) ∧ W i n H') ?_ m0 ⟨0, H3, I4, st4, nfp, w0⟩
    rintro n s5 ⟨i, H5, I5, st5, n5, w5⟩
    rcases turn i n H5 w5 with ⟨stop, qq⟩ | ⟨go, Nx, hNx, step⟩
    · have td := T.done (X.blk s3 H3 scope ce fp) rfl rfl rfl hc i [] s5 _ H5 (fun _ _ => False) I5 (stat I5 n5) st5 stop
      refine thnF td fun r s6 ⟨hr, I6⟩ => ?_
      subst hr
      have I7 : Inv X pins σ H5 s6 := I3.call' (ch := fp) I6.os I6.base I6.hok I6.bare fun b hb => ⟨(f3 b hb).1.2.2.2.1, (f3 b hb).1.2.1, (f3 b hb).1.2.2.2.2.1, (f3 b hb).1.2.2.2.2.2⟩
      have nC : H5 s3.heap.objs.size = none := by
        have z : H5 ce.locals = none := I6.free
        rw [cL] at z
        exact z
      obtain ⟨m, hn, _⟩ := I6.loc
      have hn : s6.heap.Ns ce.locals m := hn
      rw [cL] at hn
      exact hRR D s3.heap.objs.size s6 m H5 I7 qq hn (I3.fpOk (Nat.le_refl _) nC)
    · have ti := T.item (X.blk s3 H3 scope ce fp) rfl rfl rfl hc i [] s5 _ H5 (fun _ _ => False) I5 (stat I5 n5) st5 go
      refine thnF ti fun r s6 ⟨u, hr, h6⟩ => ?_
      subst hr
      refine thnF h6 fun _ s7 ⟨x, H7, I7, r7, y7, st7, n7⟩ => ?_
      have I7' := I7.pinned (stat I7 n7) (T.obj _ _ st7)
      refine thnF (pg _ s7 _ H7 x u _ I7' r7 (step x H7 y7)) fun _ s8 ⟨σ8, H8, I8, hw8, q8⟩ => ?_
      refine thnF (pt _ s8 σ8 H8 _ I8 q8) fun b s9 ⟨H9, I9, q9⟩ => ?_
      have fin : ∀ {s' : Shared} {H' : Hp}, Inv (X.blk s3 H3 scope ce fp) ([] ++ pinsAt fp s7.heap) σ8 H' s' → Nx H' → ∃ m, m < n ∧ ∃ i H', Inv (X.blk s3 H3 scope ce fp) [] (wipe σ (own.map (·.2))) H' s' ∧ tn i s'.heap ∧ (∀ b ∈ fp, H' b = none) ∧ W i m H' := fun {s' H'} I' nx => by
        obtain ⟨m', hm, w'⟩ := hNx H' nx
        have pin' : ∀ b ∈ fp, ∀ o, s7.heap.get? b = some o → s'.heap.get? b = some o ∧ H' b = none := fun b hb o e =>
          let z := I'.pin (b, o) (List.mem_append_right _ (List.mem_append_right _ (mem_pinsAt hb e)))
          ⟨z.1, z.2.1⟩
        have hl : (wipe σ (own.map (·.2))).length = σ8.length := by rw [← hw8, wipe_length]
        refine ⟨m', hm, i + 1, H', (I'.unpinned (pins := [])).weak hl (fun j v e => ?_), T.keep _ _ _ st7 fun b hb o e => (pin' b hb o e).1, fun b hb => ?_, w'⟩
        · rw [← hw8] at e
          exact (wipe_some e).1
        · obtain ⟨o, e, _⟩ := T.obj _ _ st7 b hb
          exact (pin' b hb o e).2
      cases b with
      | false =>
        simp only [Bool.false_eq_true, if_false] at q9 ⊢
        exact fin I9 q9
      | true =>
        simp only [if_true] at q9 ⊢
        refine thnF (pe _ s9 σ8 H9 _ I9 q9) fun z s10 ⟨yv, H10, I10, r10, acc, hD10, hz10, nx⟩ => ?_
        exact app_ok (X := X.blk s3 H3 scope ce fp) I10 hD10 hz10 r10 fun s11 I11 => fin I11 nx
  exact codeAny_compStart_list loop (T.self X.A 0 _ _ _ st4 loop)
theorem pe_lc {elt tg iter : Expr} {ifs : List Expr} {scope : Scope} {own : List (Str × Nat)} {pos : Pos} {wi : TI} {g : TG} {tt : TT} {te : TE} (hc : X.calm = true) (hN : X.N.Nodup) (hi : PI X tg iter wi) (ok : BlkOk X.N X.env.scope scope own)
    (hg : ∀ (s : Shared) (H : Hp) (C : Addr) (cl : List (Str × Addr)) (fp : List Addr), PG (X.blk s H scope (compEnvC scope cl C X.env) fp) tg g) (ht : ∀ (s : Shared) (H : Hp) (C : Addr) (cl : List (Str × Addr)) (fp : List Addr), PTs (X.blk s H scope (compEnvC scope cl C X.env) fp) ifs tt)
    (he : ∀ (s : Shared) (H : Hp) (C : Addr) (cl : List (Str × Addr)) (fp : List Addr), PE (X.blk s H scope (compEnvC scope cl C X.env) fp) elt te) (hs : ∀ x, foldedSetIterable iter X.env x = pure x := by intro _; rfl) :
    PE X (.ListComp elt [⟨tg, iter, ifs, 0⟩] scope pos) (tLc wi g tt te (own.map (·.2))) := by
  intro pins s σ H Q I h
  rw [eval_ListComp]
  refine lc_core hc hN I hi ok hg ht he hs h fun D C s' m H' I' q hn f => ⟨m, hn, fun h'' sb => ?_⟩
  obtain ⟨f0, f1, f2, f3, f4, f5⟩ := f
  exact ⟨.ref D, H', I'.turned (t' := s'.toks) (fun b o hb e => (sb.2 b hb).trans e) f0 f1 f3 f4 f5, rfl, q⟩
theorem ps_setLc {i : Nat} {y : Str} {py : Pos} {elt tg iter : Expr} {ifs : List Expr} {scope : Scope} {own : List (Str × Nat)} {pos spos : Pos} {wi : TI} {g : TG} {tt : TT} {te : TE} (hc : X.calm = true) (hN : X.N.Nodup) (hy : X.N[i]? = some y) (hyl : X.env.scope.names.lookup y = some .local)
    (hsw : swapsWith (.ListComp elt [⟨tg, iter, ifs, 0⟩] scope pos) (some (.Name y py)) spos.line X.env = pure true) (hi : PI X tg iter wi) (ok : BlkOk X.N X.env.scope scope own)
    (hg : ∀ (s : Shared) (H : Hp) (C : Addr) (cl : List (Str × Addr)) (fp : List Addr), PG (X.blk s H scope (compEnvC scope cl C X.env) fp) tg g) (ht : ∀ (s : Shared) (H : Hp) (C : Addr) (cl : List (Str × Addr)) (fp : List Addr), PTs (X.blk s H scope (compEnvC scope cl C X.env) fp) ifs tt)
    (he : ∀ (s : Shared) (H : Hp) (C : Addr) (cl : List (Str × Addr)) (fp : List Addr), PE (X.blk s H scope (compEnvC scope cl C X.env) fp) elt te) (hs : ∀ x, foldedSetIterable iter X.env x = pure x := by intro _; rfl) :
    PS X (.Assign [.Name y py] (.ListComp elt [⟨tg, iter, ifs, 0⟩] scope pos) spos) (tAsg (tLc wi g tt te (own.map (·.2))) (gName i)) := by
  intro pins s σ H D I h
  rw [exec_Assign_Name_used _ _ _ _ hsw]
  refine wpAny_bind (wpAny_standAt (wpAny_bind ?_))
  show wpAny _ X.A (do let _ ← comprehension (.ListComp elt [⟨tg, iter, ifs, 0⟩] scope pos) scope X.env (firstIterPos [⟨tg, iter, ifs, 0⟩] pos) (newList []) false (eval iter X.env) (some (assign (.Name y py) X.env))) _ _ s
  have h : tLc wi g tt te (own.map (·.2)) σ H (fun x H1 => gName i x σ H1 D.nx) := h
  refine wpAny_bind (thn (lc_core (Qf := fun _ s' => SP X pins D .next s') hc hN I hi ok hg ht he hs h fun L C s' m H' I' q hn f => ?_) fun _ s' hq => wpAny_pure (wpAny_pure hq))
  show wpAny _ _ (assign (.Name y py) X.env (.ref L)) _ _ _
  refine wpAny_assign_Name (store_ok2 (v := V.ref L) I' hN hy (.inl hyl) rfl (fun s2 I2 ⟨a, sb, ha⟩ => ?_) (.inr hyl))
  obtain ⟨f0, f1, f2, f3, f4, f5⟩ := f
  have haC : C ≠ a := by
    rcases ha with z | z
    · rw [z]; exact f1
    · exact fun e => f4 y a z e.symm
  refine ⟨m, hn.sameBut sb haC, fun h3 sb3 => ?_⟩
  exact ⟨_, H', I2.turned (t' := s2.toks) (fun b o hb e => (sb3.2 b hb).trans e) f0 f1 f3 f4 f5, q⟩
theorem sw_true {elt : Expr} {gs : List Comprehension} {scope : Scope} {pos py : Pos} {y : Str} {l : Nat} {env : Env} (hk : env.scope.kind = .function) (hy : env.scope.names.lookup y = some .local) (hl : (py.line == pos.line) = true)
    (ha : (scope.names.any fun (n, k) => n == y && (k == .local || k == .cell)) = false) : swapsWith (.ListComp elt gs scope pos) (some (.Name y py)) l env = pure true := by
  have ky : env.kindOf y = some .local := hy
  have hb : env.blockKind = .function := by unfold Env.blockKind; rw [hk]; rfl
  unfold swapsWith
  simp only [hb, ky, ha, Expr.pos, hl]
  rfl
end
theorem lc_range {lo : Int} {n : Nat} {g : TG} {tt : TT} {te : TE} {vs : List Nat} {σ : St} {H1 : Hp} {D : Addr} {Qd : Hp → Prop} (Pv : Nat → Hp → Prop) (h0 : Pv 0 (upd H1 D (.lst [])))
    (hs : ∀ i H, i < n → Pv i H → g (.int (lo + i)) (wipe σ vs) H fun σ2 H2 => wipe σ2 vs = wipe σ vs ∧ tt σ2 H2 fun b H3 =>
      if b = true then te σ2 H3 fun y H4 => ∃ acc, H4 D = some (.lst acc) ∧ acc.length < sizeLine ∧ Pv (i + 1) (upd H4 D (.lst (acc ++ [y]))) else Pv (i + 1) H3) (hd : ∀ H, Pv n H → Qd H) :
    ∃ W : Nat → Nat → Hp → Prop, (∃ m, W 0 m (upd H1 D (.lst []))) ∧ ∀ i m H, W i m H →
      ((Itr lo n).stop i H ∧ Qd H) ∨ ((Itr lo n).go i H ∧ ∃ Nx : Hp → Prop, (∀ H', Nx H' → ∃ m', m' < m ∧ W (i + 1) m' H') ∧ ∀ x H', (Itr lo n).yld i H x H' → g x (wipe σ vs) H' fun σ2 H2 => wipe σ2 vs = wipe σ vs ∧ tt σ2 H2 fun b H3 =>
        if b = true then te σ2 H3 fun y H4 => ∃ acc, H4 D = some (.lst acc) ∧ acc.length < sizeLine ∧ Nx (upd H4 D (.lst (acc ++ [y]))) else Nx H3) := by
  refine ⟨fun i m H => m = n - i ∧ i ≤ n ∧ Pv i H, ⟨n, by simp, Nat.zero_le _, h0⟩, ?_⟩
  rintro i m H ⟨rfl, hi, p⟩
  by_cases hlt : i < n
  · refine .inr ⟨hlt, Pv (i + 1), fun H' p' => ⟨n - (i + 1), by omega, rfl, hlt, p'⟩, fun x H' y => ?_⟩
    obtain ⟨e, y⟩ := y
    subst e y
    exact hs i _ hlt p
  · have e : i = n := by omega
    subst e
    exact .inl ⟨Nat.le_refl _, hd H p⟩
theorem lc_list {K : PySem.W.Frag} {a : Addr} {xs : List V} {g : TG} {tt : TT} {te : TE} {vs : List Nat} {σ : St} {H1 : Hp} {D : Addr} {Qd : Hp → Prop} (Pv : Nat → Hp → Prop) (h0 : Pv 0 (upd H1 D (.lst []))) (hl : ∀ i H, i ≤ xs.length → Pv i H → SqL K H a xs)
    (hs : ∀ i x H, xs[i]? = some x → Pv i H → g x (wipe σ vs) H fun σ2 H2 => wipe σ2 vs = wipe σ vs ∧ tt σ2 H2 fun b H3 =>
      if b = true then te σ2 H3 fun y H4 => ∃ acc, H4 D = some (.lst acc) ∧ acc.length < sizeLine ∧ Pv (i + 1) (upd H4 D (.lst (acc ++ [y]))) else Pv (i + 1) H3) (hd : ∀ H, Pv xs.length H → Qd H) :
    ∃ W : Nat → Nat → Hp → Prop, (∃ m, W 0 m (upd H1 D (.lst []))) ∧ ∀ i m H, W i m H →
      ((Itl K a).stop i H ∧ Qd H) ∨ ((Itl K a).go i H ∧ ∃ Nx : Hp → Prop, (∀ H', Nx H' → ∃ m', m' < m ∧ W (i + 1) m' H') ∧ ∀ x H', (Itl K a).yld i H x H' → g x (wipe σ vs) H' fun σ2 H2 => wipe σ2 vs = wipe σ vs ∧ tt σ2 H2 fun b H3 =>
        if b = true then te σ2 H3 fun y H4 => ∃ acc, H4 D = some (.lst acc) ∧ acc.length < sizeLine ∧ Nx (upd H4 D (.lst (acc ++ [y]))) else Nx H3) := by
  refine ⟨fun i m H => m = xs.length - i ∧ i ≤ xs.length ∧ Pv i H, ⟨xs.length, by simp, Nat.zero_le _, h0⟩, ?_⟩
  rintro i m H ⟨rfl, hi, p⟩
  have q := hl i H hi p
  by_cases hlt : i < xs.length
  · refine .inr ⟨⟨xs, xs[i], q, by simp [hlt]⟩, Pv (i + 1), fun H' p' => ⟨xs.length - (i + 1), by omega, rfl, hlt, p'⟩, fun x H' y => ?_⟩
    obtain ⟨e, y⟩ := y
    subst e
    exact hs i x _ (y xs q) p
  · have e : i = xs.length := by omega
    subst e
    exact .inl ⟨⟨xs, q, Nat.le_refl _⟩, hd H p⟩
theorem lc_tup {K : PySem.W.Frag} {a : Addr} {xs : List V} {g : TG} {tt : TT} {te : TE} {vs : List Nat} {σ : St} {H1 : Hp} {D : Addr} {Qd : Hp → Prop} (Pv : Nat → Hp → Prop) (h0 : Pv 0 (upd H1 D (.lst []))) (hl : ∀ i H, i ≤ xs.length → Pv i H → SqT K H a xs)
    (hs : ∀ i x H, xs[i]? = some x → Pv i H → g x (wipe σ vs) H fun σ2 H2 => wipe σ2 vs = wipe σ vs ∧ tt σ2 H2 fun b H3 =>
      if b = true then te σ2 H3 fun y H4 => ∃ acc, H4 D = some (.lst acc) ∧ acc.length < sizeLine ∧ Pv (i + 1) (upd H4 D (.lst (acc ++ [y]))) else Pv (i + 1) H3) (hd : ∀ H, Pv xs.length H → Qd H) :
    ∃ W : Nat → Nat → Hp → Prop, (∃ m, W 0 m (upd H1 D (.lst []))) ∧ ∀ i m H, W i m H →
      ((Itt K a).stop i H ∧ Qd H) ∨ ((Itt K a).go i H ∧ ∃ Nx : Hp → Prop, (∀ H', Nx H' → ∃ m', m' < m ∧ W (i + 1) m' H') ∧ ∀ x H', (Itt K a).yld i H x H' → g x (wipe σ vs) H' fun σ2 H2 => wipe σ2 vs = wipe σ vs ∧ tt σ2 H2 fun b H3 =>
        if b = true then te σ2 H3 fun y H4 => ∃ acc, H4 D = some (.lst acc) ∧ acc.length < sizeLine ∧ Nx (upd H4 D (.lst (acc ++ [y]))) else Nx H3) := by
  refine ⟨fun i m H => m = xs.length - i ∧ i ≤ xs.length ∧ Pv i H, ⟨xs.length, by simp, Nat.zero_le _, h0⟩, ?_⟩
  rintro i m H ⟨rfl, hi, p⟩
  have q := hl i H hi p
  by_cases hlt : i < xs.length
  · refine .inr ⟨⟨xs, xs[i], q, by simp [hlt]⟩, Pv (i + 1), fun H' p' => ⟨xs.length - (i + 1), by omega, rfl, hlt, p'⟩, fun x H' y => ?_⟩
    obtain ⟨e, y⟩ := y
    subst e
    exact hs i x _ (y xs q) p
  · have e : i = xs.length := by omega
    subst e
    exact .inl ⟨⟨xs, q, Nat.le_refl _⟩, hd H p⟩
def blkC (N : List Str) (sc scope : Scope) (own : List (Str × Nat)) : Bool :=
  (match scope.kind with | .function => true | _ => false) && (scope.names.all fun y => decide (scope.names.lookup y.1 = some y.2)) && (own.all fun p => decide (N[p.2]? = some p.1)) &&
    (scope.names.all fun y => match y.2 with
      | .free => (match sc.names.lookup y.1 with | some .cell => true | some .free => true | _ => false)
      | .local => decide (y.1 ∈ own.map (·.1)) || decide (y.1 ∉ N)
      | .cell => decide (y.1 ∈ own.map (·.1)) || decide (y.1 ∉ N)
      | _ => true)
theorem blkOk_by {N : List Str} {sc scope : Scope} {own : List (Str × Nat)} (h : blkC N sc scope own = true) : BlkOk N sc scope own := by
  unfold blkC at h
  simp only [Bool.and_eq_true, List.all_eq_true, decide_eq_true_eq] at h
  obtain ⟨⟨⟨h1, h2⟩, h3⟩, h4⟩ := h
  refine ⟨?_, h2, h3, fun y hy e => ?_, fun y hy e => ?_⟩
  · split at h1
    · assumption
    · cases h1
  · have q := h4 y hy
    simp only [e] at q
    split at q <;> first | exact .inl (by assumption) | exact .inr (by assumption) | cases q
  · have q := h4 y hy
    rcases e with e | e <;> (simp only [e, Bool.or_eq_true, decide_eq_true_eq] at q; exact q)
end L2
namespace L2
open PySem PySem.Spec PyProof.Rows
section
variable {prog : Program} {w : World} {A : Around} {R : Result → Shared → Prop} {s : Shared} {elt t0 i0 t1 i1 : Expr} {ifs0 ifs1 : List Expr} {scope : Scope} {pos : Pos} {it acc : Value} {env : Env}
end
section
variable {X : Cx}
end
end L2
namespace L2
open PySem PySem.Spec PyProof.Rows
section
variable {κ : Type} [DecidableEq κ]
def valV (kvs : List (κ × V)) (k : κ) : Option V := (kvs.find? fun kv => decide (kv.1 = k)).map (·.2)
def putK (kvs : List (κ × V)) (k : κ) (v : V) : List (κ × V) :=
  if (kvs.any fun kv => decide (kv.1 = k)) = true then kvs.map (fun kv => if kv.1 = k then (kv.1, v) else kv) else kvs ++ [(k, v)]
theorem valV_pos {p : κ × V} {r : List (κ × V)} {k : κ} (e : p.1 = k) : valV (p :: r) k = some p.2 := by simp [valV, List.find?_cons, e]
theorem valV_neg {p : κ × V} {r : List (κ × V)} {k : κ} (e : ¬ p.1 = k) : valV (p :: r) k = valV r k := by simp [valV, List.find?_cons, e]
theorem valV_any (k : κ) : ∀ kvs : List (κ × V), (kvs.any fun kv => decide (kv.1 = k)) = (valV kvs k).isSome
  | [] => rfl
  | p :: r => by
    rw [List.any_cons]
    by_cases e : p.1 = k
    · simp only [valV_pos e, decide_eq_true e, Bool.true_or, Option.isSome_some]
    · rw [valV_neg e, decide_eq_false e, Bool.false_or]; exact valV_any k r
theorem valV_map (k j : κ) (y : V) : ∀ kvs : List (κ × V), valV (kvs.map fun kv => if kv.1 = k then (kv.1, y) else kv) j = (valV kvs j).map fun x => if j = k then y else x
  | [] => rfl
  | p :: r => by
    have ih := valV_map k j y r
    rw [List.map_cons]
    by_cases h : p.1 = k
    · rw [if_pos h]
      by_cases e : p.1 = j
      · rw [valV_pos (p := (p.1, y)) e, valV_pos e, Option.map_some, if_pos (e.symm.trans h)]
      · rw [valV_neg (p := (p.1, y)) e, valV_neg e, ih]
    · rw [if_neg h]
      by_cases e : p.1 = j
      · rw [valV_pos (p := p) e, valV_pos e, Option.map_some, if_neg (fun z => h (e.trans z))]
      · rw [valV_neg (p := p) e, valV_neg e, ih]
theorem valV_snoc (k j : κ) (y : V) : ∀ kvs : List (κ × V), valV kvs k = none → valV (kvs ++ [(k, y)]) j = if j = k then some y else valV kvs j
  | [], _ => by
    by_cases e : k = j
    · rw [if_pos e.symm]; exact valV_pos (p := (k, y)) e
    · rw [if_neg (fun z => e z.symm)]; exact valV_neg (p := (k, y)) e
  | p :: r, hn => by
    rw [List.cons_append]
    have hk : ¬ p.1 = k := fun z => by rw [valV_pos z] at hn; cases hn
    rw [valV_neg hk] at hn
    have ih := valV_snoc k j y r hn
    by_cases e : p.1 = j
    · rw [valV_pos e, valV_pos e, if_neg (fun z => hk (e.trans z))]
    · rw [valV_neg e, valV_neg e, ih]
theorem valV_put (kvs : List (κ × V)) (k j : κ) (y : V) : valV (putK kvs k y) j = if j = k then some y else valV kvs j := by
  unfold putK
  by_cases a : (kvs.any fun kv => decide (kv.1 = k)) = true
  · rw [if_pos a, valV_map]
    rw [valV_any] at a
    by_cases e : j = k
    · obtain ⟨x, hx⟩ := Option.isSome_iff_exists.mp a
      rw [if_pos e, e, hx, Option.map_some, if_pos rfl]
    · rw [if_neg e]
      cases valV kvs j with
      | none => rfl
      | some x => rw [Option.map_some, if_neg e]
  · rw [if_neg a]
    refine valV_snoc k j y kvs ?_
    rw [valV_any] at a
    cases q : valV kvs k with
    | none => rfl
    | some x => rw [q] at a; exact (a rfl).elim
theorem length_putK (kvs : List (κ × V)) (k : κ) (v : V) : (putK kvs k v).length ≤ kvs.length + 1 := by
  unfold putK
  split
  · rw [List.length_map]; omega
  · rw [List.length_append, List.length_cons, List.length_nil]; omega
theorem putK_new {kvs : List (κ × V)} {k : κ} (v : V) (h : valV kvs k = none) : putK kvs k v = kvs ++ [(k, v)] := by
  unfold putK
  rw [valV_any, h]
  exact if_neg (by decide)
theorem RelO.isSome_eq {o : Option V} {u : Option Value} (r : RelO o u) : o.isSome = u.isSome := by
  cases o with
  | none => cases u with
    | none => rfl
    | some _ => exact (show False from r).elim
  | some _ => cases u with
    | none => exact (show False from r).elim
    | some _ => rfl
theorem KV.val {kvs : List (κ × V)} {vs : List (κ × Value)} (r : KV kvs vs) (k : κ) : RelO (valV kvs k) (valueAt vs k) := by
  unfold KV at r
  induction r with
  | nil => exact True.intro
  | @cons p q ps qs h t ih =>
    obtain ⟨h1, h2⟩ := h
    by_cases e : p.1 = k
    · have e' : q.1 = k := h1.symm.trans e
      have b : valueAt (q :: qs) k = some q.2 := by simp [valueAt, List.find?_cons, e']
      rw [valV_pos e, b]; exact h2
    · have e' : ¬ q.1 = k := fun z => e (h1.trans z)
      have b : valueAt (q :: qs) k = valueAt qs k := by simp [valueAt, List.find?_cons, e']
      rw [valV_neg e, b]; exact ih
theorem KV.any {kvs : List (κ × V)} {vs : List (κ × Value)} (r : KV kvs vs) (k : κ) : (kvs.any fun kv => decide (kv.1 = k)) = vs.any fun kv => decide (kv.1 = k) := by
  unfold KV at r
  induction r with
  | nil => rfl
  | cons h t ih => rw [List.any_cons, List.any_cons, ih, h.1]
theorem KV.repl {kvs : List (κ × V)} {vs : List (κ × Value)} (r : KV kvs vs) (k : κ) {y : V} {u : Value} (ry : RelV y u) :
    KV (kvs.map fun kv => if kv.1 = k then (kv.1, y) else kv) (vs.map fun kv => if kv.1 = k then (kv.1, u) else kv) := by
  unfold KV at r ⊢
  induction r with
  | nil => exact .nil
  | @cons p q ps qs h t ih =>
    rw [List.map_cons, List.map_cons]
    refine .cons ?_ ih
    obtain ⟨h1, h2⟩ := h
    by_cases e : p.1 = k
    · rw [if_pos e, if_pos (h1.symm.trans e)]; exact ⟨h1, ry⟩
    · rw [if_neg e, if_neg (fun z => e (h1.trans z))]; exact ⟨h1, h2⟩
theorem KV.put {kvs : List (κ × V)} {vs : List (κ × Value)} (r : KV kvs vs) (k : κ) {y : V} {u : Value} (ry : RelV y u) : KV (putK kvs k y) (stored vs k u) := by
  unfold putK stored
  rw [r.any k]
  by_cases e : (vs.any fun kv => decide (kv.1 = k)) = true
  · rw [if_pos e, if_pos e]; exact r.repl k ry
  · rw [if_neg e, if_neg e]; exact Paired.snoc r ⟨rfl, ry⟩
theorem KV.length {kvs : List (κ × V)} {vs : List (κ × Value)} (r : KV kvs vs) : kvs.length = vs.length := Paired.length r
end
theorem kV_is {P : Program} {w : World} {k : Key} {u : Value} (r : RelV (kV k) u) : (mixKind P w).is k u = true := by
  cases k with
  | inl i => obtain ⟨t, e⟩ := (show ∃ t, u = Value.int i t from r); subst e; exact mixKind_int P w i t
  | inr x => obtain ⟨t, e⟩ := (show ∃ t, u = Value.str x t from r); subst e; exact mixKind_str P w x t
theorem items_are {P : Program} {w : World} : ∀ {ks : List Key} {us : List Value}, Vals (ks.map kV) us → ItemsAre (mixKind P w) ks us
  | [], _, r => by rw [List.map_nil] at r; cases r; exact .nil
  | k :: ks, _, r => by
    rw [List.map_cons] at r
    cases r with
    | cons h t => exact .cons (kV_is h) (items_are t)
abbrev KT (H : Hp) : List (List Key × V) → List (List Key × Addr × Value) → Prop := Paired fun p q => p.1 = q.1 ∧ H q.2.1 = some (.tup (p.1.map kV)) ∧ RelV p.2 q.2.2
theorem KT.val {H : Hp} {kvs : List (List Key × V)} {xs : List (List Key × Addr × Value)} (r : KT H kvs xs) (k : List Key) : RelO (valV kvs k) ((atKey xs k).map (·.2)) := by
  induction r with
  | nil => exact True.intro
  | @cons p q ps qs h t ih =>
    obtain ⟨h1, _, h2⟩ := h
    by_cases e : p.1 = k
    · have e' : q.1 = k := h1.symm.trans e
      have b : atKey (q :: qs) k = some q.2 := by simp [atKey, List.find?_cons, e']
      rw [valV_pos e, b]; exact h2
    · have e' : ¬ q.1 = k := fun z => e (h1.trans z)
      have b : atKey (q :: qs) k = atKey qs k := by simp [atKey, List.find?_cons, e']
      rw [valV_neg e, b]; exact ih
theorem KT.repl {H : Hp} {kvs : List (List Key × V)} {xs : List (List Key × Addr × Value)} (r : KT H kvs xs) (k : List Key) {y : V} {u : Value} (ry : RelV y u) :
    KT H (kvs.map fun kv => if kv.1 = k then (kv.1, y) else kv) (xs.map (putAt k u)) := by
  induction r with
  | nil => exact .nil
  | @cons p q ps qs h t ih =>
    rw [List.map_cons, List.map_cons]
    refine .cons ?_ ih
    obtain ⟨h1, h2, h3⟩ := h
    unfold putAt
    by_cases e : p.1 = k
    · rw [if_pos e, if_pos (h1.symm.trans e)]; exact ⟨h1, h2, ry⟩
    · rw [if_neg e, if_neg (fun z => e (h1.trans z))]; exact ⟨h1, h2, h3⟩
theorem KT.put {H : Hp} {kvs : List (List Key × V)} {xs : List (List Key × Addr × Value)} (r : KT H kvs xs) (k : List Key) {b : Addr} {y : V} {u : Value} (hb : H b = some (.tup (k.map kV))) (ry : RelV y u) :
    KT H (putK kvs k y) (storedH xs k b u) := by
  have e : (kvs.any fun kv => decide (kv.1 = k)) = (atKey xs k).isSome := by
    rw [valV_any, (r.val k).isSome_eq, Option.isSome_map]
  unfold putK storedH
  rw [e]
  by_cases q : (atKey xs k).isSome = true
  · rw [if_pos q, if_pos q]; exact r.repl k ry
  · rw [if_neg q, if_neg q]; exact Paired.snoc r ⟨rfl, hb, ry⟩
theorem KT.keeps {H H' : Hp} {kvs : List (List Key × V)} {xs : List (List Key × Addr × Value)} (r : KT H kvs xs) (ht : ∀ b ys, H b = some (.tup ys) → H' b = some (.tup ys)) : KT H' kvs xs :=
  Paired.mapP r fun _ _ z => ⟨z.1, ht _ _ z.2.1, z.2.2⟩
section
variable {P : Program} {w : World} {H : Hp} {h : Heap} {a : Addr}
theorem rd_of {u : HO} (ok : HOk P w H h) (e : Rd H a u) : ObjOk P w H h a u := e.ok ok
theorem dk_rd {kvs : List (Key × V)} (ok : HOk P w H h) (e : Rd H a (.dK kvs)) : kvs.length ≤ sizeLine ∧ (a == sysModules) = false ∧ ∃ vs, KV kvs vs ∧ h.DictOf (mixKind P w) a vs :=
  show ObjOk P w H h a (.dK kvs) from rd_of ok e
theorem dk_of {kvs : List (Key × V)} (ok : HOk P w H h) (e : H a = some (.dK kvs)) : kvs.length ≤ sizeLine ∧ (a == sysModules) = false ∧ ∃ vs, KV kvs vs ∧ h.DictOf (mixKind P w) a vs := dk_rd ok (.inl e)
theorem key_of {ks : List Key} (ok : HOk P w H h) (e : H a = some (.tup (ks.map kV))) : (tupleKind (mixKind P w)).is h ks a := by
  obtain ⟨_, its, r, o, h1, h2, n, h3⟩ := (show ObjOk P w H h a (.tup (ks.map kV)) from ok a _ e)
  exact ⟨o, its.toArray, n, h1, h2, h3, by simpa using items_are r⟩
theorem dt_rd {kvs : List (List Key × V)} (ok : HOk P w H h) (e : Rd H a (.dT kvs)) : kvs.length ≤ sizeLine ∧ (a == sysModules) = false ∧
    ∃ xs, KT H kvs xs ∧ h.DictOfH (tupleKind (mixKind P w)) a xs := by
  obtain ⟨z, y, xs, r, o, es, ep, h1, h2, h3, h4, h5⟩ := (show ObjOk P w H h a (.dT kvs) from rd_of ok e)
  refine ⟨z, y, xs, r, o, es, ep, h1, h2, h3, h4, fun x hx => ?_, h5⟩
  have all : ∀ {l : List (List Key × V)} {m : List (List Key × Addr × Value)}, KT H l m → ∀ x ∈ m, (tupleKind (mixKind P w)).is h x.1 x.2.1 := by
    intro l m q
    induction q with
    | nil => intro x hx; exact nomatch hx
    | @cons p q ps qs hq t ih =>
      intro x hx
      rcases List.mem_cons.mp hx with e | hx
      · subst e
        exact key_of ok (by rw [← hq.1]; exact hq.2.1)
      · exact ih x hx
  exact all r x hx
theorem dt_of {kvs : List (List Key × V)} (ok : HOk P w H h) (e : H a = some (.dT kvs)) : kvs.length ≤ sizeLine ∧ (a == sysModules) = false ∧
    ∃ xs, KT H kvs xs ∧ h.DictOfH (tupleKind (mixKind P w)) a xs := dt_rd ok (.inl e)
end
def DGet (H : Hp) (a : Addr) (y : V) (r : Option V) : Prop :=
  (∃ kvs k, Rd H a (.dK kvs) ∧ y = kV k ∧ r = valV kvs k) ∨ ∃ kvs k b, Rd H a (.dT kvs) ∧ y = .ref b ∧ H b = some (.tup (k.map kV)) ∧ r = valV kvs k
def DPut (H : Hp) (a : Addr) (y v : V) (H' : Hp) : Prop :=
  (∃ kvs k, H a = some (.dK kvs) ∧ y = kV k ∧ kvs.length < sizeLine ∧ H' = upd H a (.dK (putK kvs k v))) ∨
  ∃ kvs k b, H a = some (.dT kvs) ∧ y = .ref b ∧ H b = some (.tup (k.map kV)) ∧ kvs.length < sizeLine ∧ H' = upd H a (.dT (putK kvs k v))
theorem DGet.k {H : Hp} {a : Addr} {kvs : List (Key × V)} {k : Key} (e : H a = some (.dK kvs)) : DGet H a (kV k) (valV kvs k) := .inl ⟨kvs, k, .inl e, rfl, rfl⟩
theorem DGet.t {H : Hp} {a b : Addr} {kvs : List (List Key × V)} {k : List Key} (e : H a = some (.dT kvs)) (eb : H b = some (.tup (k.map kV))) : DGet H a (.ref b) (valV kvs k) := .inr ⟨kvs, k, b, .inl e, rfl, eb, rfl⟩
theorem DPut.k {H : Hp} {a : Addr} {kvs : List (Key × V)} {k : Key} {v : V} (e : H a = some (.dK kvs)) (hl : kvs.length < sizeLine) : DPut H a (kV k) v (upd H a (.dK (putK kvs k v))) := .inl ⟨kvs, k, e, rfl, hl, rfl⟩
theorem DPut.t {H : Hp} {a b : Addr} {kvs : List (List Key × V)} {k : List Key} {v : V} (e : H a = some (.dT kvs)) (eb : H b = some (.tup (k.map kV))) (hl : kvs.length < sizeLine) :
    DPut H a (.ref b) v (upd H a (.dT (putK kvs k v))) := .inr ⟨kvs, k, b, e, rfl, eb, hl, rfl⟩
section
variable {X : Cx} {pins : List (Addr × Obj)} {σ : St} {H : Hp} {s : Shared} {a : Addr} {y v : V} {u r : Value} {o : Option V} {A : Around} {E : Value → Shared → Prop}
theorem Inv.big (I : Inv X pins σ H s) : sysModules < s.heap.objs.size := by
  have h : mainGlobals < s.heap.objs.size := (I.mod.glob.keeps I.bk).lt
  exact Nat.lt_trans (by decide) h
theorem d_getItem {Q : Value → Shared → Prop} (hu : A.units + 1 < cLine) (I : Inv X pins σ H s) (g : DGet H a y (some v)) (ry : RelV y u) (h : ∀ w' s', Inv X pins σ H s' → RelV v w' → Q w' s') :
    wpAny (model X.prog X.w) A (getItem (.ref a) u) Q E s := by
  rcases g with ⟨kvs, k, e, ey, l⟩ | ⟨kvs, k, b, e, ey, eb, l⟩
  · subst ey
    obtain ⟨z, hd, vs, rel, dd⟩ := dk_rd I.hok e
    obtain ⟨w', hw, rw'⟩ := RelO.some_of (v := v) (o := valueAt vs k) (by rw [l]; exact rel.val k)
    exact wpAny_getItem_of (kV_is ry) dd.mapOf hw (h w' _ (I.tok _) rw')
  · subst ey
    cases (show u = Value.ref b from ry)
    obtain ⟨z, hd, xs, rel, dd⟩ := dt_rd I.hok e
    obtain ⟨w', hw, rw'⟩ := RelO.some_of (v := v) (o := (atKey xs k).map (·.2)) (by rw [l]; exact rel.val k)
    obtain ⟨p, hp, hp2⟩ := Option.map_eq_some_iff.mp hw
    refine wpAny_getItem_heap (tupleKind_room_in1 hu) (key_of I.hok eb) dd hp ?_
    rw [hp2]
    exact h w' _ (I.tok _) rw'
theorem d_in {Q : Value → Shared → Prop} (hu : A.units + 1 < cLine) (I : Inv X pins σ H s) (g : DGet H a y o) (ry : RelV y u) (h : ∀ s', Inv X pins σ H s' → Q (.bool o.isSome) s') :
    wpAny (model X.prog X.w) A (compareOp .In u (.ref a)) Q E s := by
  rcases g with ⟨kvs, k, e, ey, l⟩ | ⟨kvs, k, b, e, ey, eb, l⟩
  · subst ey
    obtain ⟨z, hd, vs, rel, dd⟩ := dk_rd I.hok e
    refine wpAny_in_of (kV_is ry) hd dd.mapOf ?_
    rw [← (rel.val k).isSome_eq, ← l]
    exact h _ (I.tok _)
  · subst ey
    cases (show u = Value.ref b from ry)
    obtain ⟨z, hd, xs, rel, dd⟩ := dt_rd I.hok e
    refine wpAny_in_heap (tupleKind_room_in1 hu) (key_of I.hok eb) hd dd ?_
    have q := (rel.val k).isSome_eq
    rw [Option.isSome_map] at q
    rw [← q, ← l]
    exact h _ (I.tok _)
theorem d_notIn {Q : Value → Shared → Prop} (hu : A.units + 1 < cLine) (I : Inv X pins σ H s) (g : DGet H a y o) (ry : RelV y u) (h : ∀ s', Inv X pins σ H s' → Q (.bool (!o.isSome)) s') :
    wpAny (model X.prog X.w) A (compareOp .NotIn u (.ref a)) Q E s := by
  rcases g with ⟨kvs, k, e, ey, l⟩ | ⟨kvs, k, b, e, ey, eb, l⟩
  · subst ey
    obtain ⟨z, hd, vs, rel, dd⟩ := dk_rd I.hok e
    refine wpAny_notIn_of (kV_is ry) hd dd.mapOf ?_
    rw [← (rel.val k).isSome_eq, ← l]
    exact h _ (I.tok _)
  · subst ey
    cases (show u = Value.ref b from ry)
    obtain ⟨z, hd, xs, rel, dd⟩ := dt_rd I.hok e
    refine wpAny_notIn_heap (tupleKind_room_in1 hu) (key_of I.hok eb) hd dd ?_
    have q := (rel.val k).isSome_eq
    rw [Option.isSome_map] at q
    rw [← q, ← l]
    exact h _ (I.tok _)
theorem d_write {h' : Heap} {t' : Nat} {ob : HO} (I : Inv X pins σ H s) (mu : Mut (H a)) (hs : Heap.SameBut a s.heap h') (he : ∃ q, h'.get? a = some q) (new : ObjOk X.prog X.w (upd H a ob) h' a ob) :
    Inv X pins σ (upd H a ob) { s with heap := h', toks := t' } :=
  I.write (x := a) (e := a) mu (.inl rfl) (fun b q hb z => (hs.2 b hb).trans z) he new
theorem dk_new {P : Program} {w : World} {H' : Hp} {h' : Heap} {kvs : List (Key × V)} {vs : List (Key × Value)} (z : kvs.length ≤ sizeLine) (hd : (a == sysModules) = false) (rel : KV kvs vs) (dd : h'.DictOf (mixKind P w) a vs) :
    ObjOk P w H' h' a (.dK kvs) := ⟨z, hd, vs, rel, dd⟩
theorem d_setItem {H' : Hp} {Q : Unit → Shared → Prop} (hu : A.units + 1 < cLine) (I : Inv X pins σ H s) (g : DPut H a y v H') (ry : RelV y u) (rv : RelV v r) (h : ∀ s', Inv X pins σ H' s' → Q () s') :
    wpAny (model X.prog X.w) A (setItem (.ref a) u r) Q E s := by
  rcases g with ⟨kvs, k, e, ey, l, eH⟩ | ⟨kvs, k, b, e, ey, eb, l, eH⟩
  · subst ey eH
    obtain ⟨z, hd, vs, rel, dd⟩ := dk_of I.hok e
    have hz : vs.length ≤ sizeLine := by rw [← rel.length]; exact z
    have hl : (putK kvs k v).length ≤ sizeLine := by have := length_putK kvs k v; omega
    refine wpAny_setItem_pairs (hsz := hz) (kV_is ry) dd fun h' dd' hs => h _ ?_
    have he : ∃ q, h'.get? a = some q := let ⟨q, _, _, hq, _⟩ := dd'; ⟨q, hq⟩
    exact d_write I (by rw [e]; exact True.intro) hs he (dk_new hl hd (rel.put k rv) dd')
  · subst ey eH
    cases (show u = Value.ref b from ry)
    obtain ⟨z, hd, xs, rel, dd⟩ := dt_of I.hok e
    have hz : xs.length ≤ sizeLine := by rw [← Paired.length rel]; exact z
    have hl : (putK kvs k v).length ≤ sizeLine := by have := length_putK kvs k v; omega
    refine wpAny_setItem_heap (hsz := hz) (tupleKind_room_in1 hu) (key_of I.hok eb) dd fun h' dd' hs => h _ ?_
    obtain ⟨q, es, ep, hq, h2, h3, h4, _, h5⟩ := dd'
    refine d_write I (by rw [e]; exact True.intro) hs ⟨q, hq⟩ ⟨hl, hd, _, (rel.put k eb rv).keeps fun c ys ec => ?_, q, es, ep, hq, h2, h3, h4, h5⟩
    rw [upd_ne (ne_of ec e (fun z => nomatch z))]
    exact ec
end
section
variable {X : Cx} {pins : List (Addr × Obj)} {σ : St} {H : Hp} {s : Shared} {a : Addr} {kvs : List (Key × V)} {k : Key} {u : Value} {A : Around} {E : Value → Shared → Prop}
end
def NoSl (i : Expr) : Prop := ∀ ov iv, subscripted i false ov iv = operate [ov, iv] (getItem ov iv)
theorem subD_of {prog : Program} {w : World} {A : Around} {E : Value → Shared → Prop} {s : Shared} {env : Env} {value slice : Expr} {pos : Pos} {T id : String} {Q : Value → Shared → Prop}
    (hl : typeLookup (.type T) "__getitem__" = pure (some (.builtin id))) (hs : NoSl slice)
    (h : wpAny (model prog w) A (eval value env) (fun o s₁ => wpAny (model prog w) A (eval slice env) (fun i s₂ => s₂.TypeIs o T ∧ wpAny (model prog w) A (getItem o i) Q E s₂) E s₁) E s) :
    wpAny (model prog w) A (eval (.Subscript value slice pos) env) Q E s := by
  refine Subscript_ (wpAny_mono h (fun o s₁ h₁ => wpAny_mono h₁ (fun i s₂ h₂ => ?_) fun _ _ x => x) fun _ _ x => x)
  obtain ⟨hT, h₂⟩ := h₂
  unfold subscriptTail
  refine wpAny_bind ?_
  rw [getitemInPython_of_ne hT.not_modules]
  refine wpAny_bind (wpAny_specialOf hT hl ?_)
  have fin : wpAny (model prog w) A (subscripted slice false o i) (fun r s₃ => wpAny (model prog w) A (letTemporaryGo value o r >>= fun _ => pure r) Q E s₃) E s₂ := by
    rw [hs o i]
    exact wpAny_operating (wpAny_mono h₂ (fun r s₃ h₃ => wpAny_bind (wpAny_letTemporaryGo (wpAny_pure h₃))) fun _ _ x => x)
  first
    | exact wpAny_pure (wpAny_bind fin)
    | exact wpAny_bind (wpAny_pure (wpAny_bind fin))
    | exact wpAny_bind fin
theorem dict_typeIs {X : Cx} {pins : List (Addr × Obj)} {σ : St} {H : Hp} {s : Shared} {a : Addr} {y : V} {o : Option V} (I : Inv X pins σ H s) (g : DGet H a y o) : s.TypeIs (.ref a) "dict" := by
  rcases g with ⟨kvs, k, e, _, _⟩ | ⟨kvs, k, b, e, _, _, _⟩
  · obtain ⟨_, _, vs, _, dd⟩ := dk_rd I.hok e
    exact dd.typeIs
  · obtain ⟨_, _, xs, _, dd⟩ := dt_rd I.hok e
    exact dd.typeIs
def tDGet (td ty : TE) : TE := fun σ H Q => td σ H fun x H1 => ty σ H1 fun y H2 => ∃ a v, x = .ref a ∧ DGet H2 a y (some v) ∧ Q v H2
def tDIn (ty td : TE) : TE := fun σ H Q => ty σ H fun y H1 => td σ H1 fun x H2 => ∃ a o, x = .ref a ∧ DGet H2 a y o ∧ Q (.bl o.isSome) H2
def tDNotIn (ty td : TE) : TE := fun σ H Q => ty σ H fun y H1 => td σ H1 fun x H2 => ∃ a o, x = .ref a ∧ DGet H2 a y o ∧ Q (.bl (!o.isSome)) H2
def sDPut (td ty tv : TE) : TS := fun D σ H => tv σ H fun v H1 => td σ H1 fun x H2 => ty σ H2 fun y H3 => ∃ a H4, x = .ref a ∧ DPut H3 a y v H4 ∧ D.nx σ H4
section
variable {X : Cx} {o i e value : Expr} {pos pos' tpos : Pos} {td ty tv : TE}
theorem pe_dget (hu : X.A.units + 1 < cLine) (ho : PE X o td) (hi : PE X i ty) (hs : NoSl i) : PE X (.Subscript o i pos) (tDGet td ty) := by
  intro pins s σ H Q I h
  refine subD_of PySem.F.slot_dict_getitem.lookup hs (thn (ho pins s σ H _ I h) fun u s1 ⟨x, H1, I1, rx, q1⟩ => thn (hi pins s1 σ H1 _ I1 q1) fun iv s2 ⟨y, H2, I2, ry, a, v, ex, g, q2⟩ => ?_)
  subst ex
  obtain rfl : u = Value.ref a := rx
  exact ⟨dict_typeIs I2 g, d_getItem hu I2 g ry fun w' s3 I3 rw' => ⟨v, H2, I3, rw', q2⟩⟩
theorem pc_din (hu : X.A.units + 1 < cLine) (hi : PE X i ty) (ho : PE X o td) : PC X .In i o (tDIn ty td) := by
  intro pins s σ H Q I h
  refine thn (hi pins s σ H _ I h) fun iv s1 ⟨y, H1, I1, ry, q1⟩ => thn (ho pins s1 σ H1 _ I1 q1) fun u s2 ⟨x, H2, I2, rx, a, ov, ex, g, q2⟩ => ?_
  subst ex
  obtain rfl : u = Value.ref a := rx
  exact d_in hu I2 g ry fun s3 I3 => ⟨.bl ov.isSome, H2, I3, rfl, q2⟩
theorem pc_dnotin (hu : X.A.units + 1 < cLine) (hi : PE X i ty) (ho : PE X o td) : PC X .NotIn i o (tDNotIn ty td) := by
  intro pins s σ H Q I h
  refine thn (hi pins s σ H _ I h) fun iv s1 ⟨y, H1, I1, ry, q1⟩ => thn (ho pins s1 σ H1 _ I1 q1) fun u s2 ⟨x, H2, I2, rx, a, ov, ex, g, q2⟩ => ?_
  subst ex
  obtain rfl : u = Value.ref a := rx
  exact d_notIn hu I2 g ry fun s3 I3 => ⟨.bl (!ov.isSome), H2, I3, rfl, q2⟩
theorem ps_dput (hu : X.A.units + 1 < cLine) (ho : PE X o td) (hi : PE X i ty) (hv : PE X value tv) (hs : swapsWith value (some (.Subscript o i pos')) pos.line X.env = pure false) :
    PS X (.Assign [.Subscript o i pos'] value pos) (sDPut td ty tv) := by
  intro pins s σ H D I h
  refine wpAny_Assign_Subscript (thn (hv pins s σ H _ I h) fun r s1 ⟨v, H1, I1, rv, q1⟩ => thn (ho pins s1 σ H1 _ I1 q1) fun u s2 ⟨x, H2, I2, rx, q2⟩ => thn (hi pins s2 σ H2 _ I2 q2) fun iv s3 ⟨y, H3, I3, ry, a, H4, ex, g, q3⟩ => ?_) hs
  subst ex
  obtain rfl : u = Value.ref a := rx
  exact d_setItem hu I3 g ry rv fun s4 I4 => ⟨σ, H4, I4, q3⟩
end
theorem dk_empty {P : Program} {w : World} {H : Hp} (h : Heap) (hb : sysModules < h.objs.size) : ObjOk P w H (h.push { cls := .type "dict", data := .dict #[] }) h.objs.size (.dK []) :=
  ⟨Nat.zero_le _, beq_eq_false_iff_ne.mpr (Ne.symm (Nat.ne_of_lt hb)), [], .nil, Heap.DictOf.new h⟩
theorem dt_empty {P : Program} {w : World} {H : Hp} (h : Heap) (hb : sysModules < h.objs.size) : ObjOk P w H (h.push { cls := .type "dict", data := .dict #[] }) h.objs.size (.dT []) :=
  ⟨Nat.zero_le _, beq_eq_false_iff_ne.mpr (Ne.symm (Nat.ne_of_lt hb)), [], .nil, _, #[], 0, Heap.get?_push_size _ rfl, ⟨rfl, rfl, rfl⟩, rfl, rfl, List.nodup_nil⟩
def tDNewK : TE := fun _ H Q => ∀ p, H p = none → Q (.ref p) (upd H p (.dK []))
def tDNewT : TE := fun _ H Q => ∀ p, H p = none → Q (.ref p) (upd H p (.dT []))
section
variable {X : Cx} {pos : Pos}
theorem pe_dnewK : PE X (.Dict [] [] pos) tDNewK := fun pins s σ H Q I h =>
  wpAny_Dict_empty ⟨.ref s.heap.objs.size, _, I.laid (a := s.heap.objs.size) (o := .dK []) (t' := s.toks) (fun _ _ q => Heap.get?_push_of_some _ q) (Nat.le_refl _) (dk_empty s.heap I.big), rfl, h _ (I.hok.fresh (Nat.le_refl _))⟩
theorem pe_dnewT : PE X (.Dict [] [] pos) tDNewT := fun pins s σ H Q I h =>
  wpAny_Dict_empty ⟨.ref s.heap.objs.size, _, I.laid (a := s.heap.objs.size) (o := .dT []) (t' := s.toks) (fun _ _ q => Heap.get?_push_of_some _ q) (Nat.le_refl _) (dt_empty s.heap I.big), rfl, h _ (I.hok.fresh (Nat.le_refl _))⟩
end
def tPairs : List (TE × TE) → St → Hp → (List (V × V) → Hp → Prop) → Prop
  | [], _, H, Q => Q [] H
  | (tk, tv) :: r, σ, H, Q => tk σ H fun x H1 => tv σ H1 fun y H2 => tPairs r σ H2 fun ps H3 => Q ((x, y) :: ps) H3
abbrev VV : List (V × V) → List (Value × Value) → Prop := Paired fun p q => RelV p.1 q.1 ∧ RelV p.2 q.2
def PPs (X : Cx) (pos : Pos) (keys : List (Option Expr)) (values : List Expr) (trs : List (TE × TE)) : Prop :=
  ∀ (pins : List (Addr × Obj)) (s : Shared) (σ : St) (H : Hp) (Q : List (V × V) → Hp → Prop), Inv X pins σ H s → tPairs trs σ H Q →
    wpAny (model X.prog X.w) X.A (evalPairs (pairTrees keys values X.env pos)) (fun vs s' => ∃ ps H', Inv X pins σ H' s' ∧ VV ps vs ∧ Q ps H') X.xe s
theorem pps_nil {X : Cx} {pos : Pos} : PPs X pos [] [] [] := fun pins s σ H Q I h => pairTrees_nil_walk ⟨[], H, I, .nil, h⟩
theorem pps_cons {X : Cx} {pos : Pos} {k v : Expr} {ks : List (Option Expr)} {vs : List Expr} {tk tv : TE} {trs : List (TE × TE)} (hk : PE X k tk) (hv : PE X v tv) (hr : PPs X pos ks vs trs) :
    PPs X pos (some k :: ks) (v :: vs) ((tk, tv) :: trs) := fun pins s σ H Q I h =>
  pairTrees_cons_walk (thn (hk pins s σ H _ I h) fun u s1 ⟨x, H1, I1, rx, q1⟩ => thn (hv pins s1 σ H1 _ I1 q1) fun w2 s2 ⟨y, H2, I2, ry, q2⟩ =>
    thn (hr pins s2 σ H2 _ I2 q2) fun ws s3 ⟨ps, H3, I3, rel, q3⟩ => ⟨(x, y) :: ps, H3, I3, .cons ⟨rx, ry⟩ rel, q3⟩)
def mergeK (kvs more : List (Key × V)) : List (Key × V) := more.foldl (fun acc kv => putK acc kv.1 kv.2) kvs
theorem KV.merge : ∀ {more : List (Key × V)} {rs : List (Key × Value)} {kvs : List (Key × V)} {vs : List (Key × Value)}, KV more rs → KV kvs vs → KV (mergeK kvs more) (merged vs rs) := by
  intro more rs kvs vs r
  unfold KV at r
  induction r generalizing kvs vs with
  | nil => intro q; exact q
  | @cons p q ps qs h t ih =>
    intro r0
    have e : KV (putK kvs p.1 p.2) (stored vs q.1 q.2) := by
      have := r0.put p.1 h.2
      rw [← h.1]; exact this
    exact ih e
theorem length_mergeK : ∀ (more kvs : List (Key × V)), (mergeK kvs more).length ≤ kvs.length + more.length
  | [], kvs => by show kvs.length ≤ kvs.length + 0; omega
  | p :: r, kvs => by
    have h1 := length_mergeK r (putK kvs p.1 p.2)
    have h2 := length_putK kvs p.1 p.2
    show (mergeK (putK kvs p.1 p.2) r).length ≤ _
    rw [List.length_cons]; omega
theorem carries_of {P : Program} {w : World} : ∀ {kvs : List (Key × V)} {ws : List (Value × Value)}, VV (kvs.map fun kv => (kV kv.1, kv.2)) ws → ∃ rs, Carries (mixKind P w) ws rs ∧ KV kvs rs
  | [], _, r => by rw [List.map_nil] at r; cases r; exact ⟨[], True.intro, .nil⟩
  | p :: kvs, _, r => by
    rw [List.map_cons] at r
    cases r with
    | @cons a b as bs h t =>
      obtain ⟨rs, c, q⟩ := carries_of (P := P) (w := w) t
      obtain ⟨b1, b2⟩ := b
      exact ⟨(p.1, b2) :: rs, ⟨kV_is h.1, rfl, c⟩, .cons ⟨rfl, h.2⟩ q⟩
def tDisp (trs : List (TE × TE)) : TE := fun σ H Q => ∀ p, H p = none → tPairs trs σ (upd H p (.dK [])) fun ps H2 => H2 p = some (.dK []) ∧ ∃ kvs : List (Key × V), ps = kvs.map (fun kv => (kV kv.1, kv.2)) ∧ kvs.length ≤ 15 ∧ Q (.ref p) (upd H2 p (.dK (mergeK [] kvs)))
theorem pe_disp {X : Cx} {pos : Pos} {keys : List (Option Expr)} {values : List Expr} {trs : List (TE × TE)} (h : PPs X pos keys values trs) (hall : keys.all (·.isSome) = true) (hl : keys.length = values.length) (h0 : keys ≠ [])
    (h15 : keys.length ≤ 15) : PE X (.Dict keys values pos) (tDisp trs) := by
  intro pins s σ H Q I q
  have hn := I.hok.fresh (Nat.le_refl s.heap.objs.size)
  have I1 := I.laid (a := s.heap.objs.size) (o := .dK []) (h' := s.heap.push { cls := .type "dict", data := .dict #[] }) (t' := s.toks) (fun _ _ q => Heap.get?_push_of_some _ q) (Nat.le_refl _) (dk_empty s.heap I.big)
  refine wpAny_Dict_walk (knd := mixKind X.prog X.w) hall hl h0 h15 (thn (h pins _ σ _ _ I1 (q _ hn)) fun ws s2 ⟨ps, H2, I2, rel, e, kvs, ep, lk, q2⟩ => ?_)
  subst ep
  obtain ⟨rs, c, rk⟩ := carries_of (P := X.prog) (w := X.w) rel
  obtain ⟨z, hd, vs0, r0, dd⟩ := dk_of I2.hok e
  cases r0
  refine ⟨rs, c, dd, fun h' dd' hs => ⟨.ref s.heap.objs.size, _, ?_, rfl, q2⟩⟩
  have hz : (mergeK [] kvs).length ≤ sizeLine := by
    have h1 := length_mergeK kvs []
    rw [List.length_nil] at h1
    rw [sizeLine_eq]; omega
  have he : ∃ q, h'.get? s.heap.objs.size = some q := let ⟨q, _, _, hq, _⟩ := dd'; ⟨q, hq⟩
  exact d_write I2 (by rw [e]; exact True.intro) hs he (dk_new hz hd (rk.merge .nil) dd')
section
variable {X : Cx} {pins : List (Addr × Obj)} {σ : St} {H : Hp} {s : Shared} {a : Addr} {y d : V} {u r : Value} {o : Option V} {A : Around} {E : Value → Shared → Prop}
end
section
variable {X : Cx} {o e f : Expr} {apos cpos : Pos} {td ty tx : TE}
end
section
variable {X : Cx} {pins : List (Addr × Obj)} {σ : St} {H : Hp} {s : Shared} {a : Addr} {kvs : List (Key × V)} {A : Around} {E : Value → Shared → Prop}
end
section
variable {X : Cx} {pins : List (Addr × Obj)} {σ : St} {H : Hp} {s : Shared} {a : Addr} {y : V} {u : Value} {A : Around} {E : Value → Shared → Prop}
end
end L2
namespace L2
open PySem PySem.Spec PyProof.Rows
theorem ud_entry : entryFor table "dict.update.loop" = some Builtin.«dict.update.loop» := entryFor_of_tree (by kernel_rfl)
theorem ud_plain : plainId "dict.update.loop" = true := by decide +kernel
section
variable {prog : Program} {w : World} {A : Around} {E : Value → Shared → Prop}
end
section
variable {X : Cx}
end
end L2
namespace L2
open PySem PySem.Spec PyProof.Rows
section
variable {X : Cx} {pins : List (Addr × Obj)} {σ : St} {H : Hp} {s : Shared} {h' : Heap}
theorem Inv.turnedNew {t' : Nat} {ch : List Addr} {T : Addr} {ob : HO} (I : Inv X pins σ H s) (k : ∀ b o, b ∉ ch → s.heap.get? b = some o → h'.get? b = some o) (hf : ∀ b ∈ ch, FpOk X pins H b) (hT : s.heap.objs.size ≤ T)
    (new : ObjOk X.prog X.w (upd H T ob) h' T ob) : Inv X pins σ (upd H T ob) { s with heap := h', toks := t' } := by
  have hn : H T = none := I.hok.fresh hT
  have nit : ∀ b u, H b = some u → b ∉ ch := fun b u e z => by
    have q := (hf b z).1
    rw [q] at e; cases e
  refine I.step (g' := s.gens) (d' := s.drawn) (ch := ch) (fun b hb => ⟨(hf b hb).2.2.2.1, (hf b hb).2.1, (hf b hb).2.2.2.2.1, (hf b hb).2.2.2.2.2⟩) (fun b o _ _ hc e _ => k b o hc e) (fun b o _ _ hc e _ => ⟨o.slots, k b o hc e⟩)
    (fun b o _ e n => ?_) (fun b o hc e => ⟨o, k b o hc e⟩) (fun b xs e => ?_) (fun b o u e => ?_) (fun b ps e => ⟨#[], ?_⟩) (fun m hm => ?_) (fun b u e => ?_) I.bare
  · rw [upd_ne (Nat.ne_of_lt (Nat.lt_of_lt_of_le (Heap.lt_size e) hT))]; exact n
  · rw [upd_ne (ne_of_none e hn)]; exact e
  · rw [upd_ne (ne_of_none e hn)]; exact e
  · rw [upd_ne (ne_of_none e hn), e]; simp
  · obtain ⟨o, es, ep, ho, r⟩ := hm
    exact ⟨o, es, ep, k _ o (fun z => (hf _ z).2.1 rfl) ho, r⟩
  · by_cases hb : b = T
    · subst hb
      rw [upd_same] at e
      cases e
      exact new
    · rw [upd_ne hb] at e
      refine (I.hok b u e).stay (fun c v hc q => k c v ?_ q) (fun c q => by rw [upd_ne (ne_of_none q hn)]; exact q) fun c xs q => by rw [upd_ne (ne_of_none q hn)]; exact q
      rcases hc with z | z
      · rw [z]; exact nit b u e
      · exact nit c _ z
end
section
variable {X : Cx}
end
section
variable {X : Cx} {tg : Expr}
end
section
variable {X : Cx} {tg : Expr}
end
section
variable {prog : Program} {w : World} {A : Around} {E : Value → Shared → Prop} {s : Shared}
end
section
variable {X : Cx} {pins : List (Addr × Obj)} {σ : St} {H : Hp} {s : Shared} {d : Addr} {o : Obj}
end
section
variable {P : Program} {w : World} {K : PySem.W.Frag} {tg : Expr} {d : Addr} {o : Obj} {es : Array DictEntry} {ep : Nat}
end
section
variable {X : Cx} {tg e : Expr} {td : TE} {apos cpos : Pos}
end
def Ite (K : PySem.W.Frag) (a : Addr) : It :=
  ⟨fun i H => ∃ (xs : List V) (x : V), SqL K H a xs ∧ xs[i]? = some x, fun i H v H' => ∃ T x, v = .ref T ∧ H T = none ∧ H' = upd H T (.tup [.int (i : Nat), x]) ∧ ∀ xs, SqL K H a xs → xs[i]? = some x, fun i H => ∃ xs : List V, SqL K H a xs ∧ xs.length ≤ i⟩
theorem turn_enum {P : Program} {w : World} {K : PySem.W.Frag} {elts : List Expr} {kk : Nat} {tpos : Pos} (a e it : Addr) :
    Turn P w K (.Tuple elts kk tpos) (Ite K a) [e, it] e (fun i h => (∃ old, IsEnum h e it ((i : Nat) : Int) old) ∧ h.IsListIter it a i ∧ e ≠ it) where
  mem := by simp
  obj := fun i h st b hb => by
    obtain ⟨⟨old, he⟩, ⟨o, ho, hc, hd⟩, _⟩ := st
    have e' : b = e ∨ b = it := by simpa using hb
    rcases e' with z | z
    · rw [z]; exact ⟨_, he, fun v q => nomatch q⟩
    · rw [z]; exact ⟨o, ho, fun v q => by rw [hd] at q; cases q⟩
  keep := fun i h h' st k => let ⟨⟨old, he⟩, hi, hne⟩ := st; ⟨⟨old, k e (by simp) _ he⟩, hi.at fun o q => k it (by simp) o q, hne⟩
  item := by
    intro X hP hw hK hc i pins s σ H E I hf st hg
    subst hP hw hK
    obtain ⟨⟨old, he⟩, hit, hne⟩ := st
    obtain ⟨xs, x, hq, hx⟩ := hg
    obtain ⟨its, rv, p, hz⟩ := I.list hq
    obtain ⟨u, hu, ru⟩ := rv.get hx
    have hel : e < s.heap.objs.size := Heap.lt_size he
    have hil : it < s.heap.objs.size := by obtain ⟨_, q, _⟩ := hit; exact Heap.lt_size q
    refine wpAny_pyNext_enum_item he hit p.isList (x := u) (by simpa using hu) hne fun h' ho hit' hT hsz hk => ?_
    refine ⟨_, rfl, wpAny_letOwnedTupleGo_enum (s := { s with heap := h', toks := s.toks + 1 }) ho fun h'' he' sb => ?_⟩
    have hT2 : h''.get? s.heap.objs.size = some { cls := .type "tuple", data := .seq #[.int i s.toks, u] } := (sb.2 _ (Nat.ne_of_gt hel)).trans hT
    have new : ObjOk X.prog X.w (upd H s.heap.objs.size (.tup [.int (i : Nat), x])) h'' s.heap.objs.size (.tup [.int (i : Nat), x]) :=
      ⟨by show 2 ≤ sizeLine; decide, [.int i s.toks, u], .cons ⟨_, rfl⟩ (.cons ru .nil), ⟨_, hT2, rfl, _, rfl⟩⟩
    have I1 : Inv X pins σ (upd H s.heap.objs.size (.tup [.int (i : Nat), x])) { s with heap := h'', toks := s.toks + 1 } :=
      I.turnedNew (ch := [e, it]) (fun b ob hb q => (sb.2 b (fun z => hb (by simp [z]))).trans (hk b ob (fun z => hb (by simp [z])) (fun z => hb (by simp [z])) q)) hf (Nat.le_refl _) new
    refine ⟨.ref s.heap.objs.size, _, I1, rfl, ⟨_, x, rfl, I.hok.fresh (Nat.le_refl _), rfl, fun ys hy => by rw [I.list_inj hy hq]; exact hx⟩, ⟨⟨u, ?_⟩, hit'.at fun o q => (sb.2 it (Ne.symm hne)).trans q, hne⟩, fun b hb => ?_⟩
    · have e1 : ((i + 1 : Nat) : Int) = (i : Int) + 1 := by omega
      rw [e1]; exact he'
    · have hb' : b < s.heap.objs.size := by
        have e' : b = e ∨ b = it := by simpa using hb
        rcases e' with z | z
        · rw [z]; exact hel
        · rw [z]; exact hil
      rw [upd_ne (Nat.ne_of_lt hb')]
      exact (hf b hb).1
  done := by
    intro X hP hw hK hc i pins s σ H E I hf st hg
    subst hP hw hK
    obtain ⟨⟨old, he⟩, hit, hne⟩ := st
    obtain ⟨xs, hq, hx⟩ := hg
    obtain ⟨its, rv, p, hz⟩ := I.list hq
    obtain ⟨f0, f1, f2, f3, f4, f5⟩ := hf it (by simp)
    have hl := rv.length
    exact wpAny_pyNext_enum_end (I.ok.hd hc) he hit p.isList (by simp; omega) fun h' eb => ⟨rfl, I.turned (t' := s.toks) (fun b o hb q => eb b o hb q) f0 f1 f3 f4 f5⟩
  self := fun A i s Q E st h => let ⟨⟨_, he⟩, _⟩ := st; wpAny_pyIter_enum he h
def iEnum (K : PySem.W.Frag) (ta : TA) : TI := fun σ H R => ta σ H fun vs H1 => ∃ a xs, vs = [.ref a] ∧ SqL K H1 a xs ∧ R (Ite K a) H1
theorem pi_enum {X : Cx} {e : Expr} {ta : TA} {p pos tpos : Pos} {elts : List Expr} {kk : Nat} (hg : Gl X "enumerate") (hm : X.mg "enumerate" = none) (ha : PA X [e] ta) (hs : starEach [e] X.env = [(false, eval e X.env)] := by rfl) :
    PI X (.Tuple elts kk tpos) (.Call (.Name "enumerate" p) [e] [] pos) (iEnum X.K ta) := by
  intro pins s σ H R I h
  refine Call_ (ld_blt I hg hm boot_enumerate (PyProof.Rows.callWith_type1 (thn (ha pos pins s σ H _ I h) fun us s1 ⟨vs, H1, I1, r1, q1⟩ => ?_) hs rfl))
  obtain ⟨a, xs, ex, hq, q⟩ := q1
  subst ex
  cases r1 with
  | cons r rr =>
    cases rr
    cases r
    obtain ⟨its, rv, p', hz⟩ := I1.list hq
    refine call_enumerate_list p'.isList fun h' he hit hsz hk => wpAny_pyIter_enum he ?_
    have I2 : Inv X pins σ H1 { s1 with heap := h' } := I1.kept (t' := s1.toks) hk
    refine ⟨s1.heap.objs.size + 1, [s1.heap.objs.size + 1, s1.heap.objs.size], _, _, H1, rfl, I2, turn_enum a (s1.heap.objs.size + 1) s1.heap.objs.size, ⟨⟨.none, he⟩, hit, Nat.succ_ne_self _⟩, fun b hb => ?_, q⟩
    have e' : b = s1.heap.objs.size + 1 ∨ b = s1.heap.objs.size := by simpa using hb
    have hle : s1.heap.objs.size ≤ b := by
      rcases e' with z | z
      · rw [z]; exact Nat.le_add_right _ _
      · rw [z]; exact Nat.le_refl _
    exact I1.fpOk hle (I1.hok.fresh hle)
theorem boot_zip5 : bootBuiltins "zip" = some (.type "zip") := by decide +kernel
end L2
section
namespace Bits
open PySem PyProof.Rows
end Bits
end
section
namespace TL
open PySem PySem.Builtin PySem.Builtin.Str PySem.StrLaws
end TL
end
namespace L2
open PySem PySem.Spec PyProof.Rows
section
variable {X : Cx} {pins : List (Addr × Obj)} {σ : St} {H : Hp} {s : Shared} {Q : VK}
end
section
variable {X : Cx}
end
section
variable {X : Cx} {o e : Expr} {to te : TE}
end
end L2
namespace L2
open PySem PySem.Spec PyProof.Rows
section
variable {X : Cx}
end
end L2
namespace Att
open PySem PySem.W PySem.Calls PyProof.Rows
section
variable {prog : Program} {w : World} {A : Around} {E : Value → Shared → Prop} {s : Shared} {K : Frag}
end
end Att
namespace L2
open PySem PySem.Spec PyProof.Rows
end L2
namespace L2
open PySem PySem.Spec PyProof.Rows
abbrev KOf {K : PySem.W.Frag} {h : Heap} (_ : K.In h) : PySem.W.Frag := K
end L2
namespace L2
open PySem PySem.Spec PyProof.Rows
def inClass (s : Stmt) (j : Nat) : Stmt := match s with
  | .ClassDef _ _ _ body _ _ _ _ _ _ _ => body.getD j (.Pass ⟨0, 0, 0, 0⟩)
  | _ => .Pass ⟨0, 0, 0, 0⟩
def defArgs (s : Stmt) : Arguments := match s with
  | .FunctionDef _ a _ _ _ _ _ _ _ _ => a
  | _ => { posonlyargs := [], args := [], vararg := none, kwonlyargs := [], kw_defaults := [], kwarg := none, defaults := [] }
def defBody (s : Stmt) : List Stmt := match s with
  | .FunctionDef _ _ b _ _ _ _ _ _ _ => b
  | _ => []
def defScope (s : Stmt) : Scope := match s with
  | .FunctionDef _ _ _ _ _ _ sc _ _ _ => sc
  | _ => { kind := .function, names := [], isGenerator := false, isCoroutine := false }
abbrev E0 : XK := fun _ _ _ => False
structure Fun (K : PySem.W.Frag) (x qual : Str) (st : Stmt) (f : Addr) (fd : FuncData) : Prop where
  ex : ∃ (oc : Value) (od : Option Addr) (kV doc pm : Value) (an : Option Addr) (cdv ct : Value) (osl : Array (Option Value)),
    fd = PySem.W.fnOf x qual (defArgs st) (defBody st) (defScope st) .none kV doc pm an cdv ct ∧ K.lookup f = some ⟨oc, od, .func fd, osl⟩ ∧ PySem.W.codeIn K cdv qual = true
  kp : PySem.W.keepIn K (.ref f) = true
section
variable {P : Program} {w : World} {K : PySem.W.Frag} {mg : Str → Option Value} {base : Heap}
theorem Fun.binds {x qual : Str} {st : Stmt} {f : Addr} {fd : FuncData} {ps : List Str} (F : Fun K x qual st f fd)
    (h : ∀ (kV doc pm : Value) (an : Option Addr) (cdv ct : Value) (us : List Value), us.length = ps.length → bindArgs (PySem.W.fnOf x qual (defArgs st) (defBody st) (defScope st) .none kV doc pm an cdv ct) ⟨us, []⟩ = pure (ps.zip us)) : Binds K fd ps [] := by
  obtain ⟨oc, od, kV, doc, pm, an, cdv, ct, osl, rfl, lk, hcd⟩ := F.ex
  exact .all (h kV doc pm an cdv ct)
theorem fun_mk {x qual : Str} {st : Stmt} {f : Addr} {oc : Value} {od an : Option Addr} {osl : Array (Option Value)} {kV doc pm cdv ct : Value} (l : K.lookup f = some ⟨oc, od, .func (PySem.W.fnOf x qual (defArgs st) (defBody st) (defScope st) .none kV doc pm an cdv ct), osl⟩)
    (c : PySem.W.codeIn K cdv qual = true) (k : PySem.W.keepIn K (.ref f) = true) : Fun K x qual st f (PySem.W.fnOf x qual (defArgs st) (defBody st) (defScope st) .none kV doc pm an cdv ct) := ⟨⟨oc, od, kV, doc, pm, an, cdv, ct, osl, rfl, l, c⟩, k⟩
end
theorem hu_of {A : Around} {k : Nat} (hr : Room k A) : A.units + 1 < cLine := Nat.lt_of_le_of_lt (Nat.add_le_add_left (by decide : 1 ≤ 64) _) hr.units
section
variable {X : Cx}
theorem pv (i : Nat) {x : Str} {pos : Pos} (hN : X.N[i]? = some x := by rfl) (hv : Vis X.env.scope x := by first | exact Or.inl rfl | exact Or.inr (Or.inl rfl) | exact Or.inr (Or.inr rfl)) (hd : (x == ("__debug__" : Str)) = false := by decide)
    (hcd : (x == ("__classdict__" : Str)) = false := by decide) : PE X (.Name x pos) (tVar i) := pe_var hN hv hd hcd
end
theorem iteF {A B : Prop} (h : B) : if false = true then A else B := by
  rw [if_neg Bool.false_ne_true]
  exact h
theorem iteT {A B : Prop} (h : A) : if true = true then A else B := by
  rw [if_pos rfl]
  exact h
def Same (H H' : Hp) : Prop := ∀ b o, H b = some o → H' b = some o
theorem Same.refl (H : Hp) : Same H H := fun _ _ h => h
theorem Same.trans {H H1 H2 : Hp} (a : Same H H1) (b : Same H1 H2) : Same H H2 := fun c o h => b c o (a c o h)
theorem Same.free {H H' : Hp} (e : Same H H') {l : Addr} (h : H' l = Option.none) : H l = Option.none := by
  cases q : H l with
  | none => rfl
  | some o =>
    rw [e l o q] at h
    cases h
theorem Same.seq {K : PySem.W.Frag} {H H' : Hp} {a : Addr} {xs : List V} (e : Same H H') (h : SqL K H a xs) : SqL K H' a xs := by
  rcases h with (h | ⟨o, h⟩) | h
  · exact .inl (.inl (e _ _ h))
  · exact .inl (.inr ⟨o, e _ _ h⟩)
  · exact .inr h
section
variable {κ : Type} [DecidableEq κ]
theorem nd_snoc : ∀ {l : List κ} {k : κ}, l.Nodup → ¬ k ∈ l → (l ++ [k]).Nodup
  | [], k, _, _ => by simp
  | a :: r, k, h, hk => by
    obtain ⟨h1, h2⟩ := List.nodup_cons.mp h
    show (a :: (r ++ [k])).Nodup
    refine List.nodup_cons.mpr ⟨fun m => ?_, nd_snoc h2 fun m => hk (List.mem_cons.mpr (Or.inr m))⟩
    rcases List.mem_append.mp m with q | q
    · exact h1 q
    · exact hk (List.mem_cons.mpr (Or.inl (List.mem_singleton.mp q).symm))
end
theorem nd_ix {α : Type} {l : List α} (hN : l.Nodup) {i j : Nat} {x : α} (a : l[i]? = some x) (b : l[j]? = some x) : i = j := by
  obtain ⟨h1, e1⟩ := List.getElem?_eq_some_iff.mp a
  obtain ⟨h2, e2⟩ := List.getElem?_eq_some_iff.mp b
  exact (List.getElem_inj hN).mp (e1.trans e2.symm)
theorem Same.made {H H1 : Hp} {x dx C : Addr} (nx : H x = Option.none) (nd : H dx = Option.none) (k : ∀ b o, (upd (upd H dx (.own x)) x (.ins C dx [])) b = some o → b ≠ x → H1 b = some o) : Same H H1 := fun b o e =>
  k b o (by rw [upd_ne (ne_of_none e nx), upd_ne (ne_of_none e nd)]; exact e) (ne_of_none e nx)
end L2
end
section
set_option Elab.async false
set_option linter.all false
set_option maxRecDepth 100000
set_option maxHeartbeats 2000000
namespace L2
open PySem PySem.Spec PyProof.Rows
open PySem.W (WData Codec OpenSpec Well WellAll ReadsW ReadsAllW)
mutual
inductive Dw (K : PySem.W.Frag) (H : Hp) : V → WData → Prop
  | non : Dw K H .non .none
  | bl (b : Bool) : Dw K H (.bl b) (.bool b)
  | int (i : Int) : Dw K H (.int i) (.int i)
  | str (x : Str) : Dw K H (.str x) (.str x)
  | byt (b : Array UInt8) : Dw K H (.byt b) (.bytes b.toList)
  | lst {a : Addr} {xs : List V} {ds : List WData} : SqL K H a xs → DwAll K H xs ds → Dw K H (.ref a) (.list ds)
  | tup {a : Addr} {xs : List V} {ds : List WData} : SqT K H a xs → DwAll K H xs ds → Dw K H (.ref a) (.tuple ds)
inductive DwAll (K : PySem.W.Frag) (H : Hp) : List V → List WData → Prop
  | nil : DwAll K H [] []
  | cons {v : V} {vs : List V} {d : WData} {ds : List WData} : Dw K H v d → DwAll K H vs ds → DwAll K H (v :: vs) (d :: ds)
end
theorem dw_ints {K : PySem.W.Frag} {H : Hp} : ∀ ns : List Int, DwAll K H (ns.map V.int) (ns.map WData.int)
  | [] => .nil
  | n :: r => .cons (.int n) (dw_ints r)
theorem ints_dw {K : PySem.W.Frag} {H : Hp} : ∀ (ns : List Int) (xs : List V), DwAll K H xs (ns.map WData.int) → xs = ns.map V.int
  | [], xs, h => by
    cases h
    rfl
  | n :: r, xs, h => by
    cases h with
    | cons h1 h2 =>
      cases h1
      rw [ints_dw r _ h2] <;> rfl
section
variable {P : Program} {w : World} {K : PySem.W.Frag} {H : Hp} {h : Heap} {R : PySem.W.WRecords} {cl : Str → Option Addr}
theorem sqL_at {a : Addr} {xs : List V} (hok : HOk P w H h) (KX : K.In h) (q : SqL K H a xs) : ∃ (its : List Value) (o : Obj) (n : Nat), Vals xs its ∧ h.get? a = some o ∧ o.cls = .type "list" ∧ o.data = .seq its.toArray n := by
  rcases q with q | ⟨o, its, n, e, hc, _, hd, _, hv⟩
  · obtain ⟨_, its, n, hv, e⟩ := (show ObjOk P w H h a (.lst xs) from q.ok hok)
    exact ⟨its, _, n, hv, e, rfl, rfl⟩
  · exact ⟨its.toList, o, n, hv, KX _ _ e, hc, by simp [hd]⟩
theorem sqT_at {a : Addr} {xs : List V} (hok : HOk P w H h) (KX : K.In h) (q : SqT K H a xs) : ∃ (its : List Value) (o : Obj) (n : Nat), Vals xs its ∧ h.get? a = some o ∧ o.cls = .type "tuple" ∧ o.data = .seq its.toArray n := by
  rcases q with q | ⟨o, its, n, e, hc, hd, _, hv⟩
  · obtain ⟨_, its, hv, o, e, hc, n, hd⟩ := (show ObjOk P w H h a (.tup xs) from q.ok hok)
    exact ⟨its, o, n, hv, e, hc, hd⟩
  · exact ⟨its.toList, o, n, hv, KX _ _ e, hc, by simp [hd]⟩
mutual
theorem Dw.reads (hok : HOk P w H h) (KX : K.In h) : ∀ (d : WData) (v : V) (u : Value), Dw K H v d → RelV v u → ∃ as, ReadsW R cl h u d as
  | .none, _, _, x, r => by
    cases x
    cases r
    exact ⟨_, ReadsW.none⟩
  | .bool b, _, _, x, r => by
    cases x
    cases r
    exact ⟨_, ReadsW.bool b⟩
  | .int i, _, _, x, r => by
    cases x
    obtain ⟨t, rfl⟩ := r
    exact ⟨_, ReadsW.int i t⟩
  | .str s, _, _, x, r => by
    cases x
    obtain ⟨t, rfl⟩ := r
    exact ⟨_, ReadsW.str s t⟩
  | .bytes b, _, _, x, r => by
    cases x
    obtain ⟨t, rfl⟩ := r
    exact ⟨_, ReadsW.bytes _ t⟩
  | .list ds, _, _, x, r => by
    cases x with
    | lst hs ha =>
      cases r
      obtain ⟨its, o, n, rv, ho, hc, hd⟩ := sqL_at hok KX hs
      obtain ⟨as, hr⟩ := Dw.readsAll hok KX ds _ its ha rv
      exact ⟨_, ReadsW.list ho hc hd hr⟩
  | .tuple ds, _, _, x, r => by
    cases x with
    | tup hs ha =>
      cases r
      obtain ⟨its, o, n, rv, ho, hc, hd⟩ := sqT_at hok KX hs
      obtain ⟨as, hr⟩ := Dw.readsAll hok KX ds _ its ha rv
      exact ⟨_, ReadsW.tuple ho hc hd hr⟩
  | .float _, _, _, x, _ => by cases x
  | .dict _, _, _, x, _ => by cases x
  | .bytearray _, _, _, x, _ => by cases x
  | .set _, _, _, x, _ => by cases x
  | .frozenset _, _, _, x, _ => by cases x
  | .obj _ _, _, _, x, _ => by cases x
theorem Dw.readsAll (hok : HOk P w H h) (KX : K.In h) : ∀ (ds : List WData) (vs : List V) (us : List Value), DwAll K H vs ds → Vals vs us → ∃ as, ReadsAllW R cl h us ds as
  | [], _, _, x, r => by
    cases x
    cases r
    exact ⟨_, ReadsAllW.nil⟩
  | d :: ds, _, _, x, r => by
    cases x with
    | cons h1 h2 =>
      cases r with
      | cons r1 r2 =>
        obtain ⟨as, q1⟩ := Dw.reads hok KX d _ _ h1 r1
        obtain ⟨bs, q2⟩ := Dw.readsAll hok KX ds _ _ h2 r2
        exact ⟨_, ReadsAllW.cons q1 q2⟩
end
end
mutual
def plW : WData → Bool
  | .none => true
  | .bool _ => true
  | .int _ => true
  | .str _ => true
  | .bytes _ => true
  | .list xs => plWs xs
  | .tuple xs => plWs xs
  | _ => false
def plWs : List WData → Bool
  | [] => true
  | x :: r => plW x && plWs r
end
theorem plWs_map {α : Type} {f : α → WData} (h : ∀ a, plW (f a) = true) : ∀ l : List α, plWs (l.map f) = true
  | [] => rfl
  | x :: r => by
    show (plW (f x) && plWs (r.map f)) = true
    rw [h x, plWs_map h r] <;> rfl
theorem pl_enc : ∀ (c : Codec) (a : c.denote), plW (c.enc a) = true
  | .unit, _ => rfl
  | .bool, _ => rfl
  | .int _ _, _ => rfl
  | .nat _ _, _ => rfl
  | .u8, _ => rfl
  | .bytes _ _, _ => rfl
  | .text _ _ _ _, _ => rfl
  | .list _ _ c, a => plWs_map (fun x => pl_enc c x) a
  | .pair c d, a => by
    show (plW (c.enc a.1) && (plW (d.enc a.2) && true)) = true
    rw [pl_enc c a.1, pl_enc d a.2] <;> rfl
  | .triple c d e, a => by
    show (plW (c.enc a.1) && (plW (d.enc a.2.1) && (plW (e.enc a.2.2) && true))) = true
    rw [pl_enc c a.1, pl_enc d a.2.1, pl_enc e a.2.2] <;> rfl
  | .option c, none => rfl
  | .option c, some x => pl_enc c x
theorem pl_encAll : ∀ (cs : List Codec) (a : Codec.denoteAll cs), plWs (Codec.encAll cs a) = true
  | [], _ => rfl
  | c :: cs, a => by
    show (plW (c.enc a.1) && plWs (Codec.encAll cs a.2)) = true
    rw [pl_enc c a.1, pl_encAll cs a.2] <;> rfl
theorem weight_mem : ∀ {xs : List WData} {d : WData}, d ∈ xs → d.weight ≤ WData.weightAll xs
  | [], d, h => absurd h (by simp)
  | x :: r, d, h => by
    show d.weight ≤ x.weight + 1 + WData.weightAll r
    rcases List.mem_cons.mp h with e | m
    · rw [e]
      omega
    · have z := weight_mem m
      omega
def toV : Value → V
  | .none => .non
  | .bool b => .bl b
  | .int i _ => .int i
  | .str x _ => .str x
  | .bytes b _ => .byt b
  | .ref a => .ref a
  | _ => .non
def OkU (A : List Addr) : Value → Prop
  | .none => True
  | .bool _ => True
  | .int _ _ => True
  | .str _ _ => True
  | .bytes _ _ => True
  | .ref a => a ∈ A
  | _ => False
theorem OkU.mono {A B : List Addr} (h : ∀ a ∈ A, a ∈ B) : ∀ {u : Value}, OkU A u → OkU B u := fun {u} x => by
  cases u with
  | ref a => exact h a x
  | none => trivial
  | bool b => trivial
  | int i t => trivial
  | str s t => trivial
  | bytes b t => trivial
  | _ => exact False.elim x
theorem relV_toV {A : List Addr} {u : Value} (x : OkU A u) : RelV (toV u) u := by
  cases u with
  | ref a => rfl
  | none => rfl
  | bool b => rfl
  | int i t => exact ⟨t, rfl⟩
  | str s t => exact ⟨t, rfl⟩
  | bytes b t => exact ⟨t, rfl⟩
  | _ => exact False.elim x
theorem vals_toV {A : List Addr} : ∀ {vs : List Value}, (∀ u ∈ vs, OkU A u) → Vals (vs.map toV) vs
  | [], _ => .nil
  | u :: r, h => .cons (relV_toV (h u (List.mem_cons_self ..))) (vals_toV fun x hx => h x (List.mem_cons_of_mem _ hx))
def ArgOb (h : Heap) (A : List Addr) (a : Addr) : Prop := ∃ vs : List Value, vs.length ≤ sizeLine ∧ (∀ u ∈ vs, OkU A u) ∧
  (h.get? a = some { cls := .type "list", data := .seq vs.toArray } ∨ h.get? a = some { cls := .type "tuple", data := .seq vs.toArray })
theorem ArgOb.mono {h : Heap} {A B : List Addr} {a : Addr} (k : ∀ a ∈ A, a ∈ B) (x : ArgOb h A a) : ArgOb h B a := by
  obtain ⟨vs, h1, h2, h3⟩ := x
  exact ⟨vs, h1, fun u hu => (h2 u hu).mono k, h3⟩
theorem wellAll_len {P : Params} {h : Heap} : ∀ {vs : List Value} {ds : List WData}, WellAll P h vs ds → vs.length = ds.length
  | _, _, .nil => rfl
  | _, _, .cons _ b => by
    show _ + 1 = _ + 1
    rw [wellAll_len b]
theorem well_list {P : Params} {h : Heap} {v : Value} {ds : List WData} (x : Well P h v (.list ds)) : ∃ (a : Addr) (vs : List Value), v = .ref a ∧ h.get? a = some { cls := .type "list", data := .seq vs.toArray } ∧ WellAll P h vs ds := by
  cases x with
  | list ho hall => exact ⟨_, _, rfl, ho, hall⟩
theorem well_tuple {P : Params} {h : Heap} {v : Value} {ds : List WData} (x : Well P h v (.tuple ds)) : ∃ (a : Addr) (vs : List Value), v = .ref a ∧ h.get? a = some { cls := .type "tuple", data := .seq vs.toArray } ∧ WellAll P h vs ds := by
  cases x with
  | tuple ho hall => exact ⟨_, _, rfl, ho, hall⟩
theorem well_cons {P : Params} {h : Heap} {us : List Value} {d : WData} {ds : List WData} (x : WellAll P h us (d :: ds)) : ∃ (v : Value) (vs : List Value), us = v :: vs ∧ Well P h v d ∧ WellAll P h vs ds := by
  cases x with
  | cons a b => exact ⟨_, _, rfl, a, b⟩
theorem line_of {n : Nat} (h : n ≤ 1048576) : n ≤ sizeLine := Nat.le_trans h (by decide)
section
variable {P : Params} {h : Heap}
mutual
theorem area_one : ∀ (d : WData) (v : Value), Well P h v d → plW d = true → d.weight ≤ 1048576 → ∃ A : List Addr, OkU A v ∧ ∀ a ∈ A, ArgOb h A a
  | .none, _, x, _, _ => by
    cases x
    exact ⟨[], trivial, fun a m => absurd m (by simp)⟩
  | .bool b, _, x, _, _ => by
    cases x
    exact ⟨[], trivial, fun a m => absurd m (by simp)⟩
  | .int i, _, x, _, _ => by
    cases x
    exact ⟨[], trivial, fun a m => absurd m (by simp)⟩
  | .str s, _, x, _, _ => by
    cases x
    exact ⟨[], trivial, fun a m => absurd m (by simp)⟩
  | .bytes b, _, x, _, _ => by
    cases x
    exact ⟨[], trivial, fun a m => absurd m (by simp)⟩
  | .list ds, _, x, p, z => by
    obtain ⟨a, vs, rfl, ho, hall⟩ := well_list x
    have z2 : WData.weightAll ds ≤ 1048576 := z
    obtain ⟨A, h1, h2⟩ := area_all ds _ hall p fun d hd => Nat.le_trans (weight_mem hd) z2
    have k : ∀ b ∈ A, b ∈ a :: A := fun b hb => List.mem_cons_of_mem _ hb
    refine ⟨a :: A, List.mem_cons_self .., fun b hb => ?_⟩
    rcases List.mem_cons.mp hb with e | m
    · rw [e]
      exact ⟨vs, line_of (by rw [wellAll_len hall]; exact Nat.le_trans (PySem.W.length_le_weightAllW ds) z2), fun u hu => (h1 u hu).mono k, .inl ho⟩
    · exact (h2 b m).mono k
  | .tuple ds, _, x, p, z => by
    obtain ⟨a, vs, rfl, ho, hall⟩ := well_tuple x
    have z2 : WData.weightAll ds ≤ 1048576 := z
    obtain ⟨A, h1, h2⟩ := area_all ds _ hall p fun d hd => Nat.le_trans (weight_mem hd) z2
    have k : ∀ b ∈ A, b ∈ a :: A := fun b hb => List.mem_cons_of_mem _ hb
    refine ⟨a :: A, List.mem_cons_self .., fun b hb => ?_⟩
    rcases List.mem_cons.mp hb with e | m
    · rw [e]
      exact ⟨vs, line_of (by rw [wellAll_len hall]; exact Nat.le_trans (PySem.W.length_le_weightAllW ds) z2), fun u hu => (h1 u hu).mono k, .inr ho⟩
    · exact (h2 b m).mono k
  | .float _, _, _, p, _ => Bool.noConfusion (show false = true from p)
  | .dict _, _, _, p, _ => Bool.noConfusion (show false = true from p)
  | .bytearray _, _, _, p, _ => Bool.noConfusion (show false = true from p)
  | .set _, _, _, p, _ => Bool.noConfusion (show false = true from p)
  | .frozenset _, _, _, p, _ => Bool.noConfusion (show false = true from p)
  | .obj _ _, _, _, p, _ => Bool.noConfusion (show false = true from p)
theorem area_all : ∀ (ds : List WData) (vs : List Value), WellAll P h vs ds → plWs ds = true → (∀ d ∈ ds, d.weight ≤ 1048576) → ∃ A : List Addr, (∀ u ∈ vs, OkU A u) ∧ ∀ a ∈ A, ArgOb h A a
  | [], _, x, _, _ => by
    cases x
    exact ⟨[], fun u m => absurd m (by simp), fun a m => absurd m (by simp)⟩
  | d :: ds, _, x, p, z => by
    obtain ⟨v, vs, rfl, x1, x2⟩ := well_cons x
    have q : plW d = true ∧ plWs ds = true := Bool.and_eq_true_iff.mp p
    obtain ⟨A, a1, a2⟩ := area_one d v x1 q.1 (z d (List.mem_cons_self ..))
    obtain ⟨B, b1, b2⟩ := area_all ds vs x2 q.2 fun e he => z e (List.mem_cons_of_mem _ he)
    have kA : ∀ b ∈ A, b ∈ A ++ B := fun b hb => List.mem_append.mpr (.inl hb)
    have kB : ∀ b ∈ B, b ∈ A ++ B := fun b hb => List.mem_append.mpr (.inr hb)
    refine ⟨A ++ B, fun u hu => ?_, fun b hb => ?_⟩
    · rcases List.mem_cons.mp hu with e | m
      · rw [e]
        exact a1.mono kA
      · exact (b1 u m).mono kB
    · rcases List.mem_append.mp hb with m | m
      · exact (a2 b m).mono kA
      · exact (b2 b m).mono kB
end
end
def hoOf (o : Obj) : Option HO := match o.data with
  | .seq vs _ => if (o.cls == Value.type "list") = true then some (.frz o (.lst (vs.toList.map toV))) else some (.frz o (.tup (vs.toList.map toV)))
  | _ => none
def argH (K : PySem.W.Frag) (h : Heap) (A : List Addr) : Hp := fun b => if b ∈ A then (if (K.lookup b).isNone = true then (h.get? b).bind hoOf else none) else none
def OnlyF (H : Hp) : Prop := ∀ b, H b = none ∨ ∃ o u, H b = some (.frz o u)
theorem hoOf_lst (vs : List Value) : hoOf { cls := .type "list", data := .seq vs.toArray } = some (.frz { cls := .type "list", data := .seq vs.toArray } (.lst (vs.map toV))) := by
  show (if (Value.type "list" == Value.type "list") = true then some (HO.frz { cls := .type "list", data := .seq vs.toArray } (.lst (vs.toArray.toList.map toV))) else some (HO.frz { cls := .type "list", data := .seq vs.toArray } (.tup (vs.toArray.toList.map toV)))) = _
  rw [if_pos (beq_self_eq_true _)]
theorem hoOf_tup (vs : List Value) : hoOf { cls := .type "tuple", data := .seq vs.toArray } = some (.frz { cls := .type "tuple", data := .seq vs.toArray } (.tup (vs.map toV))) := by
  show (if (Value.type "tuple" == Value.type "list") = true then some (HO.frz { cls := .type "tuple", data := .seq vs.toArray } (.lst (vs.toArray.toList.map toV))) else some (HO.frz { cls := .type "tuple", data := .seq vs.toArray } (.tup (vs.toArray.toList.map toV)))) = _
  rw [if_neg (by decide)]
section
variable {P : Program} {w : World} {K : PySem.W.Frag} {h : Heap} {A : List Addr}
theorem argH_at {b : Addr} {o : Obj} (hb : b ∈ A) (hk : K.lookup b = none) (e : h.get? b = some o) : argH K h A b = hoOf o := by
  unfold argH
  rw [if_pos hb, hk, if_pos (show (none : Option Obj).isNone = true from rfl), e] <;> rfl
theorem of_argH {b : Addr} {u : HO} (q : argH K h A b = some u) : b ∈ A ∧ K.lookup b = none := by
  unfold argH at q
  by_cases hb : b ∈ A
  · rw [if_pos hb] at q
    cases hk : K.lookup b with
    | none => exact ⟨hb, rfl⟩
    | some o =>
      rw [hk, if_neg (by simp)] at q
      cases q
  · rw [if_neg hb] at q
    cases q
theorem argH_is (ar : ∀ a ∈ A, ArgOb h A a) {b : Addr} {u : HO} (q : argH K h A b = some u) : K.lookup b = none ∧ ∃ vs : List Value, vs.length ≤ sizeLine ∧ (∀ u ∈ vs, OkU A u) ∧
    ((h.get? b = some { cls := .type "list", data := .seq vs.toArray } ∧ u = .frz { cls := .type "list", data := .seq vs.toArray } (.lst (vs.map toV))) ∨
     (h.get? b = some { cls := .type "tuple", data := .seq vs.toArray } ∧ u = .frz { cls := .type "tuple", data := .seq vs.toArray } (.tup (vs.map toV)))) := by
  obtain ⟨hb, hk⟩ := of_argH q
  obtain ⟨vs, h1, h2, h3⟩ := ar b hb
  refine ⟨hk, vs, h1, h2, ?_⟩
  rcases h3 with e | e
  · rw [argH_at hb hk e, hoOf_lst] at q
    exact .inl ⟨e, (Option.some.inj q).symm⟩
  · rw [argH_at hb hk e, hoOf_tup] at q
    exact .inr ⟨e, (Option.some.inj q).symm⟩
theorem argH_only (ar : ∀ a ∈ A, ArgOb h A a) : OnlyF (argH K h A) := fun b => by
  cases q : argH K h A b with
  | none => exact .inl rfl
  | some u =>
    obtain ⟨_, vs, _, _, ⟨_, e⟩ | ⟨_, e⟩⟩ := argH_is ar q
    · exact .inr ⟨_, _, by rw [e]⟩
    · exact .inr ⟨_, _, by rw [e]⟩
theorem argH_ok (ar : ∀ a ∈ A, ArgOb h A a) : HOk P w (argH K h A) h := fun b u q => by
  obtain ⟨_, vs, h1, h2, ⟨e, rfl⟩ | ⟨e, rfl⟩⟩ := argH_is ar q
  · exact ⟨e, by rw [List.length_map]; exact h1, vs, _, vals_toV h2, e⟩
  · exact ⟨e, by rw [List.length_map]; exact h1, vs, vals_toV h2, _, e, rfl, _, rfl⟩
theorem seq_inj {c c' : Value} {vs us : List Value} (e : (some { cls := c, data := .seq vs.toArray } : Option Obj) = some { cls := c', data := .seq us.toArray }) : c = c' ∧ vs = us := by
  have e1 := Option.some.inj e
  have e2 : c = c' := congrArg Obj.cls e1
  have e3 : Data.seq vs.toArray = Data.seq us.toArray := congrArg Obj.data e1
  injection e3 with e4
  refine ⟨e2, ?_⟩
  have e5 := congrArg Array.toList e4
  simpa using e5
theorem argL (KX : K.In h) (ar : ∀ a ∈ A, ArgOb h A a) {a : Addr} {vs : List Value} (ha : a ∈ A) (e : h.get? a = some { cls := .type "list", data := .seq vs.toArray }) : (∀ u ∈ vs, OkU A u) ∧ SqL K (argH K h A) a (vs.map toV) := by
  obtain ⟨us, h1, h2, h3⟩ := ar a ha
  have hu : us = vs := by
    rcases h3 with q | q
    · rw [e] at q
      exact (seq_inj q).2.symm
    · rw [e] at q
      exact absurd (Value.type.inj (seq_inj q).1) (by decide)
  subst hu
  refine ⟨h2, ?_⟩
  cases hk : K.lookup a with
  | none => exact .inl (.inr ⟨_, by rw [argH_at ha hk e, hoOf_lst]⟩)
  | some o =>
    have e2 := KX a o hk
    rw [e] at e2
    obtain rfl := Option.some.inj e2
    exact .inr ⟨_, us.toArray, _, hk, rfl, rfl, rfl, by rw [List.size_toArray]; exact h1, by simpa using vals_toV h2⟩
theorem argT (KX : K.In h) (ar : ∀ a ∈ A, ArgOb h A a) {a : Addr} {vs : List Value} (ha : a ∈ A) (e : h.get? a = some { cls := .type "tuple", data := .seq vs.toArray }) : (∀ u ∈ vs, OkU A u) ∧ SqT K (argH K h A) a (vs.map toV) := by
  obtain ⟨us, h1, h2, h3⟩ := ar a ha
  have hu : us = vs := by
    rcases h3 with q | q
    · rw [e] at q
      exact absurd (Value.type.inj (seq_inj q).1) (by decide)
    · rw [e] at q
      exact (seq_inj q).2.symm
  subst hu
  refine ⟨h2, ?_⟩
  cases hk : K.lookup a with
  | none => exact .inl (.inr ⟨_, by rw [argH_at ha hk e, hoOf_tup]⟩)
  | some o =>
    have e2 := KX a o hk
    rw [e] at e2
    obtain rfl := Option.some.inj e2
    exact .inr ⟨_, us.toArray, _, hk, rfl, rfl, by rw [List.size_toArray]; exact h1, by simpa using vals_toV h2⟩
mutual
theorem dw_one {Pm : Params} (KX : K.In h) (ar : ∀ a ∈ A, ArgOb h A a) : ∀ (d : WData) (v : Value), Well Pm h v d → plW d = true → OkU A v → Dw K (argH K h A) (toV v) d
  | .none, _, x, _, _ => by
    cases x
    exact .non
  | .bool b, _, x, _, _ => by
    cases x
    exact .bl b
  | .int i, _, x, _, _ => by
    cases x
    exact .int i
  | .str s, _, x, _, _ => by
    cases x
    exact .str s
  | .bytes b, _, x, _, _ => by
    cases x
    have z := Dw.byt (K := K) (H := argH K h A) b.toArray
    exact z
  | .list ds, _, x, p, hu => by
    obtain ⟨a, vs, rfl, ho, hall⟩ := well_list x
    obtain ⟨h2, hs⟩ := argL KX ar hu ho
    exact .lst hs (dw_all KX ar ds _ hall p h2)
  | .tuple ds, _, x, p, hu => by
    obtain ⟨a, vs, rfl, ho, hall⟩ := well_tuple x
    obtain ⟨h2, hs⟩ := argT KX ar hu ho
    exact .tup hs (dw_all KX ar ds _ hall p h2)
  | .float _, _, _, p, _ => Bool.noConfusion (show false = true from p)
  | .dict _, _, _, p, _ => Bool.noConfusion (show false = true from p)
  | .bytearray _, _, _, p, _ => Bool.noConfusion (show false = true from p)
  | .set _, _, _, p, _ => Bool.noConfusion (show false = true from p)
  | .frozenset _, _, _, p, _ => Bool.noConfusion (show false = true from p)
  | .obj _ _, _, _, p, _ => Bool.noConfusion (show false = true from p)
theorem dw_all {Pm : Params} (KX : K.In h) (ar : ∀ a ∈ A, ArgOb h A a) : ∀ (ds : List WData) (vs : List Value), WellAll Pm h vs ds → plWs ds = true → (∀ u ∈ vs, OkU A u) → DwAll K (argH K h A) (vs.map toV) ds
  | [], _, x, _, _ => by
    cases x
    exact .nil
  | d :: ds, _, x, p, hu => by
    obtain ⟨v, vs, rfl, x1, x2⟩ := well_cons x
    have q : plW d = true ∧ plWs ds = true := Bool.and_eq_true_iff.mp p
    exact .cons (dw_one KX ar d v x1 q.1 (hu _ (List.mem_cons_self ..))) (dw_all KX ar ds vs x2 q.2 fun u m => hu u (List.mem_cons_of_mem _ m))
end
end
theorem spec_call {P : Program} {w : World} {K : PySem.W.Frag} {mg mb : Str → Option Value} {CX : CXT} {k : Nat} {fa : Addr} {fd : FuncData} {ps : List Str} {sp : Sp} {s₁ : Shared} {vals : List Value} {ds : List WData} {R : PySem.W.WRecords} {cl : Str → Option Addr} {d0 : WData}
    (KX : K.In s₁.heap) (hns : s₁.heap.Ns mainGlobals mg) (hb : s₁.heap.Ns builtinsNs mb) (hbb : ∀ x : Str, x ≠ "__name__" → mb x = bootBuiltins x) (hlim : s₁.heap.NoLimit) (hg : s₁.gens = #[])
    (hwl : WellAll w.params s₁.heap vals ds) (hpl : plWs ds = true) (hwt : ∀ d ∈ ds, d.weight ≤ 1048576) (hr : Room k callerA)
    (F : ∀ base : Heap, K.In base → base.Ns mainGlobals mg → FnOk P w K mg base CX k fa fd ps sp) (hbind : ∀ (s : Shared) (us : List Value), us.length = ps.length → BindsTo s fd ⟨us, []⟩ (ps.zip us)) (hlen : ds.length = ps.length)
    (hsp : ∀ (H : Hp) (xs : List V), OnlyF H → DwAll K H xs ds → sp xs H (fun v H' => Dw K H' v d0) fun _ _ _ => False)
    (hCX : ∀ H e s', CX [] H s₁ (fun _ _ _ => False) e s' → False) :
    codeAny (model P w) callerA (.call (.ref fa) ⟨vals, []⟩) (fun r s' => ∃ u as, r = .ok (.ret u) ∧ ReadsW R cl s'.heap u d0 as ∧ OldK s₁.heap s'.heap ∧ s'.os = s₁.os ∧ AllBare s'.gens) s₁ := by
  obtain ⟨A, ho, ar⟩ := area_all ds vals hwl hpl hwt
  have hO : OnlyF (argH K s₁.heap A) := argH_only ar
  have hok : HOk P w (argH K s₁.heap A) s₁.heap := argH_ok ar
  have hS := dw_all KX ar ds vals hwl hpl ho
  have hV := vals_toV ho
  have hK : ∀ b u, argH K s₁.heap A b = some u → K.lookup b = none := fun b u q => (argH_is ar q).1
  have noA : ∀ {b : Addr} {o : Obj} {es : Array DictEntry} {ep : Nat}, s₁.heap.get? b = some o → o.data = .dict es ep → argH K s₁.heap A b = none := fun {b o es ep} e d => by
    cases q : argH K s₁.heap A b with
    | none => rfl
    | some u =>
      obtain ⟨_, vs, _, _, ⟨e2, _⟩ | ⟨e2, _⟩⟩ := argH_is ar q
      · rw [e2] at e
        cases e
        have d' : Data.seq vs.toArray _ = Data.dict es ep := d
        cases d'
      · rw [e2] at e
        cases e
        have d' : Data.seq vs.toArray _ = Data.dict es ep := d
        cases d'
  generalize argH K s₁.heap A = H at hO hok hS hK noA
  have base_of : ∀ {b : Addr} {o : Obj}, s₁.heap.get? b = some o → H b = none → (hidT s₁.heap H).get? b = some o := fun e n => hidT_get e n
  have nsK : ∀ {b : Addr} {m : Str → Option Value}, s₁.heap.Ns b m → (hidT s₁.heap H).Ns b m := fun {b m} ⟨o, es, ep, e, d, r⟩ => ⟨o, es, ep, base_of e (noA e d), d, r⟩
  have nK : ∀ b o, K.lookup b = some o → H b = none := fun b o e => by
    cases q : H b with
    | none => rfl
    | some u =>
      rw [hK b u q] at e
      cases e
  have hKb : K.In (hidT s₁.heap H) := fun b o e => base_of (KX b o e) (nK b o e)
  have hM : Mod K mg (hidT s₁.heap H) := ⟨hKb, nsK hns, ⟨mb, nsK hb, hbb⟩, let ⟨mc, h1, h2⟩ := hlim; ⟨mc, nsK h1, h2⟩⟩
  have e0 : Env0 P w K mg (hidT s₁.heap H) callerA [] s₁ H := ⟨rfl, hM, fun b o e => of_hidT e, Nat.le_of_eq (hidT_size _ _), trivial, fun b hb => absurd (show b ∈ ([] : List Addr) from hb) (by simp), hok, .of_eq hg⟩
  have hl : vals.length = ps.length := by rw [wellAll_len hwl]; exact hlen
  refine codeAny_mono ((F _ hKb (nsK hns)).run callerA [] s₁ H ⟨vals, []⟩ vals (vals.map toV) _ _ hr e0 (hbind s₁ vals hl) hV (hsp H _ hO hS)) fun r s' x => ?_
  cases r with
  | error e => exact (hCX H e s' x).elim
  | ok fl =>
    cases fl with
    | next => exact False.elim x
    | brk => exact False.elim x
    | cont => exact False.elim x
    | ret u =>
      obtain ⟨v, H', os, bare, un, hok', r', q⟩ := x
      have kept : ∀ b o, s₁.heap.get? b = some o → s'.heap.get? b = some o := fun b o e => by
        cases q2 : H b with
        | none => exact un.keep b o e q2 (by intro z; exact absurd (show b ∈ ([] : List Addr) from z) (by simp)) (by simp)
        | some u2 =>
          rcases hO b with z | ⟨ob, u3, z⟩
          · rw [q2] at z
            cases z
          · have z2 := un.frzs b ob _ z
            obtain ⟨e1, _⟩ := hok b _ z
            obtain ⟨e2, _⟩ := hok' b _ z2
            rw [e] at e1
            cases e1
            exact e2
      have KX' : K.In s'.heap := fun b o e => kept b o (KX b o e)
      obtain ⟨as, hrd⟩ := Dw.reads (R := R) (cl := cl) hok' KX' d0 v u q r'
      exact ⟨u, as, rfl, hrd, OldK.of_keep kept, os, bare⟩
theorem layable_weight {ds : List WData} (h : WData.layableAll ds = true) : ∀ d ∈ ds, d.weight ≤ 1048576 := fun d hd =>
  (PySem.W.layableW_iff.mp (List.all_eq_true.mp h d hd)).2.2
theorem encAll_len : ∀ (cs : List Codec) (a : Codec.denoteAll cs), (Codec.encAll cs a).length = cs.length
  | [], _ => rfl
  | c :: cs, a => by
    show (Codec.encAll cs a.2).length + 1 = cs.length + 1
    rw [encAll_len cs a.2]
theorem walk_spec {r : OpenSpec} {k : Nat} {q : Program} {loose : List Str} {XP : (Str → Option Value) → Heap → Prop} {YP : World → Heap → Prop} {d : DefRec} {K : Params → PySem.W.Frag} {CX : World → CXT} {ps : List Str} {sp : World → Sp}
    (hwell : r.wellSaid = true) (hdf : d.params.defaults = []) (hlen : r.args.length = ps.length) (hr : Room k callerA)
    (hY : ∀ (w : World) (h : Heap), YP w h → (K w.params).In h)
    (F : ∀ (w : World) (mg : Str → Option Value) (fa : Addr) (h : Heap), YP w h → (K w.params).In h → h.Ns mainGlobals mg → mg d.name = some (.ref fa) →
      ∃ fd : FuncData, (∀ (s : Shared) (us : List Value), us.length = ps.length → BindsTo s fd ⟨us, []⟩ (ps.zip us)) ∧
        ∀ base : Heap, (K w.params).In base → base.Ns mainGlobals mg → FnOk r.prog w (K w.params) mg base (CX w) k fa fd ps (sp w))
    (hsp : ∀ (w : World) (H : Hp) (xs : List V) (a : Codec.denoteAll r.args), OnlyF H → Codec.withinAll r.args a = true → Codec.app r.args r.asked a = true → DwAll (K w.params) H xs (Codec.encAll r.args a) →
      sp w xs H (fun v H' => Dw (K w.params) H' v (r.ret.enc (Codec.app r.args r.f a))) fun _ _ _ => False)
    (hCX : ∀ (w : World) (H : Hp) (s : Shared) (e : Value) (s' : Shared), CX w [] H s (fun _ _ _ => False) e s' → False) :
    PySem.W.WalkOS q loose XP YP r d [] (fun f vs => PySem.call f vs) := by
  intro w s_0 s₁ mg mb G Y fa o pm cd doc dV kV ho hd hcd hD hmg hg args vals as hpre hlay hrd hwl hlo
  obtain ⟨a, e1, e2⟩ := PySem.W.os_pre_some hpre
  obtain ⟨e3, hwi⟩ := Codec.encAll_of_decAll r.args args a e1
  subst e3
  have KX := hY w _ Y
  obtain ⟨fd, hb, hF⟩ := F w mg fa _ Y KX G.T.g hmg
  refine PySem.W.enter_call (codeAny_mono (spec_call (R := []) (cl := classAt s_0.heap) (d0 := r.ret.enc (Codec.app r.args r.f a)) KX G.T.g G.T.b G.T.builtins G.T.nolimit hg hwl (pl_encAll _ _) (layable_weight hlay) hr hF hb (by rw [encAll_len]; exact hlen)
    (fun H xs hO hS => hsp w H xs a hO hwi e2 hS) fun H e s' => hCX w H s₁ e s') fun r' s' hq => ?_)
  obtain ⟨u, as', rfl, h1, h2, h3, h4⟩ := hq
  exact ⟨.inl ⟨u, _, as', rfl, fun _ => rfl, h1, (OpenSpec.post_iff hwell hwi _ _).mpr rfl, fun z => Bool.noConfusion (show false = true from z)⟩, h2, h3, h4⟩
end L2
end
section
set_option Elab.async false
set_option linter.all false
set_option maxRecDepth 100000
namespace L2
open PySem PySem.Spec PyProof.Rows
structure Fl (P : Program) (w : World) (fs : List Addr) (H : Hp) (h : Heap) (H' : Hp) (B h' : Heap) : Prop where
  un : Un fs [] H H' h h'
  hok : HOk P w H' h'
  frf : ∀ b ∈ fs, H b = none
  low : ∀ b o, h.get? b = some o → b ∉ fs → ∃ o', B.get? b = some o' ∧ (H b = none → o' = o)
  trk : ∀ b u o, H' b = some u → h'.get? b = some o → B.get? b = some o
def CXe (P : Program) (w : World) : CXT := fun outer H s E e s' =>
  ∃ (a : Addr) (cls a0 : Value) (H' : Hp) (B : Heap), e = .ref a ∧ s'.os = s.os ∧ AllBare s'.gens ∧
    Fl P w (frs outer) H s.heap H' B s'.heap ∧ Heap.FlyingW B outer a cls a0 s'.heap ∧ E cls none H'
theorem ObjOk.has {P : Program} {w : World} {H : Hp} {h : Heap} {a : Addr} : ∀ {o : HO}, ObjOk P w H h a o → ∃ ob, h.get? a = some ob
  | .lst _, ⟨_, _, _, _, e⟩ => ⟨_, e⟩
  | .tup _, ⟨_, _, _, _, e, _⟩ => ⟨_, e⟩
  | .dK _, ⟨_, _, _, _, _, _, _, e, _⟩ => ⟨_, e⟩
  | .dT _, ⟨_, _, _, _, _, _, _, e, _⟩ => ⟨_, e⟩
  | .set _ _, ⟨_, _, _, _, e, _⟩ => ⟨_, e⟩
  | .ins _ _ _, ⟨_, _, _, e, _⟩ => ⟨_, e⟩
  | .own _, ⟨_, e⟩ => ⟨_, e⟩
  | .xd _, ⟨_, ⟨_, _, _, e, _⟩, _⟩ => ⟨_, e⟩
  | .rng _ _, ⟨_, _, _, e⟩ => ⟨_, e⟩
  | .frz _ _, ⟨e, _⟩ => ⟨_, e⟩
  | .tbl _, e => ⟨_, e⟩
  | .met _ _, e => ⟨_, e⟩
  | .ext _, ⟨_, ⟨_, e⟩, _⟩ => ⟨_, e⟩
section
variable {P : Program} {w : World} {fs : List Addr} {H H' : Hp} {h h' h2 B : Heap}
theorem Fl.on (x : Fl P w fs H h H' B h') (st : B.StaysIn h2) (up : h'.UpToSlots h2) (nf : ∀ b ∈ fs, ∃ o, h'.get? b = some o ∧ ∀ vs, o.data ≠ .fields vs) : Fl P w fs H h H' B h2 := by
  have slot : ∀ b o, h.get? b = some o → b ∈ fs → ∃ sl, h2.get? b = some { o with slots := sl } := fun b o e hb => by
    obtain ⟨sl, e1⟩ := x.un.slot b o e (x.frf b hb) hb (by simp)
    obtain ⟨o2, e2, n2⟩ := nf b hb
    rw [e1] at e2
    cases e2
    obtain ⟨sl', e3⟩ := up b _ e1 n2
    exact ⟨sl', e3⟩
  refine ⟨⟨fun b o e n hb _ => ?_, fun b o e n hb _ => slot b o e hb, x.un.free, fun b o e _ => ?_, x.un.tups, x.un.frzs, x.un.tbls⟩, fun b u e => ?_, x.frf, x.low, fun b u o e q => ?_⟩
  · obtain ⟨o', e1, e2⟩ := x.low b o e hb
    rw [e2 n] at e1
    exact st b o e1
  · by_cases hb : b ∈ fs
    · obtain ⟨sl, q⟩ := slot b o e hb
      exact ⟨_, q⟩
    · obtain ⟨o', e1, _⟩ := x.low b o e hb
      exact ⟨o', st b o' e1⟩
  · refine (x.hok b u e).stay (fun c v hc q => ?_) (fun _ q => q) fun _ _ q => q
    rcases hc with rfl | hc
    · exact st _ _ (x.trk _ _ _ e q)
    · exact st _ _ (x.trk _ _ _ hc q)
  · obtain ⟨o1, e1⟩ := (x.hok b u e).has
    have e2 := x.trk b u o1 e e1
    have e3 := st b o1 e2
    rw [e3] at q
    cases q
    exact e2
end
section
variable {X : Cx} {pins : List (Addr × Obj)} {σ : St} {H : Hp} {s : Shared}
theorem Inv.offStack (I : Inv X pins σ H s) {b : Addr} {o : Obj} (e : X.s_0.heap.get? b = some o) (hb : b ∉ X.fs) : b ∉ frs X.stack := fun z => by
  rcases List.mem_cons.mp (I.stkSub b z) with q | q
  · exact absurd (Nat.lt_of_lt_of_le (Heap.lt_size e) I.ok.above) (by rw [q]; exact Nat.lt_irrefl _)
  · exact hb q
theorem Inv.fl0 (I : Inv X pins σ H s) (hex : X.ex = []) : Fl X.prog X.w X.fs X.H_0 X.s_0.heap H (PySem.W.hideAll s.heap (frs X.stack)) s.heap := by
  have u : Un X.fs [] X.H_0 H X.s_0.heap s.heap := hex ▸ I.base
  refine ⟨u, I.hok, I.ok.frf, fun b o e hb => ?_, fun b v o e q => ?_⟩
  · have ns := I.offStack e hb
    cases n : X.H_0 b with
    | none => exact ⟨o, PySem.W.hideAll_get _ (u.keep b o e n hb (by simp)) ns, fun _ => rfl⟩
    | some v =>
      obtain ⟨o', e1⟩ := u.there b o e (by simp)
      exact ⟨o', PySem.W.hideAll_get _ e1 ns, fun z => nomatch z⟩
  · refine PySem.W.hideAll_get _ q fun z => ?_
    rw [I.stkFree b z] at e
    cases e
theorem Inv.flUnder {H' : Hp} {B h' : Heap} (I : Inv X pins σ H s) (hex : X.ex = []) (x : Fl X.prog X.w (frs X.stack) H s.heap H' B h') : Fl X.prog X.w X.fs X.H_0 X.s_0.heap H' B h' := by
  have u : Un X.fs [] X.H_0 H X.s_0.heap s.heap := hex ▸ I.base
  refine ⟨⟨fun b o e n hb _ => ?_, fun b o e n hb _ => ?_, fun b o e n _ => ?_, fun b o e _ => ?_, fun b xs e => x.un.tups _ _ (u.tups b xs e), fun b o v e => x.un.frzs _ _ _ (u.frzs b o v e), fun b ps e => ?_⟩, x.hok, I.ok.frf, fun b o e hb => ?_, x.trk⟩
  · exact x.un.keep b o (u.keep b o e n hb (by simp)) (u.free b o e n (by simp)) (I.offStack e hb) (by simp)
  · obtain ⟨sl, e1⟩ := u.slot b o e n hb (by simp)
    obtain ⟨sl', e2⟩ := x.un.any e1 (u.free b o e n (by simp)) (by simp)
    exact ⟨sl', e2⟩
  · obtain ⟨o', e1⟩ := u.there b o e (by simp)
    exact x.un.free b o' e1 (u.free b o e n (by simp)) (by simp)
  · obtain ⟨o', e1⟩ := u.there b o e (by simp)
    exact x.un.there b o' e1 (by simp)
  · obtain ⟨m1, e1⟩ := u.tbls b ps e
    obtain ⟨m2, e2⟩ := x.un.tbls b _ e1
    exact ⟨m1 ++ m2, by rw [e2, Array.append_assoc]⟩
  · obtain ⟨o1, e1⟩ := u.there b o e (by simp)
    obtain ⟨o', e2, e3⟩ := x.low b o1 e1 (I.offStack e hb)
    refine ⟨o', e2, fun n => ?_⟩
    have q := u.keep b o e n hb (by simp)
    rw [e1] at q
    cases q
    exact e3 (u.free b o e n (by simp))
theorem frs_notFields {h B : Heap} {l : List Env} (f : h.FunFrames B l) : ∀ b ∈ frs l, ∃ o, h.get? b = some o ∧ ∀ vs, o.data ≠ .fields vs := fun b hb => (f.mem hb).2
theorem frs_cons {env : Env} {l : List Env} : ∀ b ∈ frs l, b ∈ frs (env :: l) := fun b hb => by
  obtain ⟨e, h1, h2⟩ := List.mem_filterMap.mp hb
  exact List.mem_filterMap.mpr ⟨e, List.mem_cons_of_mem _ h1, h2⟩
theorem Inv.flyNew {M : Model} {E : XK} {s' : Shared} {a : Addr} {cls : Value} {vs : List Value} {E2 : Value → Shared → Prop} (I : Inv X pins σ H s) (hex : X.ex = []) (hst : X.stack = X.env :: X.outer) (hf : X.env.frame = some X.env.locals)
    (hm : Heap.MadeExcOf s.heap s'.heap a cls vs) (ho : s'.os = s.os) (hg : s'.gens = s.gens) (hE : E cls none H) :
    wpAny M X.A (leaving X.env (.ref a)) (fun _ s2 => CXe X.prog X.w X.outer X.H_0 X.s_0 E (.ref a) s2) E2 s' := by
  have hin : ∀ env ∈ X.stack, ∀ b, env.frame = some b → b ∈ frs X.stack := fun env he b hb => List.mem_filterMap.mpr ⟨env, he, hb⟩
  have ff := PySem.W.funFrames_hide I.stack hin
  refine wpAny_leaves_madeW (base := PySem.W.hideAll s.heap (frs X.stack)) (env := X.env) (outer := X.outer) (by rw [I.ok.frames, hst]) hf (fun b o q => PySem.W.of_hideAll _ q) (hst ▸ ff) hm fun h2 t x1 x2 x3 x4 => ?_
  refine ⟨a, cls, .ref t, H, _, rfl, ho.trans I.os, (by show AllBare s'.gens; rw [hg]; exact I.bare), (I.fl0 hex).on x1.1 ((Heap.UpToSlots.of_keeps hm.keeps).trans x4) (fun b hb => ?_), x1, hE⟩
  refine frs_notFields ff b ?_
  rw [hst]
  exact frs_cons b hb
theorem Inv.flyOn {M : Model} {E E' : XK} {e : Value} {s' : Shared} {E2 : Value → Shared → Prop} (I : Inv X pins σ H s) (hex : X.ex = []) (hst : X.stack = X.env :: X.outer) (hf : X.env.frame = some X.env.locals)
    (x : CXe X.prog X.w X.stack H s E e s') (hE : ∀ c d H, E c d H → E' c d H) :
    wpAny M X.A (leaving X.env e) (fun _ s2 => CXe X.prog X.w X.outer X.H_0 X.s_0 E' e s2) E2 s' := by
  obtain ⟨a, cls, a0, H', B, rfl, ho, hg, fl, fw, q⟩ := x
  have fw' := fw
  rw [hst] at fw'
  refine wpAny_leaves_onW (by rw [I.ok.frames, hst]) hf fw' fun h2 x1 x2 => ?_
  refine ⟨a, cls, a0, H', B, rfl, ho.trans I.os, hg, (I.flUnder hex fl).on x1.1 x2 (fun b hb => ?_), x1, hE _ _ _ q⟩
  refine frs_notFields fw'.2.2.1 b ?_
  exact frs_cons b hb
end
section
variable {P : Program} {w : World} {K : PySem.W.Frag} {mg : Str → Option Value} {base : Heap} {N : List Str} {qual : Str} {scope : Scope} {f : Addr} {cd : Value} {A : Around} {outer : List Env} {s0 : Shared} {H0 : Hp} {E : XK}
theorem passE {E1 : XK} (hE : ∀ c d H, E1 c d H → E c d H) : Passes (CXe P w) (cxOf (CXe P w) P w K mg base N qual scope f cd A outer s0 H0 E) E1 :=
  fun pins σ H s e s' I h => I.flyOn rfl rfl rfl h hE
theorem passE' : Passes (CXe P w) (cxOf (CXe P w) P w K mg base N qual scope f cd A outer s0 H0 E) E := passE fun _ _ _ h => h
theorem ownE : PassesOwn (model P w) (cxOf (CXe P w) P w K mg base N qual scope f cd A outer s0 H0 E).A (cxOf (CXe P w) P w K mg base N qual scope f cd A outer s0 H0 E).env (cxOf (CXe P w) P w K mg base N qual scope f cd A outer s0 H0 E).xe := PassesOwn.leaving
structure XCls (K : PySem.W.Frag) (x : Str) (C : Addr) (B newId initId : String) (bm : List Value) : Prop where
  nm : PySem.W.nsIn K mainGlobals x = some (some (.ref C))
  ok : PySem.W.excIn K C bm newId = true
  fb : ExcBaseFacts B newId initId bm
theorem ps_raise {x : Str} {C : Addr} {B newId initId : String} {bm : List Value} {np cpos pos : Pos} (hx : XCls K x C B newId initId bm) (hg : Gl (cxOf (CXe P w) P w K mg base N qual scope f cd A outer s0 H0 E) x) (hd : (x == ("__debug__" : Str)) = false := by decide) :
    PS (cxOf (CXe P w) P w K mg base N qual scope f cd A outer s0 H0 E) (.Raise (some (.Call (.Name x np) [] [] cpos)) none pos) (fun _ _ H => E (.ref C) none H) := by
  intro pins s σ H D I h
  have X : K.In s.heap := I.kIn
  have G : s.heap.Ns mainGlobals mg := I.mod.glob.keeps I.bk
  have e := hx.ok
  unfold PySem.W.excIn at e
  split at e
  · rename_i dd cdt sl ho
    split at e
    · rename_i C' tl k0 k1 k2 k3 n k5 hm hs
      simp only [Bool.and_eq_true, beq_iff_eq, Bool.not_eq_true'] at e
      obtain ⟨⟨⟨⟨⟨rfl, rfl⟩, hdel⟩, ht⟩, hok⟩, hni⟩ := e
      obtain ⟨nm, bs, mro, ns, qn, hdc, sn, sub, ab, col, del⟩ := cdt
      dsimp only at hm hdel hok hni
      subst hm hdel
      have esl : sl = #[k0, k1, k2, k3, some (.builtin n), k5] := by
        obtain ⟨l⟩ := sl
        simp only at hs
        rw [hs]
      subst esl
      have T := PySem.W.tail_of_in X ht
      refine wpAny_Raise_call_subT (C := C') (nm := nm) (q := qn) (N := ns) (bs := bs) (bm := tl) (hdct := hdc) (sn := sn) (sub := sub) (ab := ab) (col := col) (dd := dd) (k0 := k0) (k1 := k1) (k2 := k2) (k3 := k3) (k5 := k5)
        hx.fb (T.hasType hx.fb.hasBase) (I.ok.hd rfl) rfl (PySem.W.nsMap_none_of_in X hok hni) (ld_glob I hg (PySem.W.mg_of X G hx.nm) ⟨rfl, ?_⟩ hd)
      refine evalArgs_empty ⟨rfl, Nat.zero_le _, X _ _ ho, .of_isNs (PySem.W.isNs_of_in X hok), T, fun h2 a hm => ?_⟩
      exact I.flyNew rfl rfl rfl hm rfl rfl h
    · cases e
  · cases e
theorem Fun.okE {x qual : Str} {st : Stmt} {f : Addr} {fd : FuncData} {N ps : List Str} {k : Nat} {sp : Sp} (F : Fun K x qual st f fd) (S : FnScope N ps (defScope st)) (len : ∀ vs H Q E, sp vs H Q E → vs.length = ps.length)
    (hbody : ∀ (cdv : Value) (A : Around) (outer : List Env) (s : Shared) (H : Hp) (vs : List V) (Q : VK) (E : XK), Room k (A.deeper (envOfC qual (defScope st) s.heap.objs.size f cdv)) → sp vs H Q E →
      ∃ t, PSs (cxOf (CXe P w) P w K mg base N qual (defScope st) f cdv A outer s H E) (defBody st) t ∧ t { nx := fun _ H' => Q .non H', rt := Q } (start N vs) H) : FnOk P w K mg base (CXe P w) (k + 1) f fd ps sp := by
  obtain ⟨oc, od, kV, doc, pm, an, cdv, ct, osl, rfl, lk, hcd⟩ := F.ex
  exact fn_of lk hcd S len fun A outer s H vs Q E hr hsp => hbody cdv A outer s H vs Q E hr hsp
end
end L2
end
section
set_option Elab.async false
set_option linter.all false
set_option maxRecDepth 100000
namespace L2
open PySem PySem.Spec PyProof.Rows
section
variable {M : Model} {A : Around} {E : Value → Shared → Prop} {s : Shared}
theorem leaves_any {base : Heap} {env : Env} {outer : List Env} {L e : Addr} {cls a0 fl : Value} {Q : Unit → Shared → Prop}
    (hfr : A.frames = some (env :: outer)) (hf : env.frame = some L) (st : base.StaysIn s.heap) (hen : base.get? e = none) (ff : s.heap.FunFrames base (env :: outer)) (ht : s.heap.TracedAtW base e cls a0 fl)
    (hQ : ∀ h2, Heap.FlyingW base outer e cls a0 h2 → s.heap.UpToSlots h2 → Q () { s with heap := h2 }) : wpAny M A (leaving env (.ref e)) Q E s := by
  by_cases hfl : fl = rawInt L
  · subst hfl
    unfold leaving
    refine wpAny_bind (wpAny_noteFrame_againW hf ht ?_)
    exact wpAny_landsW ⟨st, hen, ff, ht⟩ fun h2 x1 x2 => hQ h2 ⟨x1.1, x1.2.1, x1.2.2.1.2.2, x1.2.2.2⟩ x2
  · obtain ⟨oe, ws, T, oT, ts, ge, ⟨gc, g0⟩, gd, g1, gn, gne, gT, gdT, g3⟩ := ht
    subst gc
    have oth : ∀ b, b ≠ T → (s.heap.update T (Obj.mapFields fun z => z.setIfInBounds 3 Value.none)).get? b = s.heap.get? b := fun b hb => Heap.get?_update_other _ _ fun q => hb q.symm
    have rec0 : ∀ b o, s.heap.get? b = some o → (∀ vs, o.data ≠ .fields vs) → b ≠ T := fun b o eb nf q => by
      subst q
      rw [gT] at eb
      cases eb
      exact nf ts gdT
    unfold leaving noteFrame
    simp only [hf]
    refine wpAny_bind (wpAny_bind (wpAny_field ge gd g1 ?_))
    rw [if_pos (by simp : (Value.ref T != Value.none) = true)]
    refine wpAny_bind (wpAny_field gT gdT g3 ?_)
    rw [if_neg (by simpa using hfl)]
    refine wpAny_bind (wpAny_setField gT gdT (Array.getElem?_eq_some_iff.mp g3).1 ?_)
    refine wpAny_newEntryW (base := base) hfr (ff.of_keeps fun b o eb nf => ⟨o, (oth b (rec0 b o eb nf)).trans eb, rfl⟩) hf ((oth e fun q => gne q.symm).trans ge) ?_ hen gd (Array.getElem?_eq_some_iff.mp g1).1 g0 ?_
    · intro b o eb
      refine (oth b fun q => ?_).trans (st b o eb)
      rw [q, gn] at eb
      cases eb
    · rintro h2 ⟨x1, ⟨_, _, x2⟩, x3, x4⟩
      exact hQ h2 ⟨x1, hen, x2, x3⟩ fun b o eb nf => x4 b o ((oth b (rec0 b o eb nf)).trans eb) nf
theorem passOn_any {α : Type} {base : Heap} {l : List Env} {env : Env} {e : Addr} {cls a0 fl : Value} {what : String} {Q : α → Shared → Prop} (st : base.StaysIn s.heap) (ff : s.heap.FunFrames base l) (ht : s.heap.TracedAtW base e cls a0 fl)
    (hE : ∀ h2 fl', base.StaysIn h2 → h2.FunFrames base l → h2.TracedAtW base e cls a0 fl' → s.heap.UpToSlots h2 → E (.ref e) { s with heap := h2 }) : wpAny M A (passOn what (.ref e) env : Sem α) Q E s := by
  obtain ⟨oe, ws, T, oT, ts, ge, gc, gd, g1, gn, gne, gT, gdT, g3⟩ := ht
  have sz : 3 < ts.size := (Array.getElem?_eq_some_iff.mp g3).1
  have oth : ∀ (v : Value) b, b ≠ T → (s.heap.update T (Obj.mapFields fun z => z.setIfInBounds 3 v)).get? b = s.heap.get? b := fun v b hb => Heap.get?_update_other _ _ fun q => hb q.symm
  have rec0 : ∀ b o, s.heap.get? b = some o → (∀ vs, o.data ≠ .fields vs) → b ≠ T := fun b o eb nf q => by
    subst q
    rw [gT] at eb
    cases eb
    exact nf ts gdT
  unfold PySem.passOn
  refine wpAny_bind (wpAny_field ge gd g1 ?_)
  rw [if_neg (by simp : ¬ (Value.ref T == Value.none) = true)]
  have fin : ∀ v : Value, E (.ref e) { s with heap := s.heap.update T (Obj.mapFields fun z => z.setIfInBounds 3 v) } := fun v =>
    hE _ v (fun b o eb => (oth v b fun q => by rw [q, gn] at eb; cases eb).trans (st b o eb)) (ff.of_keeps fun b o eb nf => ⟨o, (oth v b (rec0 b o eb nf)).trans eb, rfl⟩)
      ⟨oe, ws, T, _, _, (oth v e fun q => gne q.symm).trans ge, gc, gd, g1, gn, gne, Heap.get?_update_self _ gT (Obj.isFreed_of_fields (Obj.data_mapFields gdT _)), Obj.data_mapFields gdT _, by simp [sz]⟩
      fun b o eb nf => ⟨o.slots, (oth v b (rec0 b o eb nf)).trans eb⟩
  have step : wpAny M A (setFlight (.ref e) env.frame) (fun _ s2 => wpAny M A (throw (.ref e) : Sem α) Q E s2) E s := by
    unfold setFlight
    refine wpAny_bind (wpAny_field ge gd g1 ?_)
    rw [if_pos (by simp : (Value.ref T != Value.none) = true)]
    exact wpAny_setField gT gdT sz (wpAny_throw (fin _))
  first
    | exact wpAny_bind (wpAny_pure (wpAny_bind step))
    | exact wpAny_bind step
theorem noteFrame_frame {e : Value} {env env' : Env} (h : env'.frame = env.frame) : noteFrame e env' = noteFrame e env := by
  unfold noteFrame PySem.frameOf
  rw [h]
end
section
variable {P : Program} {w : World} {fs : List Addr} {H H' : Hp} {h h' h2 B : Heap}
theorem Fl.but {C : Addr} (x : Fl P w fs H h H' B h') (hC : H' C = none) (hn : h.get? C = none) (sb : Heap.SameBut C h' h2) : Fl P w fs H h H' (PySem.W.hideAll B [C]) h2 := by
  have ne : ∀ b o, h.get? b = some o → b ≠ C := fun b o e q => by rw [q, hn] at e; cases e
  have nt : ∀ b u, H' b = some u → b ≠ C := fun b u e q => by rw [q, hC] at e; cases e
  refine ⟨⟨fun b o e n hb hx => (sb.2 b (ne b o e)).trans (x.un.keep b o e n hb hx), fun b o e n hb hx => ?_, x.un.free, fun b o e hx => ?_, x.un.tups, x.un.frzs, x.un.tbls⟩, fun b u e => ?_, x.frf, fun b o e hb => ?_, fun b u o e q => ?_⟩
  · obtain ⟨sl, e1⟩ := x.un.slot b o e n hb hx
    exact ⟨sl, (sb.2 b (ne b o e)).trans e1⟩
  · obtain ⟨o', e1⟩ := x.un.there b o e hx
    exact ⟨o', (sb.2 b (ne b o e)).trans e1⟩
  · refine (x.hok b u e).stay (fun c v hc q => (sb.2 c ?_).trans q) (fun _ q => q) fun _ _ q => q
    rcases hc with rfl | hc
    · exact nt _ u e
    · exact nt _ _ hc
  · obtain ⟨o', e1, e2⟩ := x.low b o e hb
    exact ⟨o', PySem.W.hideAll_get _ e1 (by simp [ne b o e]), e2⟩
  · rw [sb.2 b (nt b u e)] at q
    exact PySem.W.hideAll_get _ (x.trk b u o e q) (by simp [nt b u e])
end
abbrev Cx.blkE (X : Cx) (E : XK) (s : Shared) (H : Hp) (scope : Scope) (cenv : Env) (fp : List Addr) : Cx := (X.blk s H scope cenv fp).wish fun e s' => ∃ (pins : List (Addr × Obj)) (σ : St) (H' : Hp) (s1 : Shared), Inv (X.blk s H scope cenv fp) pins σ H' s1 ∧ CXe X.prog X.w X.stack H' s1 E e s'
theorem passB {X : Cx} {E : XK} {s : Shared} {H : Hp} {scope : Scope} {cenv : Env} {fp : List Addr} : Passes (CXe X.prog X.w) (X.blkE E s H scope cenv fp) E := fun pins σ H' s1 e s' I h => ⟨pins, σ, H', s1, I.unwish, h⟩
section
variable {X : Cx}
theorem Inv.blkErr {E E' : XK} {pins : List (Addr × Obj)} {σ : St} {H3 : Hp} {s3 : Shared} {scope : Scope} {ce : Env} {fp : List Addr} {use : Option (Value → Sem Unit)} {Qf : Value → Shared → Prop} {acc e : Value} {s' : Shared}
    (hex : X.ex = []) (hst : X.stack = X.env :: X.outer) (hf : X.env.frame = some X.env.locals)
    (hxe : ∀ e s', wpAny (model X.prog X.w) X.A (leaving X.env e) (fun _ s2 => CXe X.prog X.w X.outer X.H_0 X.s_0 E' e s2) (fun e' s2 => CXe X.prog X.w X.outer X.H_0 X.s_0 E' e' s2) s' → X.xe e s')
    (hE : ∀ c d H, E c d H → E' c d H)
    (I3 : Inv X pins σ H3 s3) (f3 : ∀ b ∈ fp, FpOk X pins H3 b ∧ b < s3.heap.objs.size) (cL : ce.locals = s3.heap.objs.size) (cF : ce.frame = X.env.frame)
    (h : (X.blkE E s3 H3 scope ce fp).xe e s') :
    notedBy (model X.prog X.w) X.A ce (fun x s2 => compPost (model X.prog X.w) X.A X.xe use Qf acc s3.heap.objs.size (.error x) s2) e s' := by
  obtain ⟨pins1, σ1, H1, s1, I1, a, cls, a0, H2, B, rfl, ho, hg, fl, fw, q⟩ := h
  have J : Inv X pins σ H1 s1 := I3.call' (ch := fp) I1.os I1.base I1.hok I1.bare fun b hb => ⟨(f3 b hb).1.2.2.2.1, (f3 b hb).1.2.1, (f3 b hb).1.2.2.2.2.1, (f3 b hb).1.2.2.2.2.2⟩
  have flX := J.flUnder hex fl
  have fw' := fw
  rw [hst] at fw'
  have nC : H1 ce.locals = none := I1.free
  obtain ⟨m, hn, _⟩ := I1.loc
  have hn : s1.heap.Ns ce.locals m := hn
  obtain ⟨oc, es, ep, hoc, hr⟩ := hn
  have cOff : ce.locals ∉ frs X.stack := fun z => by
    obtain ⟨_, o, hb, _⟩ := I3.stack.mem z
    exact absurd (Heap.lt_size hb) (by rw [cL]; exact Nat.lt_irrefl _)
  obtain ⟨oc', bC, eC⟩ := fl.low ce.locals oc hoc cOff
  rw [eC nC] at bC
  have nC2 : H2 ce.locals = none := fl.un.free ce.locals oc hoc nC (by simp)
  have hs0 : X.s_0.heap.get? ce.locals = none := Heap.get?_none_of_le (by rw [cL]; exact I3.sz)
  unfold notedBy
  rw [noteFrame_frame cF]
  refine wpAny_looks_onW (by rw [I3.ok.frames, hst]) hf fw' fun h2 x1 x2 => ?_
  have nfr : ∀ b ∈ X.fs, ∃ o, s'.heap.get? b = some o ∧ ∀ vs, o.data ≠ .fields vs := fun b hb => frs_notFields fw'.2.2.1 b (frs_cons b hb)
  have fl2 := flX.on x1.1 x2 nfr
  have key : ∃ m, h2.Ns s3.heap.objs.size m ∧ ∀ h3, Heap.SameBut s3.heap.objs.size h2 h3 → ∀ cenv : Env, cenv.locals = s3.heap.objs.size → wpAny (model X.prog X.w) X.A (passOn "comprehension.variables-let-go" (.ref a) cenv : Sem Value) (fun _ _ => False) X.xe { s' with heap := h3 } := by
    refine ⟨m, ?_, fun h3 sb cenv _ => ?_⟩
    · rw [← cL]
      exact ⟨oc, es, ep, x1.1 _ _ bC, hr⟩
    · rw [← cL] at sb
      have fl3 := fl2.but nC2 hs0 sb
      obtain ⟨y1, y2, y3, oe, ws, T, oT, ts, ge, gc, gd, g1, gn, gne, gT, gdT, g3⟩ := x1
      have aC : a ≠ ce.locals := fun z => by rw [z, bC] at y2; cases y2
      have TC : T ≠ ce.locals := fun z => by rw [z, bC] at gn; cases gn
      have st3 : (PySem.W.hideAll B [ce.locals]).StaysIn h3 := fun b o eb => by
        have nb : b ≠ ce.locals := fun z => by
          have := PySem.W.hideAll_none [ce.locals] (h := B) (b := b) (by simp [z])
          rw [this] at eb
          cases eb
        exact (sb.2 b nb).trans (y1 b o (PySem.W.of_hideAll _ eb))
      have none3 : ∀ b, B.get? b = none → (PySem.W.hideAll B [ce.locals]).get? b = none := fun b eb => by
        cases z : (PySem.W.hideAll B [ce.locals]).get? b with
        | none => rfl
        | some o => rw [PySem.W.of_hideAll _ z] at eb; cases eb
      have ff3 : ∀ l : List Env, (∀ b ∈ frs l, b ∈ frs X.stack) → h2.FunFrames B l → h3.FunFrames (PySem.W.hideAll B [ce.locals]) l := by
        intro l
        induction l with
        | nil => intro _ _; trivial
        | cons env r ih =>
          intro hs hl
          obtain ⟨hk, ⟨L, o, hfL, hnL, hoL, hdL⟩, hr⟩ := hl
          have hL : L ∈ frs X.stack := hs L (List.mem_filterMap.mpr ⟨env, List.mem_cons_self, hfL⟩)
          exact ⟨hk, ⟨L, o, hfL, none3 L hnL, (sb.2 L fun z => cOff (z ▸ hL)).trans hoL, hdL⟩, ih (fun b hb => hs b (frs_cons b hb)) hr⟩
      have tr3 : h3.TracedAtW (PySem.W.hideAll B [ce.locals]) a cls a0 (rawInt X.env.locals) := ⟨oe, ws, T, oT, ts, (sb.2 a aC).trans ge, gc, gd, g1, none3 T gn, gne, (sb.2 T TC).trans gT, gdT, g3⟩
      have ff := ff3 (X.env :: X.outer) (by rw [hst]; exact fun b hb => hb) y3
      refine passOn_any st3 ff tr3 fun h4 fl' z1 z2 z3 z4 => hxe _ _ ?_
      have nfr3 : ∀ b ∈ X.fs, ∃ o, h3.get? b = some o ∧ ∀ vs, o.data ≠ .fields vs := fun b hb => frs_notFields ff b (frs_cons b hb)
      have fl4 := fl3.on z1 z4 nfr3
      have nfr4 : ∀ b ∈ X.fs, ∃ o, h4.get? b = some o ∧ ∀ vs, o.data ≠ .fields vs := fun b hb => frs_notFields z2 b (frs_cons b hb)
      refine leaves_any (s := { s' with heap := h4 }) (by rw [I3.ok.frames, hst]) hf z1 (none3 a y2) z2 z3 fun h5 v1 v2 => ?_
      exact ⟨a, cls, a0, H2, _, rfl, ho.trans J.os, hg, fl4.on v1.1 v2 nfr4, v1, hE _ _ _ q⟩
  cases use <;> exact key
end
section
variable {X : Cx}
theorem lc_coreE {E E' : XK} {pins : List (Addr × Obj)} {s : Shared} {σ : St} {H : Hp} {Q : VK} {elt tg iter : Expr} {ifs : List Expr} {scope : Scope} {own : List (Str × Nat)} {pos pos' : Pos} {wi : TI} {g : TG} {tt : TT} {te : TE} {use : Option (Value → Sem Unit)} {Qf : Value → Shared → Prop}
    (hex : X.ex = []) (hst : X.stack = X.env :: X.outer) (hf : X.env.frame = some X.env.locals)
    (hxe : ∀ e s', wpAny (model X.prog X.w) X.A (leaving X.env e) (fun _ s2 => CXe X.prog X.w X.outer X.H_0 X.s_0 E' e s2) (fun e' s2 => CXe X.prog X.w X.outer X.H_0 X.s_0 E' e' s2) s' → X.xe e s') (hE : ∀ c d H, E c d H → E' c d H)
    (hc : X.calm = true) (hN : X.N.Nodup) (I : Inv X pins σ H s) (hi : PI X tg iter wi) (ok : BlkOk X.N X.env.scope scope own)
    (hg : ∀ (s : Shared) (H : Hp) (C : Addr) (cl : List (Str × Addr)) (fp : List Addr), PG (X.blk s H scope (compEnvC scope cl C X.env) fp) tg g) (ht : ∀ (s : Shared) (H : Hp) (C : Addr) (cl : List (Str × Addr)) (fp : List Addr), PTs (X.blk s H scope (compEnvC scope cl C X.env) fp) ifs tt)
    (he : ∀ (s : Shared) (H : Hp) (C : Addr) (cl : List (Str × Addr)) (fp : List Addr), PE (X.blkE E s H scope (compEnvC scope cl C X.env) fp) elt te) (hs : ∀ x, foldedSetIterable iter X.env x = pure x)
    (h : tLc wi g tt te (own.map (·.2)) σ H Q)
    (hRR : ∀ D C s' m H', Inv X pins σ H' s' → Q (.ref D) H' → s'.heap.Ns C m → FpOk X pins H' C → compPost (model X.prog X.w) X.A X.xe use Qf (.ref D) C (.ok .next) s') :
    wpAny (model X.prog X.w) X.A (comprehension (.ListComp elt [⟨tg, iter, ifs, 0⟩] scope pos) scope X.env pos' (newList []) false (eval iter X.env) use) Qf X.xe s := by
  have hfree : ∀ y ∈ scope.names, y.2 = .free → ∃ c, X.env.cells.lookup y.1 = some c := fun y hy e => by
    rcases ok.free y hy e with k | k
    · exact I.ok.has _ (.inl k)
    · exact I.ok.has _ (.inr k)
  refine wpAny_comprehension_free (use := use) rfl hs (closure_ok hfree) ok.kind (fun y hy e => by rw [ok.uniq y hy, e])
    (thn (hi pins s σ H _ I h) fun xv s1 hx => thn hx fun itv s2 h2 => ?_)
  obtain ⟨it, fp, tn, J, H2, e, I2, T, st2, f2, q⟩ := h2
  subst e
  refine wpAny_newObj_type (newEnv_comp ?_) (by show 0 ≤ sizeLine; decide)
  generalize hD : s2.heap.objs.size = D
  have hDn : H2 D = none := I2.hok.fresh (Nat.le_of_eq hD)
  obtain ⟨W, ⟨m0, w0⟩, turn⟩ := q D hDn
  generalize hs3 : ({ s2 with heap := s2.heap.push { cls := .type "list", data := .seq ([] : List Value).toArray } } : Shared) = s3
  have I3 : Inv X pins σ (upd H2 D (.lst [])) s3 := by
    rw [← hs3]
    refine I2.laid (t' := s2.toks) (fun b o e => Heap.get?_push_of_some _ e) (Nat.le_of_eq hD) ⟨Nat.zero_le _, [], 0, .nil, ?_⟩
    rw [← hD]
    exact Heap.get?_push_size _ rfl
  have h3 : s3.heap = s2.heap.push { cls := .type "list", data := .seq ([] : List Value).toArray } := by rw [← hs3]
  have sz : ∀ b ∈ fp, b < s2.heap.objs.size := fun b hb => by
    obtain ⟨o, e, _⟩ := T.obj _ _ st2 b hb
    exact Heap.lt_size e
  have f3 : ∀ b ∈ fp, FpOk X pins (upd H2 D (.lst [])) b ∧ b < s3.heap.objs.size := fun b hb => by
    have hlt := sz b hb
    refine ⟨⟨?_, (f2 b hb).2⟩, by rw [h3, Heap.size_push]; exact Nat.lt_succ_of_lt hlt⟩
    rw [upd_ne (by rw [← hD]; exact Nat.ne_of_lt hlt)]
    exact (f2 b hb).1
  have st3 : tn 0 s3.heap := T.keep _ _ _ st2 fun b _ o e => by rw [h3]; exact Heap.get?_push_of_some _ e
  have I4 := block_start I3 ok hN f3
  have pg := hg s3 (upd H2 D (.lst [])) s3.heap.objs.size (cellsFrom (s3.heap.objs.size + 1) scope.names (cloFrom X.env.cells scope.names [])) fp
  have pt := ht s3 (upd H2 D (.lst [])) s3.heap.objs.size (cellsFrom (s3.heap.objs.size + 1) scope.names (cloFrom X.env.cells scope.names [])) fp
  have pe := he s3 (upd H2 D (.lst [])) s3.heap.objs.size (cellsFrom (s3.heap.objs.size + 1) scope.names (cloFrom X.env.cells scope.names [])) fp
  show codeAny _ _ (.compStart (.ListComp elt [⟨tg, iter, ifs, 0⟩] scope pos) 0 (.ref it) (.ref D) (compEnvC scope (cellsFrom (s3.heap.objs.size + 1) scope.names (cloFrom X.env.cells scope.names [])) s3.heap.objs.size X.env)) (compPost (model X.prog X.w) X.A X.xe use Qf (.ref D) s3.heap.objs.size) { s3 with heap := pushCells (s3.heap.push { cls := .type "dict", data := .dict #[] }) scope.names }
  have nfp : ∀ b ∈ fp, (upd H2 D (.lst [])) b = none := fun b hb => (f3 b hb).1.1
  generalize hce : compEnvC scope (cellsFrom (s3.heap.objs.size + 1) scope.names (cloFrom X.env.cells scope.names [])) s3.heap.objs.size X.env = ce at I4 pg pt pe ⊢
  have cL : ce.locals = s3.heap.objs.size := by subst hce; rfl
  have cF : ce.frame = X.env.frame := by subst hce; rfl
  generalize hH3 : upd H2 D (.lst []) = H3 at I3 I4 pg pt pe w0 nfp f3
  generalize hs4 : ({ s3 with heap := pushCells (s3.heap.push { cls := .type "dict", data := .dict #[] }) scope.names } : Shared) = s4 at I4 ⊢
  have st4 : tn 0 s4.heap := T.keep _ _ _ st3 fun b _ o e => by rw [← hs4]; exact pushCells_keeps _ _ _ _ (Heap.get?_push_of_some _ e)
  have stat : ∀ {σ' : St} {H' : Hp} {s' : Shared}, Inv (X.blk s3 H3 scope ce fp) [] σ' H' s' → (∀ b ∈ fp, H' b = none) → ∀ b ∈ fp, FpOk (X.blk s3 H3 scope ce fp) [] H' b := fun {σ' H' s'} I' hn b hb =>
    ⟨hn b hb, (I'.ok.exf b hb).1, I'.ok.exfs b hb, .inl hb, fun x c e => (I'.ok.exf b hb).2 x c e, fun p hp => absurd (show p ∈ ([] : List (Addr × Obj)) ++ [] from hp) (by simp)⟩
  have loop : codeAny (model X.prog X.w) X.A (.compLoop (.ListComp elt [⟨tg, iter, ifs, 0⟩] scope pos) 0 (.ref it) (.ref D) ce) (compPost (model X.prog X.w) X.A X.xe use Qf (.ref D) s3.heap.objs.size) s4 := by
    refine compLoop_any (fun n s' => ∃ i H', Inv (X.blk s3 H3 scope ce fp) [] (wipe σ (own.map (·.2))) H' s' ∧ tn i s'.heap ∧ (∀ b ∈ fp, H' b = none) ∧ W i n H') ?_ m0 ⟨0, H3, I4, st4, nfp, w0⟩
    rintro n s5 ⟨i, H5, I5, st5, n5, w5⟩
    rcases turn i n H5 w5 with ⟨stop, qq⟩ | ⟨go, Nx, hNx, step⟩
    · have td := T.done (X.blk s3 H3 scope ce fp) rfl rfl rfl hc i [] s5 _ H5 (fun _ _ => False) I5 (stat I5 n5) st5 stop
      refine thnF td fun r s6 ⟨hr, I6⟩ => ?_
      subst hr
      have I7 : Inv X pins σ H5 s6 := I3.call' (ch := fp) I6.os I6.base I6.hok I6.bare fun b hb => ⟨(f3 b hb).1.2.2.2.1, (f3 b hb).1.2.1, (f3 b hb).1.2.2.2.2.1, (f3 b hb).1.2.2.2.2.2⟩
      have nC : H5 s3.heap.objs.size = none := by
        have z : H5 ce.locals = none := I6.free
        rw [cL] at z
        exact z
      obtain ⟨m, hn, _⟩ := I6.loc
      have hn : s6.heap.Ns ce.locals m := hn
      rw [cL] at hn
      exact hRR D s3.heap.objs.size s6 m H5 I7 qq hn (I3.fpOk (Nat.le_refl _) nC)
    · have ti := T.item (X.blk s3 H3 scope ce fp) rfl rfl rfl hc i [] s5 _ H5 (fun _ _ => False) I5 (stat I5 n5) st5 go
      refine thnF ti fun r s6 ⟨u, hr, h6⟩ => ?_
      subst hr
      refine thnF h6 fun _ s7 ⟨x, H7, I7, r7, y7, st7, n7⟩ => ?_
      have I7' := I7.pinned (stat I7 n7) (T.obj _ _ st7)
      refine thnF (pg _ s7 _ H7 x u _ I7' r7 (step x H7 y7)) fun _ s8 ⟨σ8, H8, I8, hw8, q8⟩ => ?_
      refine thnF (pt _ s8 σ8 H8 _ I8 q8) fun b s9 ⟨H9, I9, q9⟩ => ?_
      have fin : ∀ {s' : Shared} {H' : Hp}, Inv (X.blk s3 H3 scope ce fp) ([] ++ pinsAt fp s7.heap) σ8 H' s' → Nx H' → ∃ m, m < n ∧ ∃ i H', Inv (X.blk s3 H3 scope ce fp) [] (wipe σ (own.map (·.2))) H' s' ∧ tn i s'.heap ∧ (∀ b ∈ fp, H' b = none) ∧ W i m H' := fun {s' H'} I' nx => by
        obtain ⟨m', hm, w'⟩ := hNx H' nx
        have pin' : ∀ b ∈ fp, ∀ o, s7.heap.get? b = some o → s'.heap.get? b = some o ∧ H' b = none := fun b hb o e =>
          let z := I'.pin (b, o) (List.mem_append_right _ (List.mem_append_right _ (mem_pinsAt hb e)))
          ⟨z.1, z.2.1⟩
        have hl : (wipe σ (own.map (·.2))).length = σ8.length := by rw [← hw8, wipe_length]
        refine ⟨m', hm, i + 1, H', (I'.unpinned (pins := [])).weak hl (fun j v e => ?_), T.keep _ _ _ st7 fun b hb o e => (pin' b hb o e).1, fun b hb => ?_, w'⟩
        · rw [← hw8] at e
          exact (wipe_some e).1
        · obtain ⟨o, e, _⟩ := T.obj _ _ st7 b hb
          exact (pin' b hb o e).2
      cases b with
      | false =>
        simp only [Bool.false_eq_true, if_false] at q9 ⊢
        exact fin I9 q9
      | true =>
        simp only [if_true] at q9 ⊢
        refine wpAny_mono (pe _ s9 σ8 H9 _ (I9.wish _) q9) (fun z s10 ⟨yv, H10, I10, r10, acc, hD10, hz10, nx⟩ => ?_) fun x s10 hx => ?_
        · exact app_ok (X := X.blk s3 H3 scope ce fp) I10.unwish hD10 hz10 r10 fun s11 I11 => fin I11 nx
        · exact Inv.blkErr hex hst hf hxe hE I3 f3 cL cF hx
  exact codeAny_compStart_list loop (T.self X.A 0 _ _ _ st4 loop)
theorem pe_lcE {E E' : XK} {elt tg iter : Expr} {ifs : List Expr} {scope : Scope} {own : List (Str × Nat)} {pos : Pos} {wi : TI} {g : TG} {tt : TT} {te : TE} (hex : X.ex = []) (hst : X.stack = X.env :: X.outer) (hf : X.env.frame = some X.env.locals)
    (hxe : ∀ e s', wpAny (model X.prog X.w) X.A (leaving X.env e) (fun _ s2 => CXe X.prog X.w X.outer X.H_0 X.s_0 E' e s2) (fun e' s2 => CXe X.prog X.w X.outer X.H_0 X.s_0 E' e' s2) s' → X.xe e s') (hE : ∀ c d H, E c d H → E' c d H)
    (hc : X.calm = true) (hN : X.N.Nodup) (hi : PI X tg iter wi) (ok : BlkOk X.N X.env.scope scope own)
    (hg : ∀ (s : Shared) (H : Hp) (C : Addr) (cl : List (Str × Addr)) (fp : List Addr), PG (X.blk s H scope (compEnvC scope cl C X.env) fp) tg g) (ht : ∀ (s : Shared) (H : Hp) (C : Addr) (cl : List (Str × Addr)) (fp : List Addr), PTs (X.blk s H scope (compEnvC scope cl C X.env) fp) ifs tt)
    (he : ∀ (s : Shared) (H : Hp) (C : Addr) (cl : List (Str × Addr)) (fp : List Addr), PE (X.blkE E s H scope (compEnvC scope cl C X.env) fp) elt te) (hs : ∀ x, foldedSetIterable iter X.env x = pure x := by intro _; rfl) :
    PE X (.ListComp elt [⟨tg, iter, ifs, 0⟩] scope pos) (tLc wi g tt te (own.map (·.2))) := by
  intro pins s σ H Q I h
  rw [eval_ListComp]
  refine lc_coreE hex hst hf hxe hE hc hN I hi ok hg ht he hs h fun D C s' m H' I' q hn f => ⟨m, hn, fun h'' sb => ?_⟩
  obtain ⟨f0, f1, f2, f3, f4, f5⟩ := f
  exact ⟨.ref D, H', I'.turned (t' := s'.toks) (fun b o hb e => (sb.2 b hb).trans e) f0 f1 f3 f4 f5, rfl, q⟩
end
end L2
end
section
set_option Elab.async false
set_option linter.all false
set_option maxRecDepth 100000
namespace L2
open PySem PySem.Spec PyProof.Rows
abbrev Cx.tryC (X : Cx) (E : XK) (pins : List (Addr × Obj)) : Cx := { X with pn := X.pn ++ pins, xe := fun e s' => ∃ (σ : St) (H : Hp) (s1 : Shared), Inv X pins σ H s1 ∧ CXe X.prog X.w X.stack H s1 E e s' }
abbrev Cx.hndC (X : Cx) (a : Addr) : Cx := { X with A := X.A.mark (some (.ref a)), calm := false, xe := fun _ _ => False }
section
variable {X : Cx} {E : XK} {pins pins' : List (Addr × Obj)} {σ : St} {H : Hp} {s : Shared} {a : Addr}
theorem Cx.Ok.tryC (ok : X.Ok) : (X.tryC E pins).Ok :=
  ⟨ok.mod, ok.kind, ok.glob, ok.blt, ok.above, ok.inj, ok.has, ok.cab, ok.hd, ok.frames, ok.stk, ok.exf, ok.bs, ok.bsz, ok.noex, ok.exfs, ok.funs, ok.frf⟩
theorem Cx.Ok.unTryC (ok : (X.tryC E pins).Ok) : X.Ok :=
  ⟨ok.mod, ok.kind, ok.glob, ok.blt, ok.above, ok.inj, ok.has, ok.cab, ok.hd, ok.frames, ok.stk, ok.exf, ok.bs, ok.bsz, ok.noex, ok.exfs, ok.funs, ok.frf⟩
theorem Cx.Ok.hndC (ok : X.Ok) : (X.hndC a).Ok :=
  ⟨ok.mod, ok.kind, ok.glob, ok.blt, ok.above, ok.inj, ok.has, ok.cab, (fun z => nomatch z), ok.frames, ok.stk, ok.exf, ok.bs, ok.bsz, ok.noex, ok.exfs, ok.funs, ok.frf⟩
theorem Inv.tryC (I : Inv X pins σ H s) : Inv (X.tryC E pins) [] σ H s :=
  ⟨I.ok.tryC, I.os, I.bare, I.base, I.loc, I.cell, I.free, I.freeC, fun p hp => I.pin p (by simpa using hp), I.hok, I.len⟩
theorem Inv.unTryC (I : Inv (X.tryC E pins) pins' σ H s) : Inv X pins σ H s :=
  ⟨I.ok.unTryC, I.os, I.bare, I.base, I.loc, I.cell, I.free, I.freeC, fun p hp => I.pin p (List.mem_append_left _ hp), I.hok, I.len⟩
theorem Inv.hndC (I : Inv X pins σ H s) : Inv (X.hndC a) pins σ H s := ⟨I.ok.hndC, I.os, I.bare, I.base, I.loc, I.cell, I.free, I.freeC, I.pin, I.hok, I.len⟩
theorem Inv.unHndC (ok : X.Ok) (I : Inv (X.hndC a) pins σ H s) : Inv X pins σ H s := ⟨ok, I.os, I.bare, I.base, I.loc, I.cell, I.free, I.freeC, I.pin, I.hok, I.len⟩
theorem passT : Passes (CXe X.prog X.w) (X.tryC E pins) E := fun _ σ H s1 e s' I h => ⟨σ, H, s1, I.unTryC, h⟩
theorem SP.unTryC {D : Ends} {f : Flow} {s' : Shared} (h : SP (X.tryC E pins) pins' D f s') : SP X pins D f s' := by
  cases f with
  | next => obtain ⟨σ', H', I, q⟩ := h; exact ⟨σ', H', I.unTryC, q⟩
  | brk => obtain ⟨σ', H', I, q⟩ := h; exact ⟨σ', H', I.unTryC, q⟩
  | cont => obtain ⟨σ', H', I, q⟩ := h; exact ⟨σ', H', I.unTryC, q⟩
  | ret u => obtain ⟨v, σ', H', I, r, q⟩ := h; exact ⟨v, σ', H', I.unTryC, r, q⟩
theorem SP.unHndC {D : Ends} {f : Flow} {s' : Shared} (ok : X.Ok) (h : SP (X.hndC a) pins D f s') : SP X pins D f s' := by
  cases f with
  | next => obtain ⟨σ', H', I, q⟩ := h; exact ⟨σ', H', I.unHndC ok, q⟩
  | brk => obtain ⟨σ', H', I, q⟩ := h; exact ⟨σ', H', I.unHndC ok, q⟩
  | cont => obtain ⟨σ', H', I, q⟩ := h; exact ⟨σ', H', I.unHndC ok, q⟩
  | ret u => obtain ⟨v, σ', H', I, r, q⟩ := h; exact ⟨v, σ', H', I.unHndC ok, r, q⟩
end
def tTry2 (tb t1 t2 : TS) (E : XK) (c1 c2 : Value) : TS := fun D σ H => tb D σ H ∧ ∀ cls H', E cls none H' → (cls = c1 ∧ ∀ σ', t1 D σ' H') ∨ (cls = c2 ∧ ∀ σ', t2 D σ' H')
section
variable {X : Cx} {E : XK} {x1 x2 : Str} {C1 C2 : Addr} {p1 p2 q1 q2 pos : Pos} {body suite1 suite2 : List Stmt} {b1 b2 : Stmt} {tb t1 t2 : TS}
theorem handle1 {pins : List (Addr × Obj)} {σ : St} {H H3 : Hp} {s s1 : Shared} {B : Heap} {a : Addr} {cls a0 c : Value} {x : Str} {p q : Pos} {b0 : Stmt} {suite : List Stmt} {t : TS} {D : Ends} {rest : List ExceptHandler} {b : Bool}
    (hex : X.ex = []) (hst : X.stack = X.env :: X.outer) (I : Inv X pins σ H s) (ho : s1.os = s.os) (hg : AllBare s1.gens) (fl : Fl X.prog X.w (frs X.stack) H s.heap H3 B s1.heap) (fw : Heap.FlyingW B X.stack a cls a0 s1.heap)
    (gl : Gl X x) (hm : X.mg x = some c) (hx : PySem.W.exmOne X.K cls c = some b) (hs : PSs (X.hndC a) (b0 :: suite) t) (hd : (x == ("__debug__" : Str)) = false)
    (yes : b = true → t D σ H3) (no : b = false → wpAny (model X.prog X.w) X.A (handleBy (.ref a) X.env rest) (SP X pins D) X.xe s1) :
    wpAny (model X.prog X.w) X.A (handleBy (.ref a) X.env (.ExceptHandler (some (.Name x p)) none (b0 :: suite) q :: rest)) (SP X pins D) X.xe s1 := by
  have J : ∀ h2, Fl X.prog X.w (frs X.stack) H s.heap H3 B h2 → Inv X pins σ H3 { s1 with heap := h2 } := fun h2 f2 => I.call' (s' := { s1 with heap := h2 }) (ch := []) ho f2.un f2.hok hg (fun _ z => nomatch z)
  have J1 : Inv X pins σ H3 s1 := J s1.heap fl
  obtain ⟨ob, hob, hc⟩ := fw.there
  have LT : PySem.W.Looks (model X.prog X.w) s1.heap (typeOf (.ref a)) cls := by
    subst hc
    exact (PySem.W.Looks.ld hob).andThen .now
  refine wpAny_handleBy_cons (codeAny_handlers_test (ld_glob (X := X.hndC a) J1.hndC gl hm ((PySem.W.exm_one J1.kIn LT hx).here ?_) hd)) (by intro z; cases z)
  cases b with
  | false => exact no rfl
  | true =>
    refine codeAny_handlers_suite (lands_againW fw fun h2 fw2 up => ?_)
    have fl2 := fl.on fw2.1 up (frs_notFields fw.2.2.1)
    refine thnF (hs pins { s1 with heap := h2 } σ H3 D (J h2 fl2).hndC (yes rfl)) fun f s3 hf => ?_
    exact hf.unHndC I.ok
theorem ps_try2 (hex : X.ex = []) (hst : X.stack = X.env :: X.outer) (hf : X.env.frame = some X.env.locals) (hb : ∀ pins, PSs (X.tryC E pins) body tb) (gl1 : Gl X x1) (gl2 : Gl X x2) (hm1 : X.mg x1 = some (.ref C1)) (hm2 : X.mg x2 = some (.ref C2))
    (m11 : PySem.W.exmOne X.K (.ref C1) (.ref C1) = some true) (m21 : PySem.W.exmOne X.K (.ref C2) (.ref C1) = some false) (m22 : PySem.W.exmOne X.K (.ref C2) (.ref C2) = some true)
    (h1 : ∀ a, PSs (X.hndC a) (b1 :: suite1) t1) (h2 : ∀ a, PSs (X.hndC a) (b2 :: suite2) t2) (hd1 : (x1 == ("__debug__" : Str)) = false := by decide) (hd2 : (x2 == ("__debug__" : Str)) = false := by decide) :
    PS X (.Try body [.ExceptHandler (some (.Name x1 p1)) none (b1 :: suite1) q1, .ExceptHandler (some (.Name x2 p2)) none (b2 :: suite2) q2] [] [] pos) (tTry2 tb t1 t2 E (.ref C1) (.ref C2)) := by
  rintro pins s σ H D I ⟨hq, hh⟩
  refine wpAny_Try_except (wpAny_mono (hb pins [] s σ H D I.tryC hq) (fun f s1 q => ?_) fun e s1 q => ?_)
  · have q := SP.unTryC q
    cases f with
    | next => exact wpAny_execs_nil q
    | brk => exact q
    | cont => exact q
    | ret u => exact q
  · obtain ⟨σ', H', s2, I2, a, cls, a0, H3, B, rfl, ho, hg, fl, fw, q⟩ := q
    have fw' := fw
    rw [hst] at fw'
    refine wpAny_looks_onW (by rw [I2.ok.frames, hst]) hf fw' fun h3 y1 y2 => wpAny_landsW (s := { s1 with heap := h3 }) y1 fun h4 z1 z2 => ?_
    have fl4 := fl.on z1.1 (y2.trans z2) (frs_notFields fw.2.2.1)
    have fw4 := z1
    rw [← hst] at fw4
    rcases hh cls H3 q with ⟨rfl, k⟩ | ⟨rfl, k⟩
    · exact handle1 (s1 := { s1 with heap := h4 }) hex hst I2 ho hg fl4 fw4 gl1 hm1 m11 (h1 a) hd1 (fun _ => k σ') fun z => nomatch z
    · refine handle1 (s1 := { s1 with heap := h4 }) hex hst I2 ho hg fl4 fw4 gl1 hm1 m21 (h1 a) hd1 (fun z => nomatch z) fun _ => ?_
      exact handle1 (s1 := { s1 with heap := h4 }) hex hst I2 ho hg fl4 fw4 gl2 hm2 m22 (h2 a) hd2 (fun _ => k σ') fun z => nomatch z
end
end L2
end
section
set_option Elab.async false
set_option linter.all false
set_option maxRecDepth 100000
namespace L2
open PySem PySem.Spec PyProof.Rows
section
variable {X : Cx}
def rExtendT (K : PySem.W.Frag) : V → List V → Hp → VK → Prop := fun x vs H Q => ∃ l b xs zs, x = .ref l ∧ vs = [.ref b] ∧ H l = some (.lst xs) ∧ SqT K H b zs ∧ xs.length + zs.length ≤ sizeLine ∧ Q .non (upd H l (.lst (xs ++ zs)))
theorem mt_extendT : MtM X "list.extend" (rExtendT X.K) := by
  intro pins s σ H x vs v us Q I rx rv h
  obtain ⟨l, b, xs, zs, rfl, rfl, hH, hB, hz, q⟩ := h
  cases rx
  obtain ⟨u, rfl, ru⟩ := rv.one
  cases ru
  obtain ⟨z, its, n, r, hl, e⟩ := I.lstM hH
  obtain ⟨its2, r2, ht, hz2⟩ := I.tuple hB
  obtain ⟨ob, e2, hc, n2, hd⟩ := ht
  have hl2 := r2.length
  refine wpAny_call_entry F.slot_list_extend ⟨_, e, rfl⟩ F.entry_list_extend ?_ (F.args_list_extend_2 _ _)
  show wpAny _ _ (Builtin.List.listExtendWith (.ref l) (.ref b) .none) _ _ s
  unfold Builtin.List.listExtendWith
  refine wpAny_bind (wpAny_typeOf (T := "tuple") ⟨ob, e2, hc⟩ ?_)
  have ht : (Value.type "tuple" == Value.type "tuple") = true := by rfl
  rw [if_pos (by rw [ht]; simp)]
  refine wpAny_bind (listItems_at e2 hd ?_)
  refine wpAny_bind (listItems_at e rfl ?_)
  have hsz : its.toArray.size + its2.toArray.size ≤ sizeLine := by rw [List.size_toArray, List.size_toArray]; omega
  rw [if_neg (by rw [notLongL hsz, Bool.and_false]; exact Bool.false_ne_true)]
  refine wpAny_bind (listUpdate_at e rfl ?_ (by rw [List.size_toArray]; omega) (by rw [Array.size_append]; omega))
  refine wpAny_pure ⟨.none, rfl, .non, _, I.lset (its' := its ++ its2) (t' := s.toks) hH e (by simp) (r.append r2) ?_, rfl, q⟩
  rw [List.length_append]
  omega
def alt {α : Type} : List α → List α
  | [] => []
  | [a] => [a]
  | a :: _ :: r => a :: alt r
theorem alt_len {α : Type} : ∀ l : List α, (alt l).length ≤ l.length
  | [] => Nat.le_refl _
  | [_] => Nat.le_refl _
  | a :: b :: r => by
    have := alt_len r
    show (alt r).length + 1 ≤ r.length + 1 + 1
    omega
theorem alt_pick {α : Type} : ∀ l : List α, (List.range ((l.length + 1) / 2)).filterMap (fun k => l[2 * k]?) = alt l
  | [] => by simp [alt]
  | [a] => by simp [alt]
  | a :: b :: r => by
    have ih := alt_pick r
    have e : ((a :: b :: r).length + 1) / 2 = (r.length + 1) / 2 + 1 := by
      show (r.length + 1 + 1 + 1) / 2 = _
      omega
    rw [e, List.range_succ_eq_map, List.filterMap_cons]
    show (a :: _ : List α) = a :: alt r
    rw [← ih, List.filterMap_map]
    rfl
theorem slicePick_two (its : List Value) (k : Nat) : slicePick its.toArray (some (k : Int)) none (some 2) = (alt (its.drop k)).toArray := by
  unfold slicePick
  have hb : sliceBounds (some (k : Int)) none (some 2) its.toArray.size = (((min k its.length : Nat) : Int), (its.length : Int), 2) := by
    simp only [sliceBounds, Option.getD_some, show (2 : Int) > 0 by decide, if_true, List.size_toArray]
    rw [if_neg (by omega)]
    refine Prod.ext ?_ rfl
    show max 0 (min (k : Int) (its.length : Int)) = _
    omega
  rw [hb]
  show ((sliceRange ((min k its.length : Nat) : Int) (its.length : Int) 2).filterMap (its.toArray[·]?)).toArray = _
  refine congrArg List.toArray ?_
  rw [← alt_pick, List.length_drop]
  unfold sliceRange
  simp only [show (2 : Int) > 0 by decide, if_true]
  have hc : (if ((min k its.length : Nat) : Int) < (its.length : Int) then ((its.length : Int) - ((min k its.length : Nat) : Int) + 2 - 1) / 2 else 0).toNat = (its.length - k + 1) / 2 := by
    split <;> omega
  rw [hc, List.filterMap_map]
  by_cases hk : k ≤ its.length
  · refine congrArg (fun f => List.filterMap f _) (funext fun j => ?_)
    show its.toArray[((((min k its.length : Nat) : Int)) + 2 * (j : Int)).toNat]? = _
    rw [List.getElem?_drop, List.getElem?_toArray, show ((((min k its.length : Nat) : Int)) + 2 * (j : Int)).toNat = k + 2 * j by omega]
  · rw [show (its.length - k + 1) / 2 = 0 by omega]
    rfl
theorem Vals.alt : ∀ {xs : List V} {us : List Value}, Vals xs us → Vals (alt xs) (alt us)
  | _, _, .nil => .nil
  | _, _, .cons r .nil => .cons r .nil
  | _, _, .cons r (.cons _ t) => .cons r (Vals.alt t)
def tStep2 (K : PySem.W.Frag) (k : Nat) (te : TE) : TE := fun σ H Q => te σ H fun x H1 => ∃ a xs, x = .ref a ∧ SqL K H1 a xs ∧ ∀ p, H1 p = none → Q (.ref p) (upd H1 p (.lst (alt (xs.drop k))))
theorem pe_step2 {e : Expr} {te : TE} {k : Nat} {kk kj : Nat} {p1 p2 p3 pos : Pos} (he : PE X e te) : PE X (.Subscript e (.Slice (some (.Constant (.int (k : Int)) kk p1)) none (some (.Constant (.int 2) kj p3)) p2) pos) (tStep2 X.K k te) := by
  intro pins s σ H Q I h
  refine Subscript_ (thn (he pins s σ H _ I h) fun v s1 ⟨x, H1, I1, r1, a, xs, ex, hx, q⟩ => ?_)
  subst ex
  obtain rfl : v = Value.ref a := r1
  refine wpAny_Slice ?_
  rw [evalPart_some]
  refine wpAny_Constant_int ?_
  rw [evalPart_none]
  refine wpAny_pure ?_
  rw [evalPart_some]
  refine wpAny_Constant_int ?_
  dsimp only
  have I4 : Inv X pins σ H1 { s1 with heap := s1.heap.push { cls := .type "slice", data := .fields #[.int (k : Int) s1.toks, .none, .int 2 (s1.toks + 1)] }, toks := s1.toks + 1 + 1 } := I1.kept (t' := s1.toks + 1 + 1) fun b ob q => Heap.get?_push_of_some _ q
  obtain ⟨its, r, ht, hz⟩ := I4.list hx
  have hlen := r.length
  have hg : wpAny (model X.prog X.w) X.A (getItem (.ref a) (.ref s1.heap.objs.size)) (EP X pins σ Q) X.xe { s1 with heap := s1.heap.push { cls := .type "slice", data := .fields #[.int (k : Int) s1.toks, .none, .int 2 (s1.toks + 1)] }, toks := s1.toks + 1 + 1 } := by
    refine wpAny_getItem_list_slice ht.isList (Heap.IsSliceOf.new ..) (.int (k : Int) _) .none (.int 2 _) (by simp) ?_ (by rw [List.size_toArray]; omega)
    rw [slicePick_two]
    refine ⟨.ref _, _, I4.laid (t' := s1.toks + 1 + 1) (o := .lst (alt (xs.drop k))) (fun b ob q => Heap.get?_push_of_some _ q) (Nat.le_refl _) ?_, rfl, q _ (I4.hok.fresh (Nat.le_refl _))⟩
    exact ⟨Nat.le_trans (alt_len _) (by rw [List.length_drop]; omega), _, 0, (r.drop k).alt, Heap.get?_push_size _ rfl⟩
  exact tail_any (ops := [.ref a, .ref s1.heap.objs.size]) ht.isList.typeIs slot_list_getitem.lookup hg (by with_unfolding_all rfl)
end
end L2
end
section
set_option Elab.async false
set_option linter.all false
set_option maxRecDepth 100000
namespace L2
open PySem PySem.Spec PyProof.Rows
structure Neat (t : SetTable) : Prop where
  rise : t.place.toList.Pairwise (· < ·)
  dum : t.dummies = #[]
theorem below_go {xs : Array Nat} {j : Nat} (hs : xs.toList.Pairwise (· < ·)) : ∀ (fuel lo hi : Nat), lo ≤ hi → hi ≤ xs.size → hi - lo ≤ fuel → (∀ i v, i < lo → xs[i]? = some v → v < j) → (∀ i v, hi ≤ i → xs[i]? = some v → j ≤ v) →
    SetTable.below.go xs j fuel lo hi ≤ xs.size ∧ (∀ i v, i < SetTable.below.go xs j fuel lo hi → xs[i]? = some v → v < j) ∧ (∀ i v, SetTable.below.go xs j fuel lo hi ≤ i → xs[i]? = some v → j ≤ v) := by
  have mono : ∀ (i k : Nat) (v w : Nat), i ≤ k → xs[i]? = some v → xs[k]? = some w → v ≤ w := by
    intro i k v w hik e1 e2
    rw [← Array.getElem?_toList] at e1 e2
    obtain ⟨h1, q1⟩ := List.getElem?_eq_some_iff.mp e1
    obtain ⟨h2, q2⟩ := List.getElem?_eq_some_iff.mp e2
    rcases Nat.lt_or_ge i k with h | h
    · have := List.pairwise_iff_getElem.mp hs i k h1 h2 h
      rw [q1, q2] at this
      exact Nat.le_of_lt this
    · have : i = k := Nat.le_antisymm hik h
      subst this
      rw [q1] at q2
      exact Nat.le_of_eq q2
  intro fuel
  induction fuel with
  | zero =>
    intro lo hi h1 h2 h3 a b
    have e : lo = hi := by omega
    subst e
    exact ⟨h2, a, b⟩
  | succ f ih =>
    intro lo hi h1 h2 h3 a b
    unfold SetTable.below.go
    by_cases hlt : lo < hi
    · rw [if_pos hlt]
      have hm : (lo + hi) / 2 < xs.size := by omega
      have em : xs[(lo + hi) / 2]? = some xs[(lo + hi) / 2] := Array.getElem?_eq_getElem hm
      have eg : xs.getD ((lo + hi) / 2) j = xs[(lo + hi) / 2] := by
        rw [Array.getD_eq_getD_getElem?, em]
        rfl
      dsimp only
      rw [eg]
      by_cases hc : xs[(lo + hi) / 2] < j
      · rw [if_pos hc]
        refine ih _ _ (by omega) h2 (by omega) (fun i v hi' e => ?_) b
        exact Nat.lt_of_le_of_lt (mono i _ v _ (by omega) e em) hc
      · rw [if_neg hc]
        refine ih _ _ (by omega) (by omega) (by omega) a fun i v hi' e => ?_
        exact Nat.le_trans (Nat.le_of_not_lt hc) (mono _ i _ v hi' em e)
    · rw [if_neg hlt]
      have e : lo = hi := by omega
      subst e
      exact ⟨h2, a, b⟩
theorem below_ok {xs : Array Nat} (hs : xs.toList.Pairwise (· < ·)) (j : Nat) : SetTable.below xs j ≤ xs.size ∧ (∀ i v, i < SetTable.below xs j → xs[i]? = some v → v < j) ∧ (∀ i v, SetTable.below xs j ≤ i → xs[i]? = some v → j ≤ v) := by
  refine below_go hs xs.size 0 xs.size (Nat.zero_le _) (Nat.le_refl _) (by omega) (fun i v h => absurd h (Nat.not_lt_zero _)) fun i v h e => ?_
  obtain ⟨h1, _⟩ := Array.getElem?_eq_some_iff.mp e
  omega
theorem below_eq {xs : Array Nat} (hs : xs.toList.Pairwise (· < ·)) {j k : Nat} (hk : k ≤ xs.size) (a : ∀ i v, i < k → xs[i]? = some v → v < j) (b : ∀ i v, k ≤ i → xs[i]? = some v → j ≤ v) : SetTable.below xs j = k := by
  obtain ⟨h1, h2, h3⟩ := below_ok hs j
  rcases Nat.lt_trichotomy (SetTable.below xs j) k with h | h | h
  · have hx : SetTable.below xs j < xs.size := by omega
    have e := Array.getElem?_eq_getElem hx
    have := a _ _ h e
    have := h3 _ _ (Nat.le_refl _) e
    omega
  · exact h
  · have hx : k < xs.size := by omega
    have e := Array.getElem?_eq_getElem hx
    have := b _ _ (Nat.le_refl _) e
    have := h2 _ _ h e
    omega
theorem rise_insert {xs : Array Nat} (hs : xs.toList.Pairwise (· < ·)) {j : Nat} (hn : xs[SetTable.below xs j]? ≠ some j) : (SetTable.insertAt xs (SetTable.below xs j) j).toList.Pairwise (· < ·) := by
  obtain ⟨h1, h2, h3⟩ := below_ok hs j
  rw [SetTable.toList_insertAt]
  have after : ∀ v ∈ xs.toList.drop (SetTable.below xs j), j < v := fun v hv => by
    obtain ⟨i, e⟩ := List.getElem?_of_mem hv
    rw [List.getElem?_drop, Array.getElem?_toList] at e
    have h4 := h3 _ _ (Nat.le_add_right _ i) e
    rcases Nat.lt_or_eq_of_le h4 with h | h
    · exact h
    · cases i with
      | zero =>
        rw [← h] at e
        exact absurd e hn
      | succ i =>
        have hlt : SetTable.below xs j < xs.size := by
          obtain ⟨h5, _⟩ := Array.getElem?_eq_some_iff.mp e
          omega
        have e0 := Array.getElem?_eq_getElem hlt
        have h5 := h3 _ _ (Nat.le_refl _) e0
        have e1 := e0
        have e2 := e
        rw [← Array.getElem?_toList] at e1 e2
        obtain ⟨q1, q2⟩ := List.getElem?_eq_some_iff.mp e1
        obtain ⟨q3, q4⟩ := List.getElem?_eq_some_iff.mp e2
        have := List.pairwise_iff_getElem.mp hs _ _ q1 q3 (by omega)
        rw [q2, q4] at this
        omega
  refine List.pairwise_append.mpr ⟨hs.sublist (List.take_sublist _ _), List.pairwise_cons.mpr ⟨after, hs.sublist (List.drop_sublist _ _)⟩, fun u hu v hv => ?_⟩
  obtain ⟨i, e⟩ := List.getElem?_of_mem hu
  have hi : i < SetTable.below xs j := by
    obtain ⟨q, _⟩ := List.getElem?_eq_some_iff.mp e
    rw [List.length_take] at q
    omega
  rw [List.getElem?_take_of_lt hi, Array.getElem?_toList] at e
  have hu' := h2 _ _ hi e
  rcases List.mem_cons.mp hv with rfl | hv
  · exact hu'
  · exact Nat.lt_trans hu' (after v hv)
theorem has_nil (j : Nat) : SetTable.has #[] j = false := by
  unfold SetTable.has
  simp
theorem probe_go {t : SetTable} (hd : t.dummies = #[]) {h : Int} : ∀ (fuel : Nat) (p : SetTable.Probe) (j : Nat) (d : Option Nat), p.dummy = none → SetTable.probe.go t (fun _ => h + 1) h fuel p = some (.empty j d) → d = none ∧ t.place[SetTable.below t.place j]? ≠ some j := by
  intro fuel
  induction fuel with
  | zero => intro p j d _ e; cases e
  | succ f ih =>
    intro p j d hp e
    unfold SetTable.probe.go at e
    unfold SetTable.slot at e
    rw [hd, has_nil] at e
    dsimp only at e
    have adv : (t.advance p).dummy = none := by
      unfold SetTable.advance
      split <;> exact hp
    by_cases hc : (t.place[SetTable.below t.place p.j]? == some p.j) = true
    · rw [if_pos hc] at e
      dsimp only at e
      rw [if_neg (by simp; omega)] at e
      exact ih _ j d adv e
    · rw [if_neg hc, if_neg Bool.false_ne_true] at e
      dsimp only at e
      have e := Option.some.inj e
      injection e with e1 e2
      subst e1
      rw [← e2]
      exact ⟨hp, fun z => hc (by rw [z]; simp)⟩
theorem standIn_neat (t : SetTable) (n : Nat) : Neat (t.standIn n) := by
  refine ⟨?_, rfl⟩
  show (Array.range n).toList.Pairwise (· < ·)
  rw [Array.toList_range]
  exact List.pairwise_lt_range
theorem orStandIn_neat {t : SetTable} (h : Neat t) (n : Nat) : Neat (t.orStandIn n) := by
  unfold SetTable.orStandIn
  split
  · exact h
  · exact standIn_neat t n
theorem orStandIn_led (t : SetTable) (n : Nat) : (t.orStandIn n).led = t.led := by
  unfold SetTable.orStandIn
  split <;> rfl
theorem layNew_neat {t : SetTable} (hn : Neat t) (es : Array (Int × Value)) (h : Int) (x : Value) : Neat (layNew t es h x).2.1 := by
  unfold layNew
  split
  · rename_i slot wd e
    dsimp only
    refine orStandIn_neat ?_ _
    unfold SetTable.freeSlot at e
    split at e
    · rename_i j d ep
      unfold SetTable.probe at ep
      obtain ⟨q1, q2⟩ := probe_go hn.dum _ _ j d rfl ep
      subst q1
      have e := Option.some.inj e
      have e1 : j = slot := congrArg Prod.fst e
      subst e1
      unfold SetTable.put
      dsimp only
      refine ⟨rise_insert hn.rise q2, ?_⟩
      show (if SetTable.has t.dummies j = true then _ else t.dummies) = #[]
      rw [hn.dum, has_nil, if_neg Bool.false_ne_true]
    · cases e
  · exact standIn_neat _ _
theorem layNew_led (t : SetTable) (es : Array (Int × Value)) (h : Int) (x : Value) : (layNew t es h x).2.1.led = t.led := by
  unfold layNew
  split
  · dsimp only
    rw [orStandIn_led]
    rfl
  · rfl
theorem laid_neat {mask finger moves : Nat} {led plain : Bool} {hs : Array Int} {t : SetTable} {o : Array Nat} (h : SetTable.laid mask finger moves led plain hs = some (t, o)) : Neat t ∧ t.led = led := by
  unfold SetTable.laid at h
  obtain ⟨ow, e1, e2⟩ := Option.bind_eq_some_iff.mp h
  have e2 := Option.some.inj e2
  have e3 := congrArg Prod.fst e2
  dsimp only at e3
  subst e3
  refine ⟨⟨?_, rfl⟩, rfl⟩
  show (List.map Prod.fst _).toArray.toList.Pairwise (· < ·)
  rw [List.map_filterMap]
  refine List.Pairwise.filterMap (R := (· < ·)) _ (fun a a' hlt b hb b' hb' => ?_) List.pairwise_lt_range
  simp only [Option.map_map, Option.map_eq_some_iff] at hb hb'
  obtain ⟨_, _, rfl⟩ := hb
  obtain ⟨_, _, rfl⟩ := hb'
  exact hlt
theorem relayAll_neat {t : SetTable} (es : Array (Int × Value)) (wanted : Nat) : Neat (relayAll t es wanted).2.1 ∧ (relayAll t es wanted).2.1.led = t.led := by
  unfold relayAll
  split
  · rename_i t' o e
    dsimp only
    split
    · unfold SetTable.relaid at e
      exact laid_neat e
    · exact ⟨standIn_neat _ _, rfl⟩
  · exact ⟨standIn_neat _ _, rfl⟩
theorem plainOff_neat {t : SetTable} (h : Neat t) : Neat { t with plain := false } := ⟨h.rise, h.dum⟩
end L2
end
section
set_option Elab.async false
set_option linter.all false
set_option maxRecDepth 100000
namespace L2
open PySem PySem.Spec PyProof.Rows
def intOf : Value → Int
  | .int n _ => n
  | _ => 0
def SetI (prog : Program) (w : World) (h : Heap) (a : Addr) (ks : List Int) : Prop :=
  ∃ o es ep t, h.get? a = some o ∧ o.ExactSet ∧ o.data = .set es ep t ∧ ElemsOf (intKind prog w) es.toList ∧ (es.toList.map fun e => intOf e.2).Perm ks ∧ ks.Nodup ∧ es.size < scanBound ∧ t.fits es.size = true ∧ Neat t ∧ t.led = !w.params.followText "set-order"
section
variable {prog : Program} {w : World} {A : Around} {E : Value → Shared → Prop} {s : Shared}
theorem isInt_iff {k : Int} {v : Value} : (intKind prog w).is k v = true ↔ ∃ t, v = .int k t := by
  constructor
  · intro h
    exact Value.isInt_shape h
  · rintro ⟨t, rfl⟩
    exact intKind_is _ _ _ _
theorem elems_ints {l : List (Int × Value)} (h : ElemsOf (intKind prog w) l) : ∀ e ∈ l, ∃ t, e.2 = .int (intOf e.2) t := fun e he => by
  obtain ⟨⟨k, hk, _⟩, _⟩ := h e he
  obtain ⟨t, q⟩ := isInt_iff.mp hk
  exact ⟨t, by rw [q]; rfl⟩
theorem elems_mem {l : List (Int × Value)} (h : ElemsOf (intKind prog w) l) (k : Int) : (∃ e ∈ l, (intKind prog w).is k e.2 = true) ↔ k ∈ l.map fun e => intOf e.2 := by
  constructor
  · rintro ⟨e, he, hk⟩
    obtain ⟨t, q⟩ := isInt_iff.mp hk
    exact List.mem_map.mpr ⟨e, he, by rw [q]; rfl⟩
  · intro hm
    obtain ⟨e, he, q⟩ := List.mem_map.mp hm
    obtain ⟨t, q2⟩ := elems_ints h e he
    exact ⟨e, he, isInt_iff.mpr ⟨t, by rw [q2, q]⟩⟩
theorem SetI.len {h : Heap} {a : Addr} {ks : List Int} (x : SetI prog w h a ks) : ks.length < scanBound := by
  obtain ⟨o, es, ep, t, _, _, _, _, hp, _, hb, _⟩ := x
  have := hp.length_eq
  rw [List.length_map, Array.length_toList] at this
  omega
theorem SetI.at {h h' : Heap} {a : Addr} {ks : List Int} (x : SetI prog w h a ks) (k : ∀ o, h.get? a = some o → h'.get? a = some o) : SetI prog w h' a ks := by
  obtain ⟨o, es, ep, t, ho, r⟩ := x
  exact ⟨o, es, ep, t, k o ho, r⟩
theorem SetI.store {h : Heap} {a : Addr} {o : Obj} {es es' : Array (Int × Value)} {ep : Nat} {t t' : SetTable} {ks : List Int} (ho : h.get? a = some o) (hx : o.ExactSet) (hd : o.data = .set es ep t)
    (hel : ElemsOf (intKind prog w) es'.toList) (hp : (es'.toList.map fun e => intOf e.2).Perm ks) (hnd : ks.Nodup) (hb : es'.size < scanBound) (hf : t'.fits es'.size = true) (hn : Neat t') (hl : t'.led = !w.params.followText "set-order") :
    (h.update a (Obj.putSet es' t')).get? a = some { o with data := .set es' (ep + 1) t' } ∧ SetI prog w (h.update a (Obj.putSet es' t')) a ks := by
  have z := Heap.get?_update_self (Obj.putSet es' t') ho (by rw [putSet_of es' t' hd]; rfl)
  rw [putSet_of es' t' hd] at z
  exact ⟨z, _, es', ep + 1, t', z, hx, rfl, hel, hp, hnd, hb, hf, hn, hl⟩
theorem gw_ok {Q : Unit → Shared → Prop} (b : Bool) (h : Q () s) : wpAny (model prog w) A (match b with | true => rule "set.scan.the-table-gave-way" | false => pure ()) Q E s := by
  cases b
  · exact wpAny_pure h
  · exact wpAny_rule h
theorem setTail {g : Bool → Sem Unit} (hg : ∀ (b : Bool) (s1 : Shared) (Q1 : Unit → Shared → Prop), Q1 () s1 → wpAny (model prog w) A (g b) Q1 E s1) {a : Addr} {o : Obj} {es es1 : Array (Int × Value)} {ep : Nat} {t t2 : SetTable} {ks : List Int} {wd : Bool} {R : Option Bool → Shared → Prop}
    (ho : s.heap.get? a = some o) (hx : o.ExactSet) (hd : o.data = .set es ep t) (hel : ElemsOf (intKind prog w) es1.toList) (hp : (es1.toList.map fun e => intOf e.2).Perm ks) (hnd : ks.Nodup) (hb : es1.size < scanBound) (hf : t2.fits es1.size = true) (hn : Neat t2)
    (hl : t2.led = !w.params.followText "set-order") (h : ∀ h2, Heap.SameBut a s.heap h2 → SetI prog w h2 a ks → R (some true) { s with heap := h2 }) :
    wpAny (model prog w) A (do
        storeSet a es1 t2
        if (!wd && t2.tooFull) = true then do
            g (relayAll t2 es1 (SetTable.grown es1.size)).2.2
            storeSet a (relayAll t2 es1 (SetTable.grown es1.size)).1 (relayAll t2 es1 (SetTable.grown es1.size)).2.1
            pure (some true)
          else pure (some true)) R E s := by
  refine wpAny_bind (wpAny_storeSet_of ho hd ?_ (fits_of_scanBound hb))
  obtain ⟨ho1, hS1⟩ := SetI.store (prog := prog) (w := w) ho hx hd hel hp hnd hb hf hn hl
  have sb1 := Heap.SameBut.update s.heap a (Obj.putSet es1 t2)
  split
  · obtain ⟨n3, l3⟩ := relayAll_neat (t := t2) es1 (SetTable.grown es1.size)
    have p3 := relayAll_perm t2 es1 (SetTable.grown es1.size)
    have f3 := relayAll_fits t2 es1 (SetTable.grown es1.size)
    generalize relayAll t2 es1 (SetTable.grown es1.size) = y at n3 l3 p3 f3 ⊢
    obtain ⟨es3, t3, gv⟩ := y
    dsimp only at n3 l3 p3 f3 ⊢
    have z3 : es3.size = es1.size := by
      have := p3.length_eq
      rwa [Array.length_toList, Array.length_toList] at this
    have b3 : es3.size < scanBound := by omega
    refine wpAny_bind (hg _ _ _ ?_)
    refine wpAny_bind (wpAny_storeSet_of ho1 rfl ?_ (fits_of_scanBound b3))
    obtain ⟨_, hS3⟩ := SetI.store (prog := prog) (w := w) ho1 hx rfl (hel.perm p3) ((p3.map _).trans hp) hnd b3 f3 n3 (l3.trans hl)
    exact wpAny_pure (h _ (sb1.trans (Heap.SameBut.update _ a _)) hS3)
  · exact wpAny_pure (h _ sb1 hS1)
theorem setAdd_I {a : Addr} {k : Int} {tk : Tok} {ks : List Int} {Q : Bool → Shared → Prop} (hS : SetI prog w s.heap a ks) (hr : ks.length + 1 < scanBound)
    (h : ∀ h2, Heap.SameBut a s.heap h2 → SetI prog w h2 a (if k ∈ ks then ks else ks ++ [k]) → ∀ b, Q b { s with heap := h2 }) :
    wpAny (model prog w) A (setAddHashed a (.int k tk) ((intKind prog w).hash k)) Q E s := by
  obtain ⟨o, es, ep, t, ho, hx, hd, hel, hp, hnd, hb, hf, hn, hl⟩ := id hS
  have hkey : (intKind prog w).is k (.int k tk) = true := intKind_is _ _ _ _
  have hsc : (Value.int k tk).scannable = true := rfl
  have hz : es.size = ks.length := by
    have := hp.length_eq
    rwa [List.length_map, Array.length_toList] at this
  unfold setAddHashed setAddHashedIn
  refine wpAny_holding (wpAny_bind (wpAny_setState_of ho hd hf ?_))
  dsimp only
  rw [byScan_of hsc hb hel]
  simp only [↓reduceIte]
  unfold setAddByScan
  refine wpAny_bind (wpAny_bind (wpAny_rule (wpAny_bind (wpAny_setScan_of hkey ho hd hf hel ?_))))
  cases hf1 : List.findIdx? (fun e => (intKind prog w).is k e.2) es.toList with
  | some j =>
    dsimp only
    obtain ⟨hj, hpj, _⟩ := List.findIdx?_eq_some_iff_getElem.mp hf1
    have hm : k ∈ ks := hp.mem_iff.mp ((elems_mem hel k).mp ⟨_, List.getElem_mem hj, hpj⟩)
    refine wpAny_pure (wpAny_pure ?_)
    exact h s.heap (Heap.SameBut.refl a s.heap) (by rw [if_pos hm]; exact hS) _
  | none =>
    dsimp only
    have hm : ¬ k ∈ ks := fun hm => by
      obtain ⟨e, he, q⟩ := (elems_mem hel k).mpr (hp.mem_iff.mpr hm)
      have := List.findIdx?_eq_none_iff.mp hf1 e he
      rw [q] at this
      cases this
    rw [if_neg hm] at h
    have p1 := layNew_perm t es ((intKind prog w).hash k) (.int k tk)
    have f1 := layNew_fits t es ((intKind prog w).hash k) (.int k tk)
    have n1 := layNew_neat hn es ((intKind prog w).hash k) (.int k tk)
    have l1 := (layNew_led t es ((intKind prog w).hash k) (.int k tk)).trans hl
    generalize layNew t es ((intKind prog w).hash k) (.int k tk) = y at p1 f1 n1 l1 ⊢
    obtain ⟨es1, t1, wd, gv⟩ := y
    dsimp only at p1 f1 n1 l1 ⊢
    rw [Array.toList_push] at p1
    have hel1 : ElemsOf (intKind prog w) es1.toList := (hel.push hkey hsc).perm p1
    have hp1 : (es1.toList.map fun e => intOf e.2).Perm (ks ++ [k]) := by
      refine (p1.map _).trans ?_
      rw [List.map_append]
      exact hp.append_right _
    have hz1 : es1.size < scanBound := by
      have := p1.length_eq
      rw [List.length_append, Array.length_toList, Array.length_toList, List.length_singleton] at this
      omega
    have nd1 : (ks ++ [k]).Nodup := nd_snoc hnd hm
    refine wpAny_bind (gw_ok gv ?_)
    split
    · refine wpAny_bind ?_
      rw [hashByValue_scannable 8 hsc]
      refine wpAny_pure ?_
      refine setTail (fun b s1 Q1 q => gw_ok b q) ho hx hd hel1 hp1 nd1 hz1 ?_ ?_ ?_ fun h2 sb hS2 => ?_
      · split
        · exact f1
        · exact SetTable.fits_plain_off f1
      · split
        · exact n1
        · exact plainOff_neat n1
      · split
        · exact l1
        · exact l1
      · exact wpAny_pure (h h2 sb hS2 true)
    · refine wpAny_bind (wpAny_pure ?_)
      simp only [↓reduceIte]
      refine setTail (fun b s1 Q1 q => gw_ok b q) ho hx hd hel1 hp1 nd1 hz1 f1 n1 l1 fun h2 sb hS2 => ?_
      exact wpAny_pure (h h2 sb hS2 true)
end
end L2
end
section
set_option Elab.async false
set_option linter.all false
set_option maxRecDepth 100000
namespace L2
open PySem PySem.Spec PyProof.Rows
def addI (ks : List Int) (k : Int) : List Int := if k ∈ ks then ks else ks ++ [k]
def onceI (ns : List Int) : List Int := ns.foldl addI []
theorem addI_mem (ks : List Int) (k z : Int) : z ∈ addI ks k ↔ z ∈ ks ∨ z = k := by
  unfold addI
  split
  · rename_i h
    exact ⟨.inl, fun q => q.elim id fun e => e ▸ h⟩
  · rw [List.mem_append, List.mem_singleton]
theorem addI_nd {ks : List Int} (h : ks.Nodup) (k : Int) : (addI ks k).Nodup := by
  unfold addI
  split
  · exact h
  · rename_i hk
    exact nd_snoc h hk
theorem addI_len (ks : List Int) (k : Int) : (addI ks k).length ≤ ks.length + 1 := by
  unfold addI
  split
  · omega
  · rw [List.length_append, List.length_singleton]
    exact Nat.le_refl _
theorem foldI_mem : ∀ (ns ks : List Int) (z : Int), z ∈ ns.foldl addI ks ↔ z ∈ ks ∨ z ∈ ns
  | [], ks, z => by simp
  | k :: r, ks, z => by
    rw [List.foldl_cons, foldI_mem r, addI_mem, List.mem_cons, or_assoc]
theorem foldI_nd : ∀ (ns ks : List Int), ks.Nodup → (ns.foldl addI ks).Nodup
  | [], _, h => h
  | k :: r, ks, h => foldI_nd r _ (addI_nd h k)
theorem foldI_len : ∀ (ns ks : List Int), (ns.foldl addI ks).length ≤ ks.length + ns.length
  | [], _ => Nat.le_refl _
  | k :: r, ks => by
    have h1 := foldI_len r (addI ks k)
    have h2 := addI_len ks k
    rw [List.foldl_cons, List.length_cons]
    omega
theorem onceI_mem (ns : List Int) (z : Int) : z ∈ onceI ns ↔ z ∈ ns := by
  unfold onceI
  rw [foldI_mem]
  simp
theorem onceI_nd (ns : List Int) : (onceI ns).Nodup := foldI_nd ns [] List.nodup_nil
theorem onceI_len (ns : List Int) : (onceI ns).length ≤ ns.length := by
  have := foldI_len ns []
  simpa [onceI] using this
theorem onceI_snoc (ns : List Int) (z : Int) : onceI (ns ++ [z]) = addI (onceI ns) z := by
  unfold onceI
  rw [List.foldl_append]
  rfl
theorem take_next {α : Type} {l : List α} {i : Nat} {x : α} (h : l[i]? = some x) : l.take (i + 1) = l.take i ++ [x] := by
  rw [List.take_add_one, h]
  rfl
section
variable {prog : Program} {w : World} {A : Around} {R : Result → Shared → Prop} {I : Addr} {fp wr : List Addr} {G : Array GenState → Array GenState → Prop} {P : Nat → Value → Prop} {St : Nat → Shared → Prop}
theorem setLoop_I {ns : List Int} (W : WalksS prog w A.in1 I fp wr G ns.length P St) (S : Addr) (hSf : S ∉ fp) (hv : ∀ i v, P i v → ∃ t z, ns[i]? = some z ∧ v = .int z t) (hb : ns.length + 1 < scanBound) :
    ∀ (k i : Nat) (s : Shared), ns.length - i = k → i ≤ ns.length → St i s → SetI prog w s.heap S (onceI (ns.take i)) →
      (∀ s2, Moved (S :: wr) G s s2 → SetI prog w s2.heap S (onceI ns) → R (.ok (.ret .none)) s2) →
      codeAny (model prog w) A (.builtin "set.update.loop" ⟨[.ref S, .ref I], []⟩) R s := by
  have nSw : S ∉ wr := fun q => hSf (W.sub _ q)
  have up : ∀ b ∈ wr, b ∈ S :: wr := fun b q => List.mem_cons_of_mem _ q
  intro k
  induction k with
  | zero =>
    intro i s hk hi st hS hR
    have e : i = ns.length := by omega
    subst e
    rw [List.take_length] at hS
    refine codeAny_builtin F.entry_set_update_loop ?_
    rw [Around.under_plainId F.plain_set_update_loop _]
    show wpAny _ A.in1 (pyNext (.ref I) >>= _) _ _ s
    refine wpAny_bind (W.done s _ _ st fun s2 hm => ?_)
    show wpAny _ A.in1 (ret Value.none) _ _ s2
    exact wpAny_pure (hR s2 (hm.mono up) (hS.at fun o q => hm.heap S _ nSw q))
  | succ k ih =>
    intro i s hk hi st hS hR
    have lt : i < ns.length := by omega
    refine codeAny_builtin F.entry_set_update_loop ?_
    rw [Around.under_plainId F.plain_set_update_loop _]
    show wpAny _ A.in1 (pyNext (.ref I) >>= _) _ _ s
    refine wpAny_bind (W.item i s _ _ lt st fun v s2 hP st2 hm => ?_)
    obtain ⟨t, z, hz, rfl⟩ := hv i v hP
    have hS2 : SetI prog w s2.heap S (onceI (ns.take i)) := hS.at fun o q => hm.heap S _ nSw q
    show wpAny _ A.in1 (holding [Value.int z t] (setAdd S (.int z t)) >>= _) _ _ s2
    refine wpAny_bind (wpAny_holding ?_)
    unfold setAdd
    refine wpAny_holding (wpAny_bind ((intKind prog w).pyHash (k := z) (intKind_is _ _ _ _) ?_))
    have room : (onceI (ns.take i)).length + 1 < scanBound := by
      have h1 := onceI_len (ns.take i)
      rw [List.length_take] at h1
      omega
    refine setAdd_I (s := { s2 with toks := s2.toks + 1 }) hS2 room fun h3 sb hS3 b => ?_
    have hS4 : SetI prog w h3 S (onceI (ns.take (i + 1))) := by
      rw [take_next hz, onceI_snoc]
      exact hS3
    refine wpAny_pure ⟨plainId_quiet F.plain_set_update_loop _, ih (i + 1) _ (by omega) lt (W.frame _ s2 _ _ st2 (Nat.le_succ _) fun c hc o e => ?_) hS4 fun s4 hm4 hS5 => ?_⟩
    · rw [sb.2 c fun q : c = S => hSf (q ▸ hc)]
      exact e
    · refine hR s4 (Moved.trans W.gtrans ((hm.mono up).then_heap (Nat.le_succ _) fun c o hc e => ?_) hm4) hS5
      rw [sb.2 c fun q : c = S => hc (by rw [q]; exact List.mem_cons_self)]
      exact e
end
section
variable {prog : Program} {w : World} {A : Around} {E : Value → Shared → Prop} {s : Shared}
theorem newSet_I {x : Value} {Q1 : Value → Shared → Prop} (h : ∀ led : Bool, led = !w.params.followText "set-order" → Q1 (.ref s.heap.objs.size) { s with heap := s.heap.push { cls := .type "set", dict := none, data := .set #[] 0 (.fresh 0 0 led) } }) :
    codeAny (model prog w) A (.call (.builtin "set.__new__") ⟨[.type "set", x], []⟩) (wants Q1 E) s := by
  refine codeAny_of_tree ?_
  show wpAny _ A.in1 (do checkBuiltinCall "set.__new__" ⟨[.type "set", x], []⟩; again (.builtin "set.__new__" ⟨[.type "set", x], []⟩)) _ _ s
  refine wpAny_bind (wpAny_of_eq (F.newCall_set_1 x) (wpAny_pure ⟨plainId_quiet F.plain_set_new _, codeAny_builtin F.entry_set_new ?_⟩))
  rw [Around.under_plainId F.plain_set_new _]
  unfold Builtin.«set.__new__» Builtin.Frozenset.newClass
  have hsub := sub_set_self
  obtain ⟨h0, g0, d0, t0, o0⟩ := s
  dsimp only
  wp_walk
  refine wpAny_askSetting (wpAny_pure ?_)
  dsimp only
  simp only [newObj]
  refine wpAny_bind (wpAny_alloc (wpAny_pure ?_))
  exact wpAny_pure (h _ rfl)
end
end L2
end
section
set_option Elab.async false
set_option linter.all false
set_option maxRecDepth 100000
namespace L2
open PySem PySem.Spec PyProof.Rows
section
variable {prog : Program} {w : World} {A : Around} {E : Value → Shared → Prop} {s : Shared}
set_option maxHeartbeats 3200000 in
theorem callSet_I {l : Addr} {its : Array Value} {ns : List Int} {Q : Value → Shared → Prop} (hh : A.handled = none) (hl : s.heap.IsList l its) (hi : IntsAre its.toList ns) (hb : ns.length + 1 < scanBound)
    (h : ∀ (h2 : Heap) (tk : Nat), SetI prog w h2 s.heap.objs.size (onceI ns) → (∀ b o, s.heap.get? b = some o → h2.get? b = some o) → Q (.ref s.heap.objs.size) { s with heap := h2, toks := tk }) :
    wpAny (model prog w) A (call (.type "set") [.ref l]) Q E s := by
  have hz : its.size = ns.length := by
    have := hi.length
    rwa [Array.length_toList] at this
  obtain ⟨c, tl, hmro⟩ := F.called_set.mro
  have hmade := F.called_set.made
  have hsub := F.called_set.sub
  refine wpAny_call (codeAny_of_tree ?_)
  show wpAny _ _ (callAny (.type "set") _) _ _ _
  refine wpAny_pure ⟨Code.quiet_builtin _ (by decide +kernel), codeAny_builtin F.entry_type_call ?_⟩
  rw [Around.under_plain (weight_type_call_type "set" [.ref l] []) rfl]
  have g1 := F.called_set.notType
  have g2 := F.called_set.canCreate
  have g3 := F.typeCall_set_1 (.ref l)
  repeat (any_goals (first | assumption | wp_step))
  refine codeAny_mono (newSet_I (x := .ref l) (E := E) (Q1 := fun obj s1 => ∃ led : Bool, led = (!w.params.followText "set-order") ∧ obj = .ref s.heap.objs.size ∧ s1 = { s with heap := s.heap.push { cls := .type "set", dict := none, data := .set #[] 0 (.fresh 0 0 led) } }) fun led e => ⟨led, e, rfl, rfl⟩) fun r s1 hr => ?_
  cases r with
  | error e => exact hr
  | ok fl =>
    cases fl with
    | ret obj =>
      obtain ⟨led, hled, rfl, rfl⟩ := hr
      have nS : (s.heap.push { cls := .type "set", dict := none, data := .set #[] 0 (.fresh 0 0 led) }).get? s.heap.objs.size = some { cls := .type "set", dict := none, data := .set #[] 0 (.fresh 0 0 led) } := Heap.get?_push_size _ rfl
      have tS : Shared.TypeIs { s with heap := s.heap.push { cls := .type "set", dict := none, data := .set #[] 0 (.fresh 0 0 led) } } (.ref s.heap.objs.size) "set" := ⟨_, nS, rfl⟩
      have k1 := F.called_set.init.lookup
      have k2 := F.called_set.init.bind (.ref s.heap.objs.size)
      repeat (any_goals (first | assumption | wp_step))
      refine codeAny_mono (codeAny_call_builtin (R := wants (fun r s2 => r = .none ∧ ∃ h2 tk, s2 = { s with heap := h2, toks := tk } ∧ SetI prog w h2 s.heap.objs.size (onceI ns) ∧ (∀ b o, s.heap.get? b = some o → h2.get? b = some o)) E) F.called_set.init.plain F.entry_set_init (check_set_init_1 tS ?_)) fun r2 s2 hr2 => ?_
      · obtain ⟨ol, hol, hcl, nl, hdl⟩ := hl
        obtain ⟨oc, od, odt, osl⟩ := ol
        simp only at hcl hdl
        subst hcl; subst hdl
        have ho2 : (s.heap.push { cls := .type "set", dict := none, data := .set #[] 0 (.fresh 0 0 led) }).get? l = some { cls := .type "list", dict := od, data := .seq its nl, slots := osl } := Heap.get?_push_of_some _ hol
        have f1 := F.sub_list_set
        have f2 := F.sub_list_frozenset
        have f3 : (Value.type "list" == Value.type "dict") = false := by decide
        have isl : (s.heap.push { cls := .type "set", dict := none, data := .set #[] 0 (.fresh 0 0 led) }).IsList l its := ⟨_, ho2, rfl, nl, rfl⟩
        unfold Builtin.«set.__init__» noKeywords Builtin.Frozenset.updateFrom
        generalize hPI : pyIter = PI
        wp_walk
        subst hPI
        refine wpAny_pyIter_list isl ?_
        refine wpAny_bind (wpAny_runValue ?_)
        have ltS : l < s.heap.objs.size := Heap.lt_size hol
        have hh3 : A.in1.in1.in1.handled = none := by simp [hh]
        have neI : l ≠ (s.heap.push { cls := .type "set", dict := none, data := .set #[] 0 (.fresh 0 0 led) }).objs.size := by
          rw [Heap.size_push]
          exact Nat.ne_of_lt (Nat.lt_succ_of_lt ltS)
        have nfp : s.heap.objs.size ∉ [(s.heap.push { cls := .type "set", dict := none, data := .set #[] 0 (.fresh 0 0 led) }).objs.size, l] := by
          rw [Heap.size_push]
          simp only [List.mem_cons, List.mem_singleton, List.not_mem_nil, or_false, not_or]
          exact ⟨Nat.ne_of_lt (Nat.lt_succ_self _), Nat.ne_of_gt ltS⟩
        have hv : ∀ (i : Nat) (v : Value), its[i]? = some v → ∃ t z, ns[i]? = some z ∧ v = .int z t := fun i v e => by
          have e2 := e
          rw [← Array.getElem?_toList] at e2
          obtain ⟨t, q⟩ := hi.int_at i v e2
          have lt : i < ns.length := by
            obtain ⟨q1, _⟩ := Array.getElem?_eq_some_iff.mp e
            omega
          refine ⟨t, ns[i], List.getElem?_eq_getElem lt, ?_⟩
          rw [q, List.getD_eq_getElem?_getD, List.getElem?_eq_getElem lt]
          rfl
        have W := (Walks.list (prog := prog) (w := w) hh3 _ l neI its).toS
        rw [hz] at W
        refine setLoop_I W s.heap.objs.size nfp hv hb (ns.length - 0) 0 _ (by omega) (Nat.zero_le _) ⟨⟨_, Heap.get?_push_size _ rfl, rfl, rfl⟩, (isl.push _)⟩ ?z0 ?zR
        case z0 =>
          refine ⟨_, #[], 0, _, Heap.get?_push_of_some _ nS, ⟨rfl, rfl, rfl⟩, rfl, fun e he => by simp at he, ?_, ?_, by decide, by rfl, ⟨List.Pairwise.nil, rfl⟩, hled⟩
          · rw [List.take_zero]
            exact List.Perm.nil
          · exact onceI_nd _
        case zR =>
          intro s3 hm hS3
          obtain ⟨h3, g3, d3, t3, o3⟩ := s3
          have e1 : g3 = s.gens := hm.gens
          have e2 : d3 = s.drawn := hm.drawn
          have e3 : o3 = s.os := hm.os
          subst e1; subst e2; subst e3
          show wpAny _ _ _ _ _ _
          refine wpAny_pure ?_
          show wpAny _ _ (ret Value.none) _ _ _
          refine wpAny_pure ⟨rfl, h3, t3, rfl, hS3, fun b o e => ?_⟩
          have hb0 := Heap.lt_size e
          refine hm.heap b o ?_ (Heap.get?_push_of_some _ (Heap.get?_push_of_some _ e))
          rw [Heap.size_push]
          simp only [List.mem_cons, List.mem_singleton, List.not_mem_nil, or_false, not_or]
          exact ⟨Nat.ne_of_lt hb0, Nat.ne_of_lt (Nat.lt_succ_of_lt hb0)⟩
      · cases r2 with
        | error e => exact hr2
        | ok fl2 =>
          cases fl2 with
          | ret r =>
            obtain ⟨rfl, h2, tk, rfl, hS2, hk2⟩ := hr2
            repeat (any_goals (first | assumption | wp_step))
            exact h _ _ hS2 hk2
          | _ => exact hr2.elim
    | _ => exact hr.elim
end
end L2
end
section
set_option Elab.async false
set_option linter.all false
set_option maxRecDepth 100000
namespace L2
open PySem PySem.Spec PyProof.Rows
namespace SF
theorem own_sit : Manifest.owners.lookup (String.ofList ['r', 'o', 't', 'a', 'r', 'e', 't', 'i', '_', 't', 'e', 's'].reverse) = some Manifest.sig_set_iterator := by kernel_rfl
theorem sit_next : Slot "set_iterator" "__next__" "set_iterator.__next__" :=
  .of (owner := "set_iterator") (n := "__next__") (by rw [typeLookup_type, builtinLookup_eq_fast]; kernel_rfl) (by decide +kernel) (by decide +kernel) (by decide +kernel) (.inl (by decide +kernel)) (by rw [isSubtype_type]; kernel_rfl)
theorem sit_entry : entryFor table "set_iterator.__next__" = some Builtin.«set_iterator.__next__» := entryFor_of_tree (by kernel_rfl)
theorem sit_args (a : Value) : argsOk "set_iterator.__next__" ⟨[a], []⟩ := by
  unfold argsOk
  rw [signature?_of (id := "set_iterator.__next__") (n := ['_', '_', 't', 'x', 'e', 'n', '_', '_']) (o := ['r', 'o', 't', 'a', 'r', 'e', 't', 'i', '_', 't', 'e', 's']) (by kernel_rfl) own_sit]
  kernel_rfl
theorem sit_iter : Slot "set_iterator" "__iter__" "set_iterator.__iter__" :=
  .of (owner := "set_iterator") (n := "__iter__") (by rw [typeLookup_type, builtinLookup_eq_fast]; kernel_rfl) (by decide +kernel) (by decide +kernel) (by decide +kernel) (.inl (by decide +kernel)) (by rw [isSubtype_type]; kernel_rfl)
theorem sit_args2 (a : Value) : argsOk "set_iterator.__iter__" ⟨[a], []⟩ := by
  unfold argsOk
  rw [signature?_of (id := "set_iterator.__iter__") (n := ['_', '_', 'r', 'e', 't', 'i', '_', '_']) (o := ['r', 'o', 't', 'a', 'r', 'e', 't', 'i', '_', 't', 'e', 's']) (by kernel_rfl) own_sit]
  kernel_rfl
theorem sit_entry2 : entryFor table "set_iterator.__iter__" = some Builtin.«dict_keyiterator.__iter__» :=
  entryFor_alias (id' := "dict_keyiterator.__iter__") (by kernel_rfl) (by first | rfl | decide +kernel | (unfold String.splitOn; simp +decide [String.splitOnAux])) (by decide +kernel) (by kernel_rfl)
theorem set_entry : entryFor table "set.__iter__" = some Builtin.«frozenset.__iter__» :=
  entryFor_alias (id' := "frozenset.__iter__") (by kernel_rfl) (by first | rfl | decide +kernel | (unfold String.splitOn; simp +decide [String.splitOnAux])) (by decide +kernel) (by kernel_rfl)
end SF
theorem pick_go {α : Type} (nx : Nat → Nat) : ∀ (f k : Nat) (left : List α) (out : Array α), left.length = f → (pickOrder.go nx f k left out).toList.Perm (out.toList ++ left)
  | 0, k, left, out, h => by
    have e : left = [] := List.length_eq_zero_iff.mp h
    subst e
    unfold pickOrder.go
    rw [List.append_nil]
  | f + 1, k, left, out, h => by
    unfold pickOrder.go
    have lt : nx k % left.length < left.length := Nat.mod_lt _ (by omega)
    rw [List.getElem?_eq_getElem lt]
    dsimp only
    have hl : (left.eraseIdx (nx k % left.length)).length = f := by
      rw [List.length_eraseIdx_of_lt lt]
      omega
    refine (pick_go nx f (k + 1) _ _ hl).trans ?_
    rw [Array.toList_push, List.append_assoc]
    refine List.Perm.append_left _ ?_
    rw [List.singleton_append, List.eraseIdx_eq_take_drop_succ]
    refine List.perm_middle.symm.trans ?_
    rw [← List.drop_eq_getElem_cons lt, List.take_append_drop]
theorem pick_perm {α : Type} (nx : Nat → Nat) (xs : Array α) : (pickOrder nx xs).toList.Perm xs.toList := by
  unfold pickOrder
  have := pick_go nx xs.size 0 xs.toList #[] (by simp)
  simpa using this
section
variable {prog : Program} {w : World} {A : Around} {E : Value → Shared → Prop} {s : Shared}
theorem byText_ok {Q : Bool → Shared → Prop} (h : Q (w.params.followText "set-order") s) : wpAny (model prog w) A setsByText Q E s := by
  unfold setsByText
  exact wpAny_bind (wpAny_askSetting (wpAny_pure h))
theorem next_text {a : Addr} {o : Obj} {es : Array (Int × Value)} {ep slot i : Nat} {t : SetTable} {Q : Option (Value × Nat) → Shared → Prop} (hw : w.params.followText "set-order" = true) (ho : s.heap.get? a = some o) (hd : o.data = .set es ep t) (hf : t.fits es.size = true)
    (h : Q (((pickOrder (w.params.setOrder a ep) es)[i]?).map fun e => (e.2, slot)) s) : wpAny (model prog w) A (setNext a slot i ep) Q E s := by
  unfold setNext
  refine wpAny_bind (wpAny_setState_of ho hd hf ?_)
  dsimp only
  refine wpAny_bind (byText_ok ?_)
  rw [hw, if_pos rfl, if_neg (by simp)]
  refine wpAny_bind ?_
  unfold setWalk
  refine wpAny_bind (wpAny_setState_of ho hd hf ?_)
  dsimp only
  refine wpAny_bind (byText_ok ?_)
  rw [hw, if_pos rfl]
  refine wpAny_bind (wpAny_askSetting (wpAny_pure ?_))
  exact wpAny_pure h
theorem next_plain {a : Addr} {o : Obj} {es : Array (Int × Value)} {ep slot i : Nat} {t : SetTable} {Q : Option (Value × Nat) → Shared → Prop} (hw : w.params.followText "set-order" = false) (ho : s.heap.get? a = some o) (hd : o.data = .set es ep t) (hf : t.fits es.size = true)
    (hp : (!t.plain && decide (es.size > 1)) = false) (hl : t.led = true) (hs : SetTable.below t.place slot = i) (h : ∀ z, (∀ j, t.place[i]? = some j → z = j + 1) → Q ((es[i]?).map fun e => (e.2, z)) s) : wpAny (model prog w) A (setNext a slot i ep) Q E s := by
  have hz : t.place.size = es.size := by
    simp only [SetTable.fits, Bool.and_eq_true, beq_iff_eq] at hf
    exact hf.1
  unfold setNext
  refine wpAny_bind (wpAny_setState_of ho hd hf ?_)
  dsimp only
  refine wpAny_bind (byText_ok ?_)
  rw [hw, if_neg Bool.false_ne_true]
  show wpAny _ _ (if (!t.plain && decide (es.size > 1)) = true then _ else _) _ _ _
  rw [hp, if_neg Bool.false_ne_true]
  refine wpAny_bind ?_
  show wpAny _ _ (if (!t.led && !es.isEmpty) = true then unsupported "set:maker-not-led" else pure ()) _ _ _
  rw [hl, if_neg (by simp)]
  refine wpAny_pure ?_
  rw [hs]
  refine wpAny_pure ?_
  rcases Nat.lt_or_ge i es.size with lt | ge
  · have e1 := Array.getElem?_eq_getElem lt
    have e2 : t.place[i]? = some t.place[i] := Array.getElem?_eq_getElem (by omega)
    have := h (t.place[i] + 1) fun j q => by
      rw [e2] at q
      rw [Option.some.inj q]
    rw [e1] at this ⊢
    rw [e2]
    exact this
  · have e1 := Array.getElem?_eq_none ge
    have := h 0 fun j q => by
      obtain ⟨q1, _⟩ := Array.getElem?_eq_some_iff.mp q
      omega
    rw [e1] at this ⊢
    exact this
theorem next_ord {a : Addr} {o : Obj} {es : Array (Int × Value)} {ep : Nat} {t : SetTable} (hd : o.data = .set es ep t) (hf : t.fits es.size = true) (hn : Neat t) (hl : t.led = !w.params.followText "set-order") (hm : (!w.params.followText "set-order" && (!t.plain && decide (es.size > 1))) = false) :
    ∃ (ord : Array (Int × Value)) (f : Nat → Nat), ord.toList.Perm es.toList ∧ f 0 = 0 ∧ ∀ (i : Nat) (A : Around) (E : Value → Shared → Prop) (s : Shared) (Q : Option (Value × Nat) → Shared → Prop), i ≤ es.size → s.heap.get? a = some o → Q ((ord[i]?).map fun e => (e.2, f (i + 1))) s →
      wpAny (model prog w) A (setNext a (f i) i ep) Q E s := by
  have hz : t.place.size = es.size := by
    simp only [SetTable.fits, Bool.and_eq_true, beq_iff_eq] at hf
    exact hf.1
  cases hw : w.params.followText "set-order" with
  | true => exact ⟨pickOrder (w.params.setOrder a ep) es, fun _ => 0, pick_perm _ _, rfl, fun i A E s Q _ ho h => next_text hw ho hd hf h⟩
  | false =>
    rw [hw] at hl hm
    refine ⟨es, fun i => match i with | 0 => 0 | i + 1 => t.place.getD i 0 + 1, .rfl, rfl, fun i A E s Q hi ho h => ?_⟩
    have mono : ∀ (i k v u : Nat), i < k → t.place[i]? = some v → t.place[k]? = some u → v < u := by
      intro i k v u hik e1 e2
      rw [← Array.getElem?_toList] at e1 e2
      obtain ⟨h1, q1⟩ := List.getElem?_eq_some_iff.mp e1
      obtain ⟨h2, q2⟩ := List.getElem?_eq_some_iff.mp e2
      have := List.pairwise_iff_getElem.mp hn.rise i k h1 h2 hik
      rwa [q1, q2] at this
    refine next_plain hw ho hd hf (by simpa using hm) hl (below_eq hn.rise (by omega) (fun k v hk e => ?_) fun k v hk e => ?_) fun z hz' => ?_
    · cases i with
      | zero => exact absurd hk (Nat.not_lt_zero _)
      | succ i =>
        have e2 : t.place[i]? = some t.place[i] := Array.getElem?_eq_getElem (by omega)
        show v < t.place.getD i 0 + 1
        rw [Array.getD_eq_getD_getElem?, e2]
        show v < t.place[i] + 1
        rcases Nat.lt_or_ge k i with q | q
        · exact Nat.lt_succ_of_lt (mono k i _ _ q e e2)
        · have : k = i := by omega
          subst this
          rw [e2] at e
          rw [Option.some.inj e]
          exact Nat.lt_succ_self _
    · cases i with
      | zero => exact Nat.zero_le _
      | succ i =>
        have e2 : t.place[i]? = some t.place[i] := Array.getElem?_eq_getElem (by omega)
        show t.place.getD i 0 + 1 ≤ v
        rw [Array.getD_eq_getD_getElem?, e2]
        exact mono i k _ _ (by omega) e2 e
    · rcases Nat.lt_or_ge i es.size with lt | ge
      · have e2 : t.place[i]? = some t.place[i] := Array.getElem?_eq_getElem (by omega)
        have ez : z = t.place.getD i 0 + 1 := by
          rw [hz' _ e2, Array.getD_eq_getD_getElem?, e2]
          rfl
        rw [ez]
        exact h
      · rw [Array.getElem?_eq_none ge] at h ⊢
        exact h
end
end L2
end
section
set_option Elab.async false
set_option linter.all false
set_option maxRecDepth 100000
namespace L2
open PySem PySem.Spec PyProof.Rows
def SIt (h : Heap) (it a : Addr) (first : Value) (i n ep : Nat) : Prop := ∃ o, h.get? it = some o ∧ o.cls = .type "set_iterator" ∧ o.data = .fields #[first, rawInt i, .ref a, rawInt n, rawInt ep]
section
variable {prog : Program} {w : World} {A : Around} {E : Value → Shared → Prop} {s : Shared}
theorem SIt.ty {it a : Addr} {first : Value} {i n ep : Nat} (x : SIt s.heap it a first i n ep) : s.TypeIs (.ref it) "set_iterator" := let ⟨o, ho, hc, _⟩ := x; ⟨o, ho, hc⟩
theorem SIt.at {h h2 : Heap} {it a : Addr} {first : Value} {i n ep : Nat} (x : SIt h it a first i n ep) (k : ∀ o, h.get? it = some o → h2.get? it = some o) : SIt h2 it a first i n ep := let ⟨o, ho, r⟩ := x; ⟨o, k o ho, r⟩
theorem sit_set {h : Heap} {it : Addr} {o : Obj} {vs : Array Value} (ho : h.get? it = some o) (hd : o.data = .fields vs) (k : Nat) (v : Value) :
    ∃ o2, (h.update it (Obj.mapFields fun z => z.setIfInBounds k v)).get? it = some o2 ∧ o2.cls = o.cls ∧ o2.data = .fields (vs.setIfInBounds k v) :=
  ⟨_, Heap.get?_update_self _ ho (Obj.isFreed_of_fields (Obj.data_mapFields hd _)), Obj.cls_mapFields .., Obj.data_mapFields hd _⟩
theorem sit_stop {it : Addr} {o : Obj} {vs : Array Value} {P : Fin → Shared → Prop} (hh : A.handled = none) (ho : s.heap.get? it = some o) (hd : o.data = .fields vs) (hz : 2 < vs.size)
    (h : ∀ h2 e, Heap.ExtBut it s.heap h2 → Shared.TypeIs { s with heap := h2 } (.ref e) "StopIteration" → E (.ref e) { s with heap := h2 }) :
    wpAny (model prog w) A (setField (.ref it) 2 .none >>= fun _ => newExc (.type "StopIteration") [] >>= fun e => raiseNew e) P E s := by
  refine wpAny_bind (wpAny_setField ho hd hz ?_)
  refine wpAny_bind ?_
  simp only [newExc, newTuple]
  refine wpAny_bind (wpAny_newObj_type ?_ (by size_fits))
  refine wpAny_bind (m := firstArgMember _ _) (wpAny_of_eq (a := Value.none) (by first | rfl | (simp only [firstArgMember]; rfl)) ?_)
  refine wpAny_newObj_type ?_ (by size_fits)
  simp only [raiseNew]
  refine wpAny_bind (wpAny_handled ?_)
  rw [hh]
  refine wpAny_bind (wpAny_pure (wpAny_throw (h _ _ ?_ ?_)))
  · exact (((Heap.SameBut.update ..).extBut.push _).push _)
  · exact ⟨_, Heap.get?_push_size _ rfl, rfl⟩
theorem next_stop {it : Addr} {Q : Option Value → Shared → Prop} (hT : s.TypeIs (.ref it) "set_iterator")
    (h : wpAny (model prog w) A.in1 (Builtin.«set_iterator.__next__» ⟨[.ref it], []⟩) (fun fin s2 => ∃ v, fin = .done (.ret v) ∧ Q (some v) s2) (fun e s2 => s2.TypeIs e "StopIteration" ∧ Q none s2) s) : wpAny (model prog w) A (pyNext (.ref it)) Q E s := by
  unfold pyNext
  refine wpAny_bind (wpAny_attempt (wpAny_callSpecial?_slot (name := Str.ofString "__next__") hT SF.sit_next (wpAny_call_entry SF.sit_next hT SF.sit_entry (wpAny_mono h (fun fin s2 ⟨v, e, q⟩ => ⟨v, e, ?_⟩) fun e s2 ⟨q1, q2⟩ => ?_) (SF.sit_args _))))
  · exact wpAny_pure q
  · exact wpAny_bind (wpAny_isInstance (T := "StopIteration") (b := true) q1 isSubtype_stop (wpAny_pure q2))
theorem sit_turn {it a : Addr} {o : Obj} {es ord : Array (Int × Value)} {ep i : Nat} {t : SetTable} {f : Nat → Nat} {Q : Option Value → Shared → Prop} (hh : A.handled = none) (ho : s.heap.get? a = some o) (hd : o.data = .set es ep t) (hf : t.fits es.size = true) (hi : i ≤ es.size)
    (hx : SIt s.heap it a (rawInt (f i)) i es.size ep)
    (nx : ∀ (A : Around) (E : Value → Shared → Prop) (s : Shared) (Q : Option (Value × Nat) → Shared → Prop), s.heap.get? a = some o → Q ((ord[i]?).map fun e => (e.2, f (i + 1))) s → wpAny (model prog w) A (setNext a (f i) i ep) Q E s)
    (yes : ∀ e h2, ord[i]? = some e → SIt h2 it a (rawInt (f (i + 1))) (i + 1) es.size ep → Heap.SameBut it s.heap h2 → Q (some e.2) { s with heap := h2 }) (no : ord[i]? = none → ∀ h2, Heap.ExtBut it s.heap h2 → Q none { s with heap := h2 }) :
    wpAny (model prog w) A (pyNext (.ref it)) Q E s := by
  refine next_stop hx.ty ?_
  obtain ⟨oi, hoi, hc, hdi⟩ := hx
  unfold Builtin.«set_iterator.__next__»
  refine wpAny_bind (wpAny_pure ?_)
  refine wpAny_bind (wpAny_fieldsOf hoi hdi ?_)
  show wpAny _ _ (setEntries a >>= _) _ _ s
  refine wpAny_bind (wpAny_setEntries_of ho hd hf ?_)
  rw [if_neg (by simp)]
  show wpAny _ _ (setNext a ((f i : Nat) : Int).toNat ((i : Nat) : Int).toNat ((ep : Nat) : Int).toNat >>= _) _ _ s
  rw [Int.toNat_natCast, Int.toNat_natCast, Int.toNat_natCast]
  refine wpAny_bind (nx _ _ _ _ ho ?_)
  cases e : ord[i]? with
  | none =>
    refine sit_stop (show A.in1.handled = none from hh) hoi hdi (by simp) fun h2 x eb ty => ⟨ty, no e h2 eb⟩
  | some y =>
    show wpAny _ _ (setField (.ref it) 0 (rawInt (f (i + 1) : Nat)) >>= fun _ => setField (.ref it) 1 (rawInt ((i : Int) + 1)) >>= fun _ => ret y.2) _ _ s
    refine wpAny_bind (wpAny_setField hoi hdi (by simp) ?_)
    obtain ⟨o2, h2, c2, d2⟩ := sit_set hoi hdi 0 (rawInt (f (i + 1) : Nat))
    refine wpAny_bind (wpAny_setField h2 d2 (by simp) ?_)
    obtain ⟨o3, h3, c3, d3⟩ := sit_set h2 d2 1 (rawInt ((i : Int) + 1))
    refine wpAny_pure ⟨y.2, rfl, yes y _ e ⟨o3, h3, c3.trans (c2.trans hc), ?_⟩ ((Heap.SameBut.update ..).trans (Heap.SameBut.update ..))⟩
    rw [d3]
    simp [rawInt]
end
end L2
end
section
set_option Elab.async false
set_option linter.all false
set_option maxRecDepth 100000
namespace L2
open PySem PySem.Spec PyProof.Rows
section
variable {prog : Program} {w : World} {A : Around} {E : Value → Shared → Prop} {s : Shared}
theorem drawn_next {a : Addr} {o : Obj} {es : Array (Int × Value)} {ep k : Nat} {t : SetTable} {e : Int × Value} {Q : Value → Shared → Prop} (ho : s.heap.get? a = some o) (hd : o.data = .set es ep t) (hf : t.fits es.size = true) (he : es[k]? = some e) (h : Q e.2 s) :
    wpAny (model prog w) A (setNextDrawn a k ep) Q E s := by
  unfold setNextDrawn
  refine wpAny_bind (wpAny_setState_of ho hd hf ?_)
  dsimp only
  rw [if_neg (by simp), he]
  exact wpAny_pure h
theorem sit_turnD {it a T : Addr} {o oT : Obj} {es : Array (Int × Value)} {ps : List Nat} {ep i nT : Nat} {t : SetTable} {Q : Option Value → Shared → Prop} (hh : A.handled = none) (ho : s.heap.get? a = some o) (hd : o.data = .set es ep t) (hf : t.fits es.size = true)
    (hT : s.heap.get? T = some oT) (hdT : oT.data = .seq (ps.map fun (k : Nat) => rawInt k).toArray nT) (hps : ∀ k ∈ ps, k < es.size) (hx : SIt s.heap it a (.ref T) i es.size ep)
    (yes : ∀ k e h2, ps[i]? = some k → es[k]? = some e → SIt h2 it a (.ref T) (i + 1) es.size ep → Heap.SameBut it s.heap h2 → Q (some e.2) { s with heap := h2 }) (no : ps[i]? = none → ∀ h2, Heap.ExtBut it s.heap h2 → Q none { s with heap := h2 }) :
    wpAny (model prog w) A (pyNext (.ref it)) Q E s := by
  refine next_stop hx.ty ?_
  obtain ⟨oi, hoi, hc, hdi⟩ := hx
  unfold Builtin.«set_iterator.__next__»
  refine wpAny_bind (wpAny_pure ?_)
  refine wpAny_bind (wpAny_fieldsOf hoi hdi ?_)
  show wpAny _ _ (setEntries a >>= _) _ _ s
  refine wpAny_bind (wpAny_setEntries_of ho hd hf ?_)
  rw [if_neg (by simp)]
  show wpAny _ _ (seqItems? (.ref T) >>= _) _ _ s
  refine wpAny_bind (wpAny_seqItems hT hdT ?_)
  show wpAny _ _ (match (ps.map fun (k : Nat) => rawInt k).toArray[((i : Nat) : Int).toNat]? with | some (.int place _) => _ | some _ => _ | none => _) _ _ s
  rw [Int.toNat_natCast, List.getElem?_toArray, List.getElem?_map]
  cases e : ps[i]? with
  | none =>
    show wpAny _ _ (setField (.ref it) 0 (rawInt 0) >>= fun _ => setField (.ref it) 2 .none >>= fun _ => newExc (.type "StopIteration") [] >>= fun e => raiseNew e) _ _ s
    refine wpAny_bind (wpAny_setField hoi hdi (by simp) ?_)
    obtain ⟨o2, h2, c2, d2⟩ := sit_set hoi hdi 0 (rawInt 0)
    refine sit_stop (s := { s with heap := s.heap.update it (Obj.mapFields fun z => z.setIfInBounds 0 (rawInt 0)) }) (show A.in1.handled = none from hh) h2 d2 (by simp) fun h3 x eb ty => ⟨ty, no e h3 fun b ob hb q => eb b ob hb ?_⟩
    exact (Heap.get?_update_other _ _ fun z => hb z.symm).trans q
  | some k =>
    have hk : k < es.size := hps k (List.mem_of_getElem? e)
    have ek := Array.getElem?_eq_getElem hk
    show wpAny _ _ (setNextDrawn a ((k : Nat) : Int).toNat ((ep : Nat) : Int).toNat >>= fun x => setField (.ref it) 1 (rawInt ((i : Int) + 1)) >>= fun _ => ret x) _ _ s
    rw [Int.toNat_natCast, Int.toNat_natCast]
    refine wpAny_bind (drawn_next ho hd hf ek ?_)
    refine wpAny_bind (wpAny_setField hoi hdi (by simp) ?_)
    obtain ⟨o3, h3, c3, d3⟩ := sit_set hoi hdi 1 (rawInt ((i : Int) + 1))
    refine wpAny_pure ⟨_, rfl, yes k _ _ e ek ⟨o3, h3, c3.trans hc, ?_⟩ (Heap.SameBut.update ..)⟩
    rw [d3]
    simp [rawInt]
theorem sit_self {it a : Addr} {first : Value} {i n ep : Nat} {Q : Value → Shared → Prop} (hx : SIt s.heap it a first i n ep) (h : Q (.ref it) s) : wpAny (model prog w) A (pyIter (.ref it)) Q E s := by
  refine wpAny_pyIter_slot hx.ty SF.sit_iter (wpAny_call_entry SF.sit_iter hx.ty SF.sit_entry2 ?_ (SF.sit_args2 _))
  refine wpAny_bind (wpAny_pure ?_)
  exact wpAny_pure ⟨_, rfl, "set_iterator", _, hx.ty, SF.sit_next.lookup, h⟩
def SWalk (prog : Program) (w : World) (A : Around) (it : Addr) (fp : List Addr) (vs : List Value) (St : Nat → Heap → Prop) : Prop := Walks prog w A it fp [it] vs.length (fun i v => vs[i]? = some v) St
theorem walk_ord {it a : Addr} {o : Obj} {es ord : Array (Int × Value)} {ep : Nat} {t : SetTable} {f : Nat → Nat} (hne : a ≠ it) (hh : A.handled = none) (hd : o.data = .set es ep t) (hf : t.fits es.size = true) (hz : ord.size = es.size)
    (nx : ∀ (i : Nat) (A : Around) (E : Value → Shared → Prop) (s : Shared) (Q : Option (Value × Nat) → Shared → Prop), i ≤ es.size → s.heap.get? a = some o → Q ((ord[i]?).map fun e => (e.2, f (i + 1))) s → wpAny (model prog w) A (setNext a (f i) i ep) Q E s) :
    SWalk prog w A it [it, a] (ord.toList.map (·.2)) (fun i h => SIt h it a (rawInt (f i)) i es.size ep ∧ h.get? a = some o) where
  sub := fun b hb => by simp at hb; simp [hb]
  frame := fun i h h2 st hk => ⟨st.1.at fun o2 q => hk it (by simp) o2 q, hk a (by simp) o st.2⟩
  item := fun i s Q E hi st hQ => by
    rw [List.length_map, Array.length_toList] at hi
    refine sit_turn hh st.2 hd hf (by omega) st.1 (fun A E s Q => nx i A E s Q (by omega)) (fun e h2 he x sb => ?_) fun he => ?_
    · refine hQ e.2 h2 s.toks ?_ ⟨x, (sb.2 a hne).trans st.2⟩ fun b ob hb q => (sb.2 b (by simpa using hb)).trans q
      rw [List.getElem?_map, Array.getElem?_toList, he]
      rfl
    · rw [Array.getElem?_eq_getElem hi] at he
      cases he
  done := fun s Q E st hQ => by
    rw [List.length_map, Array.length_toList] at st
    refine sit_turn hh st.2 hd hf (by omega) st.1 (fun A E s Q => nx _ A E s Q (by omega)) (fun e h2 he x sb => ?_) fun he h2 eb => hQ h2 s.toks fun b ob hb q => eb b ob (by simpa using hb) q
    obtain ⟨q1, _⟩ := Array.getElem?_eq_some_iff.mp he
    omega
  self := fun i s Q E st hQ => sit_self st.1 hQ
theorem walk_drawn {it a T : Addr} {o oT : Obj} {es : Array (Int × Value)} {ps : List Nat} {ep nT : Nat} {t : SetTable} {vs : List Value} (hne : a ≠ it) (hnT : T ≠ it) (hh : A.handled = none) (hd : o.data = .set es ep t) (hf : t.fits es.size = true)
    (hdT : oT.data = .seq (ps.map fun (k : Nat) => rawInt k).toArray nT) (hps : ∀ k ∈ ps, k < es.size) (hz : vs.length = ps.length) (hv : ∀ (i k : Nat) (e : Int × Value), ps[i]? = some k → es[k]? = some e → vs[i]? = some e.2) :
    SWalk prog w A it [it, a, T] vs (fun i h => SIt h it a (.ref T) i es.size ep ∧ h.get? a = some o ∧ h.get? T = some oT) where
  sub := fun b hb => by simp at hb; simp [hb]
  frame := fun i h h2 st hk => ⟨st.1.at fun o2 q => hk it (by simp) o2 q, hk a (by simp) o st.2.1, hk T (by simp) oT st.2.2⟩
  item := fun i s Q E hi st hQ => by
    refine sit_turnD hh st.2.1 hd hf st.2.2 hdT hps st.1 (fun k e h2 hk he x sb => ?_) fun hn => ?_
    · exact hQ e.2 h2 s.toks (hv i k e hk he) ⟨x, (sb.2 a hne).trans st.2.1, (sb.2 T hnT).trans st.2.2⟩ fun b ob hb q => (sb.2 b (by simpa using hb)).trans q
    · have := List.getElem?_eq_none_iff.mp hn
      omega
  done := fun s Q E st hQ => by
    refine sit_turnD hh st.2.1 hd hf st.2.2 hdT hps st.1 (fun k e h2 hk he x sb => ?_) fun he h2 eb => hQ h2 s.toks fun b ob hb q => eb b ob (by simpa using hb) q
    obtain ⟨q1, _⟩ := List.getElem?_eq_some_iff.mp hk
    omega
  self := fun i s Q E st hQ => sit_self st.1 hQ
theorem draw_ok {α : Type} : ∀ (n : Nat) (xs : List α) (s : Shared) {Q : List α → Shared → Prop}, xs.length = n → (∀ ys d, ys.Perm xs → Q ys { s with drawn := d }) → wpAny (model prog w) A (drawOrder n xs) Q E s
  | 0, xs, s, Q, hn, h => by
    have e : xs = [] := List.length_eq_zero_iff.mp hn
    subst e
    unfold drawOrder
    exact wpAny_pure (h [] s.drawn .rfl)
  | n + 1, [], s, Q, hn, h => by simp at hn
  | n + 1, x :: xs, s, Q, hn, h => by
    unfold drawOrder
    intro Γ p hΓ
    have lt : (model prog w).w.draws .order (s.drawn.get .order) % (x :: xs).length < (x :: xs).length := Nat.mod_lt _ (by simp)
    have key : wpAny (model prog w) A (do
        match (x :: xs)[(model prog w).w.draws .order (s.drawn.get .order) % (x :: xs).length]? with
        | some y => return y :: (← drawOrder n ((x :: xs).eraseIdx ((model prog w).w.draws .order (s.drawn.get .order) % (x :: xs).length)))
        | none => unsupported "internal:drawOrder") Q E { s with drawn := s.drawn.bump .order } := by
      rw [List.getElem?_eq_getElem lt]
      dsimp only
      refine wpAny_bind (draw_ok n _ _ (by rw [List.length_eraseIdx_of_lt lt]; omega) fun ys d hp => wpAny_pure (h _ d ?_))
      refine (hp.cons _).trans ?_
      rw [List.eraseIdx_eq_take_drop_succ]
      refine List.perm_middle.symm.trans ?_
      rw [← List.drop_eq_getElem_cons lt, List.take_append_drop]
    exact ⟨by simp, key Γ p hΓ⟩
end
end L2
end
section
set_option Elab.async false
set_option linter.all false
set_option maxRecDepth 100000
namespace L2
open PySem PySem.Spec PyProof.Rows
section
variable {prog : Program} {w : World} {A : Around} {E : Value → Shared → Prop} {s : Shared}
theorem setDrawn_ok {a : Addr} {o : Obj} {es : Array (Int × Value)} {ep : Nat} {t : SetTable} {R : Bool → Shared → Prop} (ho : s.heap.get? a = some o) (hd : o.data = .set es ep t) (hf : t.fits es.size = true)
    (h : R (!w.params.followText "set-order" && (!t.plain && decide (es.size > 1))) s) : wpAny (model prog w) A (setDrawn a) R E s := by
  unfold setDrawn
  refine wpAny_bind (wpAny_setState_of ho hd hf ?_)
  dsimp only
  exact wpAny_bind (byText_ok (wpAny_pure h))
theorem ints_of_elems {l : List (Int × Value)} (h : ElemsOf (intKind prog w) l) : ∀ {ps : List (Int × Value)}, (∀ e ∈ ps, e ∈ l) → IntsAre (ps.map (·.2)) (ps.map fun e => intOf e.2)
  | [], _ => .nil
  | e :: ps, hm => by
    obtain ⟨t, q⟩ := elems_ints h e (hm e (by simp))
    rw [List.map_cons, List.map_cons, q]
    exact .cons _ _ (ints_of_elems h fun e he => hm e (List.mem_cons_of_mem _ he))
theorem setIter_I {a : Addr} {ks : List Int} {Q : Value → Shared → Prop} (hS : SetI prog w s.heap a ks)
    (h : ∀ (h2 : Heap) (d : Drawn) (it : Addr) (fp : List Addr) (vs : List Value) (ns : List Int) (St : Nat → Heap → Prop), (∀ b o, s.heap.get? b = some o → h2.get? b = some o) → s.heap.objs.size ≤ it → (∀ b ∈ fp, b = a ∨ (s.heap.objs.size ≤ b ∧ b < h2.objs.size)) →
      IntsAre vs ns → ns.Perm ks → (∀ A : Around, A.handled = none → SWalk prog w A it fp vs St) → St 0 h2 → Q (.ref it) { s with heap := h2, drawn := d }) :
    wpAny (model prog w) A (pyIter (.ref a)) Q E s := by
  obtain ⟨o, es, ep, t, ho, hx, hd, hel, hp, hnd, hb, hf, hn, hl⟩ := hS
  have la : a < s.heap.objs.size := Heap.lt_size ho
  refine wpAny_pyIter_slot ⟨o, ho, hx.1⟩ PySem.F.slot_set_iter (wpAny_call_entry PySem.F.slot_set_iter ⟨o, ho, hx.1⟩ SF.set_entry ?_ (PySem.F.args_set_iter_1 _))
  unfold Builtin.«frozenset.__iter__» Builtin.Frozenset.slot0 slotArgs
  simp only [List.isEmpty_nil, Bool.not_true, Bool.false_eq_true, ↓reduceIte, bind_assoc, List.length_nil, bne_self_eq_false]
  unfold Builtin.Frozenset.addrOf Builtin.Frozenset.sizeOf
  refine wpAny_bind (wpAny_pure ?_)
  try dsimp only
  refine wpAny_bind (wpAny_pure ?_)
  refine wpAny_bind (wpAny_bind (wpAny_setEntries_of ho hd hf (wpAny_pure ?_)))
  refine wpAny_bind (setDrawn_ok ho hd hf ?_)
  by_cases hdr : (!w.params.followText "set-order" && (!t.plain && decide (es.size > 1))) = true
  · rw [if_pos hdr]
    refine wpAny_bind (draw_ok es.size (List.range es.size) s (by simp) fun ys d hys => ?_)
    refine wpAny_bind (wpAny_newTuple ?_ (by rw [List.length_map, hys.length_eq, List.length_range]; exact Nat.le_of_lt (Nat.lt_of_lt_of_le hb (by decide))))
    have ho2 : (s.heap.push { cls := .type "tuple", data := .seq (ys.map fun (i : Nat) => rawInt i).toArray }).get? a = some o := Heap.get?_push_of_some _ ho
    refine wpAny_bind (wpAny_setEpoch_of (s := { s with heap := s.heap.push { cls := .type "tuple", data := .seq (ys.map fun (i : Nat) => rawInt i).toArray }, drawn := d }) ho2 hd hf ?_)
    refine wpAny_bind (wpAny_newObj_type ?_ (by size_fits))
    have hT : ((s.heap.push { cls := .type "tuple", data := .seq (ys.map fun (i : Nat) => rawInt i).toArray }).push { cls := .type "set_iterator", data := .fields #[.ref s.heap.objs.size, rawInt 0, .ref a, rawInt es.size, rawInt ep] }).get? s.heap.objs.size = some { cls := .type "tuple", data := .seq (ys.map fun (i : Nat) => rawInt i).toArray } :=
      Heap.get?_push_of_some _ (Heap.get?_push_size _ rfl)
    have hsz : (s.heap.push { cls := .type "tuple", data := .seq (ys.map fun (i : Nat) => rawInt i).toArray }).objs.size = s.heap.objs.size + 1 := Heap.size_push _ _
    refine wpAny_pure ⟨_, rfl, "set_iterator", _, ⟨_, Heap.get?_push_size _ rfl, rfl⟩, SF.sit_next.lookup, ?_⟩
    have lt : ∀ k ∈ ys, k < es.size := fun k hk => List.mem_range.mp (hys.mem_iff.mp hk)
    have e1 : ((List.range es.size).map fun k => es.getD k (0, .none)) = es.toList := by
      refine List.ext_getElem (by simp) fun i h1 h2 => ?_
      simp at h1
      simp [h1]
    have hperm : (ys.map fun k => es.getD k (0, .none)).Perm es.toList := by
      rw [← e1]
      exact hys.map _
    refine h _ d _ [(s.heap.push { cls := .type "tuple", data := .seq (ys.map fun (i : Nat) => rawInt i).toArray }).objs.size, a, s.heap.objs.size] ((ys.map fun k => es.getD k (0, .none)).map (·.2)) ((ys.map fun k => es.getD k (0, .none)).map fun e => intOf e.2) _ (fun b o e => Heap.get?_push_of_some _ (Heap.get?_push_of_some _ e)) (by rw [hsz]; exact Nat.le_succ _) (fun b hb => ?_)
      (ints_of_elems hel fun e he => hperm.mem_iff.mp he) ((hperm.map _).trans hp) (fun A hh => walk_drawn (T := s.heap.objs.size) (by rw [hsz]; exact Nat.ne_of_lt (Nat.lt_succ_of_lt la)) (by rw [hsz]; exact Nat.ne_of_lt (Nat.lt_succ_self _)) hh hd hf rfl lt (by simp) ?_) ⟨⟨_, Heap.get?_push_size _ rfl, rfl, rfl⟩, Heap.get?_push_of_some _ ho2, hT⟩
    · rw [Heap.size_push, hsz]
      simp only [List.mem_cons, List.not_mem_nil, or_false] at hb
      rcases hb with e | e | e
      · right; rw [e, hsz]; exact ⟨Nat.le_succ _, Nat.lt_succ_self _⟩
      · exact .inl e
      · right; rw [e]; exact ⟨Nat.le_refl _, Nat.lt_succ_of_lt (Nat.lt_succ_self _)⟩
    · intro i k e h1 h2
      rw [List.getElem?_map, List.getElem?_map, h1]
      show some (es.getD k (0, .none)).2 = some e.2
      rw [Array.getD_eq_getD_getElem?, h2]
      rfl
  · rw [if_neg hdr]
    refine wpAny_bind (wpAny_pure ?_)
    refine wpAny_bind (wpAny_setEpoch_of ho hd hf ?_)
    refine wpAny_bind (wpAny_newObj_type ?_ (by size_fits))
    refine wpAny_pure ⟨_, rfl, "set_iterator", _, ⟨_, Heap.get?_push_size _ rfl, rfl⟩, SF.sit_next.lookup, ?_⟩
    obtain ⟨ord, f, hperm, f0, nx⟩ := next_ord (prog := prog) (w := w) (a := a) hd hf hn hl (by simpa using hdr)
    have hz : ord.size = es.size := by
      have := hperm.length_eq
      simpa using this
    refine h _ s.drawn _ [s.heap.objs.size, a] (ord.toList.map (·.2)) (ord.toList.map fun e => intOf e.2) _ (fun b o e => Heap.get?_push_of_some _ e) (Nat.le_refl _) (fun b hb => ?_)
      (ints_of_elems hel fun e he => hperm.mem_iff.mp he) ((hperm.map _).trans hp) (fun A hh => walk_ord (Nat.ne_of_lt la) hh hd hf hz nx) ⟨⟨_, Heap.get?_push_size _ rfl, rfl, ?_⟩, Heap.get?_push_of_some _ ho⟩
    · rw [Heap.size_push]
      simp only [List.mem_cons, List.not_mem_nil, or_false] at hb
      rcases hb with e | e
      · right; rw [e]; exact ⟨Nat.le_refl _, Nat.lt_succ_self _⟩
      · exact .inl e
    · rw [f0]
      rfl
end
end L2
end
section
set_option Elab.async false
set_option linter.all false
set_option maxRecDepth 100000
namespace L2
open PySem PySem.Spec PyProof.Rows
section
variable {prog : Program} {w : World} {A : Around} {E : Value → Shared → Prop} {s : Shared}
theorem hint_set {r : Addr} {Q : Bool → Shared → Prop} (hT : s.TypeIs (.ref r) "set") (h : Q false s) : wpAny (model prog w) A (Builtin.List.listLengthHint (.ref r)) Q E s := by
  unfold Builtin.List.listLengthHint
  refine wpAny_bind (wpAny_specialOf hT PySem.F.slot_set_len.lookup ?_)
  generalize hid : ("set.__len__" : String) = id0
  wp_delta
  rw [show splitId id0 = some ("set", "__len__") from by subst hid; decide +kernel]
  subst hid
  refine wpAny_bind (wpAny_isInstance (T := "set") (b := true) hT (by rw [isSubtype_type]; kernel_rfl) ?_)
  refine wpAny_ite_split (fun hab => absurd hab (by decide)) (fun _ => ?_)
  refine wpAny_ite_split (fun _ => ?_) (fun hab => absurd (by decide +kernel) hab)
  refine wpAny_bind (wpAny_typeOf hT ?_)
  exact wpAny_pure h
theorem items_same {vs : List Value} {acc : Array Value} (h : ItemsOf (fun i v => vs[i]? = some v) acc vs.length) : acc.toList = vs := by
  refine List.ext_getElem? fun i => ?_
  cases e : acc.toList[i]? with
  | some v => exact (h.2 i v (by rw [← Array.getElem?_toList]; exact e)).symm
  | none =>
    have := List.getElem?_eq_none_iff.mp e
    rw [Array.length_toList, h.1] at this
    exact (List.getElem?_eq_none_iff.mpr this).symm
structure Src (prog : Program) (w : World) (T : String) (r : Addr) (fx : List Addr) (n : Nat) (PV : List Value → Prop) (OK : Heap → Prop) : Prop where
  type : ∀ s : Shared, OK s.heap → s.TypeIs (.ref r) T
  there : ∀ h : Heap, OK h → r < h.objs.size ∧ ∀ b ∈ fx, b < h.objs.size
  keep : ∀ h h' : Heap, OK h → (∀ b o, h.get? b = some o → h'.get? b = some o) → OK h'
  notList : (Value.type T == Value.type "list") = false
  notTuple : (Value.type T == Value.type "tuple") = false
  hint : ∀ (A : Around) (E : Value → Shared → Prop) (s : Shared) (Q : Bool → Shared → Prop), OK s.heap → Q false s → wpAny (model prog w) A (Builtin.List.listLengthHint (.ref r)) Q E s
  iter : ∀ (A : Around) (E : Value → Shared → Prop) (s : Shared) (Q : Value → Shared → Prop), A.handled = none → OK s.heap →
    (∀ (h2 : Heap) (d : Drawn) (it : Addr) (fp : List Addr) (P : Nat → Value → Prop) (St : Nat → Heap → Prop), (∀ b o, s.heap.get? b = some o → h2.get? b = some o) → s.heap.objs.size ≤ it → (∀ b ∈ fp, b ∈ fx ∨ s.heap.objs.size ≤ b) →
      (∀ acc, ItemsOf P acc n → PV acc.toList) → Walks prog w A it fp [it] n P St → St 0 h2 → Q (.ref it) { s with heap := h2, drawn := d }) → wpAny (model prog w) A (pyIter (.ref r)) Q E s
variable {T : String} {r : Addr} {fx : List Addr} {n : Nat} {PV : List Value → Prop} {OK : Heap → Prop}
theorem Src.extend (K : Src prog w T r fx n PV OK) {S : Addr} {res : Value} {c₀ : Nat} {R : Result → Shared → Prop} (hI : OK s.heap) (hh : A.handled = none) (hSr : S ≠ r) (hSx : S ∉ fx) (hS : s.heap.get? S = some { cls := .type "list", data := .seq #[] c₀ }) (hn : n ≤ sizeLine)
    (hR : ∀ h' tk d acc' c', (∀ b o, b ≠ S → s.heap.get? b = some o → h'.get? b = some o) → h'.get? S = some { cls := .type "list", dict := none, data := .seq acc' c', slots := #[] } → acc'.toList.length = n → PV acc'.toList → R (.ok (.ret res)) { s with heap := h', toks := tk, drawn := d }) :
    wpAny (model prog w) A.in1 (Builtin.List.listExtendWith (.ref S) (.ref r) res)
      (fun fin s' => match fin with | .done f => R (.ok f) s' | .again c' => c'.quiet = true ∧ codeAny (model prog w) A c' R s') (fun e s' => R (.error e) s') s := by
  have hSl : S < s.heap.objs.size := Heap.lt_size hS
  unfold Builtin.List.listExtendWith
  refine wpAny_bind (wpAny_typeOf (T := T) (K.type s hI) ?_)
  have h1 : Builtin.List.listSameRef (.ref S) (.ref r) = false := by simp [Builtin.List.listSameRef, hSr]
  simp only [h1, K.notList, K.notTuple, Bool.or_false, Bool.false_eq_true, if_false]
  refine wpAny_bind (K.iter A.in1 _ s _ hh hI fun h2 d it fp P St hk hit hfp hpv W st => ?_)
  have hSf : S ∉ fp := fun hm => by
    rcases hfp S hm with e | e
    · exact hSx e
    · exact absurd hSl (Nat.not_lt.mpr e)
  have hSI : S ≠ it := Nat.ne_of_lt (Nat.lt_of_lt_of_le hSl hit)
  have key : ∀ (h : Heap) (c₁ tk : Nat), St 0 h → (∀ b o, b ≠ S → s.heap.get? b = some o → h.get? b = some o) →
      h.get? S = some { cls := .type "list", data := .seq #[] c₁ } → codeAny (model prog w) A (.builtin "list.extend.loop" ⟨[.ref S, .ref it, res], []⟩) R { s with heap := h, toks := tk, drawn := d } := by
    intro h c₁ tk hst hk hS₁
    refine codeAny_extend_loopS (Walks.toS W) hn S hSf res n 0 _ #[] c₁ rfl (Nat.zero_le _) hst hS₁ (ItemsOf.nil _) fun s' acc' c' hm hS' hacc => ?_
    rw [Moved.eq_with hm]
    refine hR s'.heap s'.toks d acc' c' (fun b o hb e => hm.heap b o (fun hmem => ?_) (hk b o hb e)) hS' (by rw [Array.length_toList]; exact hacc.1) (hpv _ hacc)
    rcases List.mem_cons.mp hmem with e' | hmem
    · exact hb e'
    · have lt := Heap.lt_size e
      rw [List.mem_singleton.mp hmem] at lt
      exact absurd lt (Nat.not_lt.mpr hit)
  have hS₁ := hk _ _ hS
  refine wpAny_bind (wpAny_holding (K.hint _ _ _ _ (K.keep _ _ hI hk) ?_))
  refine wpAny_ite_split (fun _ => ?_) (fun _ => wpAny_pure ⟨plainId_quiet PySem.F.plain_extend_loop _, key _ c₀ _ st (fun b o _ e => hk _ _ e) hS₁⟩)
  refine wpAny_bind (wpAny_rule ?_)
  refine wpAny_bind ?_
  show wpAny _ _ (updateSeq S (·.push .none) >>= fun _ => updateSeq S (·.pop)) _ _ _
  refine wpAny_bind (wpAny_updateSeq hS₁ rfl ?_)
  have hS₂ := Heap.get?_update_self (Obj.mapSeq (·.push Value.none)) hS₁ rfl
  refine wpAny_updateSeq (hz := by seq_fits) hS₂ rfl ?_
  have hS₃ := Heap.get?_update_self (Obj.mapSeq (·.pop)) hS₂ rfl
  refine wpAny_pure ⟨plainId_quiet PySem.F.plain_extend_loop _, key _ _ _ ?_ (fun b o hb e => ?_) hS₃⟩
  · refine W.frame 0 _ _ st fun b hb o e => ?_
    have hbS : b ≠ S := fun h => hSf (h ▸ hb)
    exact (Heap.get?_update_other _ _ (Ne.symm hbS)).trans ((Heap.get?_update_other _ _ (Ne.symm hbS)).trans e)
  · exact (Heap.get?_update_other _ _ (Ne.symm hb)).trans ((Heap.get?_update_other _ _ (Ne.symm hb)).trans (hk _ _ e))
theorem Src.collect (K : Src prog w T r fx n PV OK) {R : List Value → Shared → Prop} (hI : OK s.heap) (hh : A.handled = none) (hn : n ≤ sizeLine)
    (h : ∀ (h' : Heap) (tk : Nat) (d : Drawn) (vs : List Value), (∀ b o, s.heap.get? b = some o → h'.get? b = some o) → s.heap.objs.size ≤ h'.objs.size → vs.length = n → PV vs → R vs { s with heap := h', toks := tk, drawn := d }) :
    wpAny (model prog w) A (collect (.ref r)) R E s := by
  have la := K.there _ hI
  unfold PySem.collect
  refine wpAny_bind (wpAny_runValue (codeAny_builtin entry_proto_collect' ?_))
  rw [Around.under_plainId PySem.F.plain_proto_collect _]
  show wpAny _ A.in1 (newList [] >>= fun l => again (.builtin "list.__iadd__" ⟨[l, .ref r], []⟩)) _ _ s
  refine wpAny_bind (wpAny_newObj_type ?_)
  refine wpAny_pure ⟨plainId_quiet PySem.F.plain_list_iadd _, codeAny_builtin entry_list_iadd' ?_⟩
  rw [Around.under_plainId PySem.F.plain_list_iadd _]
  have hS₁ : (s.heap.push { cls := .type "list", data := .seq ([] : List Value).toArray }).get? s.heap.objs.size = some { cls := .type "list", data := .seq #[] } := Heap.get?_push_size _ rfl
  show wpAny _ A.in1 (Builtin.List.listExtendWith (.ref s.heap.objs.size) (.ref r) (.ref s.heap.objs.size)) _ _ _
  have key := K.extend (A := A) (s := { s with heap := s.heap.push { cls := .type "list", data := .seq ([] : List Value).toArray } })
    (R := fun (q : Result) (s' : Shared) => ∃ (h' : Heap) (tk : Nat) (d : Drawn) (acc' : Array Value) (c' : Nat), q = .ok (.ret (.ref s.heap.objs.size)) ∧ s' = { s with heap := h', toks := tk, drawn := d } ∧
      (∀ b o, s.heap.get? b = some o → h'.get? b = some o) ∧ h'.get? s.heap.objs.size = some { cls := .type "list", dict := none, data := .seq acc' c', slots := #[] } ∧ acc'.toList.length = n ∧ PV acc'.toList)
    (K.keep _ _ hI fun b o e => Heap.get?_push_of_some _ e) hh (S := s.heap.objs.size) (Nat.ne_of_gt la.1) (fun hm => absurd (la.2 _ hm) (Nat.lt_irrefl _)) (res := .ref s.heap.objs.size) hS₁ hn
    (fun h' tk d acc' c' hk hS' hi hp => ⟨h', tk, d, acc', c', rfl, rfl, fun b o e => hk b o (Nat.ne_of_lt (Heap.lt_size e)) (Heap.get?_push_of_some _ e), hS', hi, hp⟩)
  refine wpAny_mono key (fun fin s' x => ?_) fun e s' x => ?_
  · cases fin with
    | done f =>
      obtain ⟨h', tk, d, acc', c', e, rfl, hk, hS', hi, hp⟩ := x
      cases e
      show wpAny _ A (load s.heap.objs.size >>= _) _ _ _
      refine wpAny_bind (wpAny_load hS' ?_)
      exact wpAny_pure (h h' tk d acc'.toList hk (Nat.le_of_lt (Heap.lt_size hS')) hi hp)
    | again c₁ =>
      refine ⟨x.1, codeAny_mono x.2 fun q s₂ y => ?_⟩
      obtain ⟨h', tk, d, acc', c', rfl, rfl, hk, hS', hi, hp⟩ := y
      show wpAny _ A (load s.heap.objs.size >>= _) _ _ _
      refine wpAny_bind (wpAny_load hS' ?_)
      exact wpAny_pure (h h' tk d acc'.toList hk (Nat.le_of_lt (Heap.lt_size hS')) hi hp)
  · obtain ⟨_, _, _, _, _, e', _⟩ := x
    cases e'
theorem sorted_by {r : Addr} {ks : List Int} {Q : Value → Shared → Prop} (hn : ks.length ≤ sizeLine)
    (hc : ∀ (E : Value → Shared → Prop) (R : List Value → Shared → Prop), (∀ (h' : Heap) (tk : Nat) (d : Drawn) (vs : List Value) (ns : List Int), (∀ b o, s.heap.get? b = some o → h'.get? b = some o) → s.heap.objs.size ≤ h'.objs.size → IntsAre vs ns → ns.Perm ks → R vs { s with heap := h', toks := tk, drawn := d }) → wpAny (model prog w) A.in1 (collect (.ref r)) R E s)
    (h : ∀ (h' : Heap) (tk : Nat) (d : Drawn) (D e : Nat) (out : Array Value) (ns' : List Int), (∀ b o, s.heap.get? b = some o → h'.get? b = some o) → s.heap.objs.size ≤ D → h'.get? D = some { cls := .type "list", data := .seq out e } → IntsAre out.toList ns' → ns'.Perm ks → ns'.Pairwise (· ≤ ·) → Q (.ref D) { s with heap := h', toks := tk, drawn := d }) :
    wpAny (model prog w) A (call (.builtin "sorted") [.ref r]) Q E s := by
  refine Calls.call_function_entry kind_sorted plain_sorted entry_sorted (args_sorted1 _) ?_
  unfold Builtin.«sorted»
  refine wpAny_bind (m := checkCount "sorted" 1 1 _) (wpAny_pure ?_)
  refine wpAny_bind (hc _ _ fun h' tk d vs ns hk hle hi hp => ?_)
  have hl : vs.length ≤ sizeLine := by
    rw [hi.length, hp.length_eq]
    exact hn
  refine wpAny_bind (wpAny_newList ?_ hl)
  have hoL : (h'.push (seqObj "list" vs.toArray 0)).get? h'.objs.size = some (seqObj "list" vs.toArray 0) := Heap.get?_push_size _ rfl
  refine wpAny_bind (wpAny_holding (wpAny_call_entry slot_list_sort ⟨_, hoL, rfl⟩ entry_list_sort (list_sort_treeAny hoL hi hl fun out ns' a1 a2 a3 => ⟨_, rfl, ?_⟩) (args_list_sort _)))
  obtain ⟨e, he⟩ := sortedHeap_at (out := out) hoL
  refine wpAny_pure ⟨_, rfl, h _ tk d _ e out ns' (fun b o q => ?_) hle he a1 (a2.trans hp) a3⟩
  have q2 := hk _ _ q
  have lt := Heap.lt_size q2
  rw [sortedHeap_old (Nat.ne_of_lt lt) (by rw [Heap.size_push]; exact Nat.lt_succ_of_lt lt)]
  exact Heap.get?_push_of_some _ q2
theorem set_src (a : Addr) (ks : List Int) : Src prog w "set" a [a] ks.length (fun vs => ∃ ns, IntsAre vs ns ∧ ns.Perm ks) (fun h => SetI prog w h a ks) where
  type := fun s ⟨o, es, ep, t, ho, hx, _⟩ => ⟨o, ho, hx.1⟩
  there := fun h ⟨o, es, ep, t, ho, hx, _⟩ => ⟨Heap.lt_size ho, fun b hb => by rw [List.mem_singleton.mp hb]; exact Heap.lt_size ho⟩
  keep := fun h h' x k => x.at fun o e => k _ _ e
  notList := by decide
  notTuple := by decide
  hint := fun A E s Q ⟨o, es, ep, t, ho, hx, _⟩ h => hint_set ⟨o, ho, hx.1⟩ h
  iter := fun A E s Q hh hI h => setIter_I hI fun h2 d it fp vs ns St hk hit hfp hi hp HW st => by
    have e : vs.length = ks.length := by rw [hi.length, hp.length_eq]
    have W : Walks prog w A it fp [it] vs.length (fun i v => vs[i]? = some v) St := HW A hh
    rw [e] at W
    exact h h2 d it fp _ St hk hit (fun b hb => (hfp b hb).elim (fun e => .inl (by simp [e])) fun e => .inr e.1) (fun acc q => ⟨ns, by rw [items_same (e ▸ q)]; exact hi, hp⟩) W st
theorem src_of {T : String} {r d : Addr} {n : Nat} {P : Nat → Value → Prop} {OK : Heap → Prop} (K : PySem.W.KdlSrc prog w T r d n P OK) : Src prog w T r [r, d] n (fun vs => ∀ (j : Nat) (v : Value), vs[j]? = some v → P j v) OK where
  type := K.type
  there := fun h ok => ⟨(K.there h ok).1, fun b hb => by
    simp only [List.mem_cons, List.not_mem_nil, or_false] at hb
    rcases hb with e | e
    · rw [e]; exact (K.there h ok).1
    · rw [e]; exact (K.there h ok).2⟩
  keep := fun h h' ok k => K.keep h h' ok fun b _ o e => k b o e
  notList := K.notList
  notTuple := K.notTuple
  hint := K.hint
  iter := fun A E s Q hh ok h => by
    obtain ⟨oI, St, hit, W, st⟩ := K.iter A s hh ok
    refine hit _ _ (h _ s.drawn _ [s.heap.objs.size, d] P St (fun b o e => Heap.get?_push_of_some _ e) (Nat.le_refl _) (fun b hb => ?_) (fun acc q j v e => q.2 j v (by rw [← Array.getElem?_toList]; exact e)) W st)
    simp only [List.mem_cons, List.not_mem_nil, or_false] at hb
    rcases hb with e | e
    · exact .inr (by rw [e]; exact Nat.le_refl _)
    · exact .inl (by simp [e])
end
section
variable {X : Cx} {pins : List (Addr × Obj)} {σ : St} {H : Hp} {s : Shared}
theorem Inv.drawn (I : Inv X pins σ H s) (d : Drawn) : Inv X pins σ H { s with drawn := d } := ⟨I.ok, I.os, I.bare, I.base, I.loc, I.cell, I.free, I.freeC, I.pin, I.hok, I.len⟩
theorem Inv.laidD {h' : Heap} {a : Addr} {o : HO} {t' : Nat} {d : Drawn} (I : Inv X pins σ H s) (k : ∀ b u, s.heap.get? b = some u → h'.get? b = some u) (hp : s.heap.objs.size ≤ a) (new : ObjOk X.prog X.w (upd H a o) h' a o) : Inv X pins σ (upd H a o) { s with heap := h', toks := t', drawn := d } :=
  (I.laid (t' := t') k hp new).drawn d
def setO (P : Program) (w : World) (a : Addr) (ks : List Int) : HO := .ext fun h => SetI P w h a ks
theorem setO_ok {P : Program} {w : World} {H : Hp} {h : Heap} {a : Addr} {ks : List Int} (x : SetI P w h a ks) : ObjOk P w H h a (setO P w a ks) := by
  refine ⟨x, ?_, fun h1 h2 y k => y.at k⟩
  obtain ⟨o, es, ep, t, ho, _⟩ := x
  exact ⟨o, ho⟩
theorem scan_line : scanBound ≤ sizeLine := by decide
def rSet (X : Cx) : List V → Hp → VK → Prop := fun xs H Q => ∃ (a : Addr) (ns : List Int), xs = [.ref a] ∧ SqL X.K H a (ns.map V.int) ∧ ns.length + 1 < scanBound ∧ ∀ p, H p = none → Q (.ref p) (upd H p (setO X.prog X.w p (onceI ns)))
theorem cr_set (hc : X.calm = true) : CallR X (.type "set") (rSet X) := by
  intro pins s σ H xs us Q I r h
  obtain ⟨a, ns, rfl, hq, hb, q⟩ := h
  obtain ⟨its, rv, pl, hz⟩ := I.list hq
  rw [Vals.ref1 r]
  refine callSet_I (I.ok.hd hc) pl.isList (by simpa using rv.ints) hb fun h2 tk hS hk => ?_
  exact ⟨.ref _, _, I.laid (t' := tk) hk (Nat.le_refl _) (setO_ok hS), rfl, q _ (I.hok.fresh (Nat.le_refl _))⟩
theorem setI_of (I : Inv X pins σ H s) {a : Addr} {ks : List Int} (h : H a = some (setO X.prog X.w a ks)) : SetI X.prog X.w s.heap a ks := (I.hok a _ h).1
theorem cr_lenSet : CallR X (.builtin "len") (fun xs H Q => ∃ (a : Addr) (ks : List Int), xs = [.ref a] ∧ H a = some (setO X.prog X.w a ks) ∧ Q (.int ks.length) H) := by
  intro pins s σ H xs us Q I r h
  obtain ⟨a, ks, rfl, hq, q⟩ := h
  rw [Vals.ref1 r]
  obtain ⟨o, es, ep, t, ho, hx, hd, hel, hp, hnd, hb, hf, hn, hl⟩ := setI_of I hq
  have e : es.size = ks.length := by
    have := hp.length_eq
    simpa using this
  refine call_len_set ho hx hd hf (by have := Nat.lt_of_lt_of_le hb scan_line; rw [sizeLine_eq] at this; omega) ?_
  exact ⟨.int ks.length, H, I.tok _, ⟨_, by rw [e]⟩, q⟩
def rSortedSet (X : Cx) : List V → Hp → VK → Prop := fun xs H Q => ∃ (a : Addr) (ks : List Int), xs = [.ref a] ∧ H a = some (setO X.prog X.w a ks) ∧ ∀ (ns : List Int) (p : Addr), ns.Perm ks → ns.Pairwise (· ≤ ·) → H p = none → Q (.ref p) (upd H p (.lst (ns.map V.int)))
theorem cr_sortedSet (hc : X.calm = true) : CallR X (.builtin "sorted") (rSortedSet X) := by
  intro pins s σ H xs us Q I r h
  obtain ⟨a, ks, rfl, hq, q⟩ := h
  rw [Vals.ref1 r]
  have hI := setI_of I hq
  have hn : ks.length ≤ sizeLine := Nat.le_of_lt (Nat.lt_of_lt_of_le hI.len scan_line)
  refine sorted_by (ks := ks) hn (fun E R k => (set_src a ks).collect hI (I.ok.hd hc) hn fun h' tk d vs hk hle _ ⟨ns, hi, hp⟩ => k h' tk d vs ns hk hle hi hp) fun h' tk d D e out ns' hk hle hD hi hp hs => ?_
  refine ⟨.ref D, _, I.laidD (t' := tk) (d := d) (o := .lst (ns'.map V.int)) hk hle ⟨by rw [List.length_map, hp.length_eq]; exact hn, out.toList, e, vals_of_ints hi, hD⟩, rfl, q ns' D hp hs (I.hok.fresh hle)⟩
def iK (l : List (Int × V)) : List (Key × V) := l.map fun p => (Sum.inl p.1, p.2)
theorem kinds_are {P : Program} {w : World} {l : List (Int × V)} {vs : List (Key × Value)} (r : KV (iK l) vs) {us : List Value} (hl : us.length = vs.length) (h : ∀ (j : Nat) (v : Value), us[j]? = some v → ∃ k x, vs[j]? = some (k, x) ∧ (mixKind P w).is k v = true) : IntsAre us (l.map (·.1)) := by
  induction l generalizing vs us with
  | nil =>
    cases r
    have : us = [] := List.length_eq_zero_iff.mp hl
    subst this
    exact .nil
  | cons p l ih =>
    obtain ⟨i, y⟩ := p
    cases r with
    | @cons _ q _ rs hp t =>
      cases us with
      | nil => simp at hl
      | cons u us =>
        obtain ⟨k, x, e1, e2⟩ := h 0 u rfl
        have e3 : q = (k, x) := Option.some.inj e1
        subst e3
        have e4 : Sum.inl i = k := hp.1
        subst e4
        rcases keyIs_shape (k := Sum.inl i) (v := u) (by rw [mixKind_is] at e2; exact e2) with ⟨i', t', e5, e6⟩ | ⟨_, _, e5, _⟩
        · cases e5
          subst e6
          exact .cons _ _ (ih t (by simpa using hl) fun j v e => h (j + 1) v (by simpa using e))
        · cases e5
theorem kvals_are : ∀ {kvs : List (Key × V)} {vs : List (Key × Value)} {us : List Value}, KV kvs vs → us.length = vs.length → (∀ (j : Nat) (v : Value), us[j]? = some v → ∃ k, vs[j]? = some (k, v)) → Vals (kvs.map (·.2)) us
  | _, _, us, .nil, hl, _ => by
    have : us = [] := List.length_eq_zero_iff.mp hl
    subst this
    exact .nil
  | _, _, [], .cons _ _, hl, _ => by simp at hl
  | _, _, u :: us, .cons (b := q) hp t, hl, h => by
    obtain ⟨k, e1⟩ := h 0 u rfl
    have e3 : q = (k, u) := Option.some.inj e1
    subst e3
    exact .cons hp.2 (kvals_are t (by simpa using hl) fun j v e => h (j + 1) v (by simpa using e))
theorem cr_sortedD (hc : X.calm = true) : CallR X (.builtin "sorted") (fun xs H Q => ∃ (a : Addr) (l : List (Int × V)), xs = [.ref a] ∧ H a = some (.dK (iK l)) ∧ ∀ (ns : List Int) (p : Addr), ns.Perm (l.map (·.1)) → ns.Pairwise (· ≤ ·) → H p = none → Q (.ref p) (upd H p (.lst (ns.map V.int)))) := by
  intro pins s σ H xs us Q I r h
  obtain ⟨a, l, rfl, hq, q⟩ := h
  rw [Vals.ref1 r]
  obtain ⟨hz, lo, vs, rel, dd⟩ := dk_of I.hok hq
  obtain ⟨ep, hat⟩ := dd.dictAt
  have hlen : vs.length = l.length := by rw [← rel.length]; simp [iK]
  have hn : (l.map (·.1)).length ≤ sizeLine := by rw [List.length_map]; simpa [iK] using hz
  refine sorted_by (ks := l.map (·.1)) hn (fun E R k => (src_of (PySem.W.kdl_dict (knd := mixKind X.prog X.w) (kvs := vs) (ep := ep) lo)).collect hat (I.ok.hd hc) (by rw [hlen]; simpa using hn) fun h' tk d ws hk hle hwl hw => k h' tk d ws _ hk hle (kinds_are rel hwl hw) .rfl) fun h' tk d D e out ns' hk hle hD hi hp hs => ?_
  refine ⟨.ref D, _, I.laidD (t' := tk) (d := d) (o := .lst (ns'.map V.int)) hk hle ⟨by rw [List.length_map, hp.length_eq]; exact hn, out.toList, e, vals_of_ints hi, hD⟩, rfl, q ns' D hp hs (I.hok.fresh hle)⟩
theorem cr_listD (hc : X.calm = true) : CallR X (.type "list") (fun xs H Q => ∃ (a : Addr) (l : List (Int × V)), xs = [.ref a] ∧ H a = some (.dK (iK l)) ∧ ∀ p, H p = none → Q (.ref p) (upd H p (.lst ((l.map (·.1)).map V.int)))) := by
  intro pins s σ H xs us Q I r h
  obtain ⟨a, l, rfl, hq, q⟩ := h
  rw [Vals.ref1 r]
  obtain ⟨hz, lo, vs, rel, dd⟩ := dk_of I.hok hq
  obtain ⟨ep, hat⟩ := dd.dictAt
  have hlen : vs.length = l.length := by rw [← rel.length]; simp [iK]
  have hn : (l.map (·.1)).length ≤ sizeLine := by rw [List.length_map]; simpa [iK] using hz
  refine PySem.W.kdl_call (PySem.W.kdl_dict (knd := mixKind X.prog X.w) (kvs := vs) (ep := ep) lo) (I.ok.hd hc) hat (by rw [hlen]; simpa using hn) fun h' tk acc' c' hk hD hacc => ?_
  refine ⟨.ref _, _, I.laid (t' := tk) (o := .lst ((l.map (·.1)).map V.int)) hk (Nat.le_refl _) ⟨by rw [List.length_map]; exact hn, acc'.toList, c', vals_of_ints (kinds_are rel (by rw [Array.length_toList]; exact hacc.1) fun j v e => hacc.2 j v (by rw [← Array.getElem?_toList]; exact e)), hD⟩, rfl, q _ (I.hok.fresh (Nat.le_refl _))⟩
def viewO (a d : Addr) : HO := .ext fun h => h.IsValuesView a d
theorem mt_values : MtR X "dict.values" (fun x xs H Q => ∃ (d : Addr) (kvs : List (Key × V)), x = .ref d ∧ xs = [] ∧ H d = some (.dK kvs) ∧ ∀ p, H p = none → Q (.ref p) (upd H p (viewO p d))) := by
  intro pins s σ H x xs v us Q I rx r h
  obtain ⟨d, kvs, rfl, rfl, hq, q⟩ := h
  cases rx
  cases r
  obtain ⟨hz, lo, vs, rel, dd⟩ := dk_of I.hok hq
  refine call_meetsIn PySem.F.slot_dict_values dd.typeIs PySem.F.entry_dict_values (PySem.F.args_dict_values_1 _) (meets_dict_values (mixKind X.prog X.w) d lo) ⟨⟨vs, dd⟩, ?_⟩
  refine ⟨.ref _, _, I.laid (t' := s.toks) (o := viewO s.heap.objs.size d) (fun b ob e => Heap.get?_push_of_some _ e) (Nat.le_refl _) ⟨⟨_, Heap.get?_push_size _ rfl, rfl, rfl⟩, ⟨_, Heap.get?_push_size _ rfl⟩, fun h1 h2 ⟨o, ho, y⟩ k => ⟨o, k o ho, y⟩⟩, rfl, q _ (I.hok.fresh (Nat.le_refl _))⟩
theorem cr_listV (hc : X.calm = true) : CallR X (.type "list") (fun xs H Q => ∃ (a d : Addr) (kvs : List (Key × V)), xs = [.ref a] ∧ H a = some (viewO a d) ∧ H d = some (.dK kvs) ∧ ∀ p, H p = none → Q (.ref p) (upd H p (.lst (kvs.map (·.2))))) := by
  intro pins s σ H xs us Q I r h
  obtain ⟨a, d, kvs, rfl, hv, hq, q⟩ := h
  rw [Vals.ref1 r]
  obtain ⟨hz, lo, vs, rel, dd⟩ := dk_of I.hok hq
  obtain ⟨ep, hat⟩ := dd.dictAt
  have hlen : vs.length = kvs.length := rel.length.symm
  refine PySem.W.kdl_call (PySem.W.kdl_values (knd := mixKind X.prog X.w) (kvs := vs) (ep := ep)) (I.ok.hd hc) ⟨(I.hok a _ hv).1, hat⟩ (by rw [hlen]; exact hz) fun h' tk acc' c' hk hD hacc => ?_
  refine ⟨.ref _, _, I.laid (t' := tk) (o := .lst (kvs.map (·.2))) hk (Nat.le_refl _) ⟨by rw [List.length_map]; exact hz, acc'.toList, c', kvals_are rel (by rw [Array.length_toList]; exact hacc.1) fun j v e => hacc.2 j v (by rw [← Array.getElem?_toList]; exact e), hD⟩, rfl, q _ (I.hok.fresh (Nat.le_refl _))⟩
end
end L2
end
section
set_option Elab.async false
set_option linter.all false
set_option maxRecDepth 100000
namespace L2
open PySem PySem.Spec PyProof.Rows
section
variable {prog : Program} {w : World} {A : Around} {E : Value → Shared → Prop} {s : Shared}
theorem alive_ok {a : Addr} {Q : Option Obj → Shared → Prop} (h : Q (s.heap.get? a) s) : wpAny (model prog w) A (loadIfAlive a) Q E s := fun Γ p hΓ => h
def ZipH (h : Heap) (z TI TO T : Addr) : Prop := ∃ b, h.get? z = some { cls := .type "zip", dict := none, data := .fields #[rawInt T, .bool b, .bool false, .ref TI, .ref TO], slots := #[] }
theorem ZipH.ty {z TI TO T : Addr} (x : ZipH s.heap z TI TO T) : s.TypeIs (.ref z) "zip" := let ⟨_, e⟩ := x; ⟨_, e, rfl⟩
theorem notFree {z TI TO T : Addr} {oT : Obj} {Q : Bool → Shared → Prop} (hz : ZipH s.heap z TI TO T) (hT : s.heap.get? T = some oT) (h : ∀ h', ZipH h' z TI TO T → Heap.SameBut z s.heap h' → Q false { s with heap := h' }) :
    wpAny (model prog w) A (Builtin.SmallTypes.ownedTupleIsFree (.ref z)) Q E s := by
  obtain ⟨b, hz⟩ := hz
  unfold Builtin.SmallTypes.ownedTupleIsFree
  refine wpAny_bind (wpAny_field hz rfl (x := rawInt T) rfl ?_)
  show wpAny _ _ (loadIfAlive ((T : Nat) : Int).toNat >>= _) _ _ _
  rw [Int.toNat_natCast]
  refine wpAny_bind (alive_ok ?_)
  rw [hT]
  show wpAny _ _ (field (.ref z) 1 >>= _) _ _ _
  refine wpAny_bind (wpAny_field hz rfl (x := .bool b) rfl ?_)
  cases b with
  | true =>
    refine wpAny_ite_split (fun q => absurd q (by decide)) (fun _ => ?_)
    exact wpAny_pure (h s.heap ⟨true, hz⟩ ⟨rfl, fun _ _ => rfl⟩)
  | false =>
    refine wpAny_ite_split (fun _ => ?_) (fun q => absurd (by decide) q)
    refine wpAny_bind (wpAny_setField_rec hz (by simp) fun h₁ hz₁ hs₁ => ?_)
    exact wpAny_pure (h h₁ ⟨true, hz₁⟩ hs₁)
set_option maxHeartbeats 1000000 in
theorem zipH_item {z TI TO T i1 i2 l1 l2 : Addr} {oT : Obj} {k1 k2 : Nat} {xs ys : Array Value} {x y : Value} {Q : Option Value → Shared → Prop} (D : ZipApart z TI TO i1 i2 l1 l2)
    (hz : ZipH s.heap z TI TO T) (hTI : IsPair s.heap TI (.ref i1) (.ref i2)) (hT : s.heap.get? T = some oT)
    (h1 : s.heap.IsListIter i1 l1 k1) (h2 : s.heap.IsListIter i2 l2 k2) (hl1 : s.heap.IsList l1 xs) (hl2 : s.heap.IsList l2 ys) (hx : xs[k1]? = some x) (hy : ys[k2]? = some y)
    (hQ : ∀ h' N, ZipH h' z TI TO T → h'.IsListIter i1 l1 (k1 + 1) → h'.IsListIter i2 l2 (k2 + 1) → IsPair h' N x y → s.heap.get? N = none →
      (∀ c o, c ≠ z → c ≠ i1 → c ≠ i2 → s.heap.get? c = some o → h'.get? c = some o) → Q (some (.ref N)) { s with heap := h' }) :
    wpAny (model prog w) A (pyNext (.ref z)) Q E s := by
  unfold pyNext
  refine wpAny_bind (wpAny_attempt (wpAny_callSpecial?_slot (name := Str.ofString "__next__") hz.ty F.slot_zip_next
    (wpAny_call_entry F.slot_zip_next hz.ty F.entry_zip_next ?_ (F.args_zip_next_1 _))))
  have hz0 := hz
  obtain ⟨b0, hz⟩ := hz
  show wpAny _ _ (field (.ref z) 2 >>= _) _ _ _
  refine wpAny_bind (wpAny_field hz rfl (x := .bool false) rfl ?_)
  show wpAny _ _ (field (.ref z) 3 >>= _) _ _ _
  refine wpAny_bind (wpAny_field hz rfl (x := .ref TI) rfl ?_)
  refine wpAny_bind (wpAny_seqItems hTI rfl ?_)
  show wpAny _ _ (Builtin.SmallTypes.ownedTupleIsFree (.ref z) >>= _) _ _ _
  refine wpAny_bind (notFree hz0 hT fun h₁ hz₁ hs₁ => ?_)
  simp only [Bool.false_eq_true, if_false]
  simp only [← Array.forIn_toList, List.forIn_cons, List.forIn_nil]
  refine wpAny_bind (wpAny_bind (wpAny_bind (wpAny_holding ?_)))
  show wpAny _ _ (Builtin.SmallTypes.nextOf (.ref i1) >>= _) _ _ _
  refine wpAny_bind (wpAny_nextOf_list_item (h1.extBut hs₁.extBut D.i1z) (hl1.extBut hs₁.extBut D.l1z) hx fun h₂ h1₂ hs₂ => wpAny_pure ?_)
  refine wpAny_pure ?_
  refine wpAny_bind (wpAny_bind (wpAny_holding ?_))
  show wpAny _ _ (Builtin.SmallTypes.nextOf (.ref i2) >>= _) _ _ _
  refine wpAny_bind (wpAny_nextOf_list_item ((h2.extBut hs₁.extBut D.i2z).extBut hs₂.extBut D.i12.symm)
    ((hl2.extBut hs₁.extBut D.l2z).extBut hs₂.extBut D.l2i1) hy fun h₄ h2₄ hs₄ => wpAny_pure ?_)
  refine wpAny_pure (wpAny_pure ?_)
  refine wpAny_bind (wpAny_newTuple ?_ (by show 2 ≤ sizeLine; decide))
  have hsz : h₄.objs.size = s.heap.objs.size := by rw [hs₄.1, hs₂.1, hs₁.1]
  refine wpAny_pure ⟨_, rfl, wpAny_pure ?_⟩
  have up : ∀ c o, c ≠ z → c ≠ i1 → c ≠ i2 → s.heap.get? c = some o → h₄.get? c = some o := fun c o a1 a2 a3 e => hs₄.extBut _ _ a3 (hs₂.extBut _ _ a2 (hs₁.extBut _ _ a1 e))
  obtain ⟨b1, hz₁'⟩ := hz₁
  refine hQ _ h₄.objs.size ⟨b1, Heap.get?_push_of_some _ (hs₄.extBut _ _ D.i2z.symm (hs₂.extBut _ _ D.i1z.symm hz₁'))⟩ ((h1₂.extBut hs₄.extBut D.i12).at fun o e => Heap.get?_push_of_some _ e) (h2₄.at fun o e => Heap.get?_push_of_some _ e) (Heap.get?_push_size _ rfl) ?_ fun c o a1 a2 a3 e => Heap.get?_push_of_some _ (up c o a1 a2 a3 e)
  rw [hsz]
  cases e : s.heap.get? s.heap.objs.size with
  | none => rfl
  | some o => exact absurd (Heap.lt_size e) (Nat.lt_irrefl _)
set_option maxHeartbeats 1000000 in
theorem zipH_end {z TI TO T i1 i2 l1 l2 : Addr} {oT : Obj} {k1 : Nat} {xs : Array Value} {Q : Option Value → Shared → Prop} (hh : A.handled = none) (D : ZipApart z TI TO i1 i2 l1 l2)
    (hz : ZipH s.heap z TI TO T) (hTI : IsPair s.heap TI (.ref i1) (.ref i2)) (hT : s.heap.get? T = some oT)
    (h1 : s.heap.IsListIter i1 l1 k1) (hl1 : s.heap.IsList l1 xs) (hx : xs[k1]? = none)
    (hQ : ∀ h', (∀ c o, c ≠ z → c ≠ i1 → s.heap.get? c = some o → h'.get? c = some o) → Q none { s with heap := h' }) :
    wpAny (model prog w) A (pyNext (.ref z)) Q E s := by
  unfold pyNext
  refine wpAny_bind (wpAny_attempt (wpAny_callSpecial?_slot (name := Str.ofString "__next__") hz.ty F.slot_zip_next
    (wpAny_call_entry F.slot_zip_next hz.ty F.entry_zip_next ?_ (F.args_zip_next_1 _))))
  have hz0 := hz
  obtain ⟨b0, hz⟩ := hz
  show wpAny _ _ (field (.ref z) 2 >>= _) _ _ _
  refine wpAny_bind (wpAny_field hz rfl (x := .bool false) rfl ?_)
  show wpAny _ _ (field (.ref z) 3 >>= _) _ _ _
  refine wpAny_bind (wpAny_field hz rfl (x := .ref TI) rfl ?_)
  refine wpAny_bind (wpAny_seqItems hTI rfl ?_)
  show wpAny _ _ (Builtin.SmallTypes.ownedTupleIsFree (.ref z) >>= _) _ _ _
  refine wpAny_bind (notFree hz0 hT fun h₁ hz₁ hs₁ => ?_)
  simp only [Bool.false_eq_true, if_false]
  simp only [← Array.forIn_toList, List.forIn_cons, List.forIn_nil]
  refine wpAny_bind (wpAny_bind (wpAny_bind (wpAny_holding ?_)))
  show wpAny _ _ (Builtin.SmallTypes.nextOf (.ref i1) >>= _) _ _ _
  refine wpAny_bind (wpAny_nextOf_list_end (show A.in1.handled = none from hh) (h1.extBut hs₁.extBut D.i1z) (hl1.extBut hs₁.extBut D.l1z) hx fun h₂ e hs₂ he => ?_)
  obtain ⟨oe, hoe, hce⟩ := he
  refine wpAny_bind (wpAny_isInstance (T := "StopIteration") (b := true) ⟨oe, hoe, hce⟩ isSubtype_stop ?_)
  exact wpAny_pure (hQ _ fun c o a1 a2 q => hs₂ _ _ a2 (hs₁.extBut _ _ a1 q))
end
end L2
end
section
set_option Elab.async false
set_option linter.all false
set_option maxRecDepth 100000
namespace L2
open PySem PySem.Spec PyProof.Rows
theorem zip_keys_none : typeLookup (.type "zip") "keys" = pure none := am_miss_of_fast (by first | decide +kernel | rfl)
theorem zip_getattr_none : typeLookup (.type "zip") "__getattr__" = pure none := by rw [typeLookup_type, builtinLookup_eq_fast]; kernel_rfl
theorem zip_entry_getattribute : entryFor table "zip.__getattribute__" = some Builtin.«object.__getattribute__» :=
  entryFor_alias (id' := "object.__getattribute__") (by kernel_rfl) (by decide +kernel) (by decide +kernel) (by kernel_rfl)
theorem meets_miss_zip (a : Addr) (vs : Array Value) (sl : Array (Option Value)) (name : Str) (u : Tok) (hmiss : typeLookup (.type "zip") name = pure none) (hname : (["__module__", "__name__", "__qualname__", "__doc__", "__annotations__"] : List Str).contains name = false) (hsz : name.length + 100 ≤ sizeLine := by size_fits) :
    Meets (Builtin.«object.__getattribute__» ⟨[.ref a, .str name u], []⟩) (fun A R s => s.heap.get? a = some { cls := .type "zip", dict := none, data := .fields vs, slots := sl } ∧ raisesAttr (.ref a) name A R s) :=
  Meets.of_wp fun prog w A R s hs => by
    obtain ⟨hp, g, d, tk, os⟩ := s
    obtain ⟨hx, hs⟩ := hs
    have hT : (⟨hp, g, d, tk, os⟩ : Shared).TypeIs (.ref a) "zip" := ⟨_, hx, rfl⟩
    unfold Builtin.«object.__getattribute__»
    repeat (any_goals (first | assumption | wp_step))
    simp only [hname, Bool.false_eq_true, if_false]
    repeat (any_goals (first | assumption | wp_step))
    exact wpAny_raiseAttrError hs.1 hs.2 (attrMsg_fits (by decide +kernel) hsz)
section
variable {prog : Program} {w : World} {A : Around} {E : Value → Shared → Prop}
theorem miss_zip {s : Shared} {a : Addr} {vs : Array Value} {Q : Option Value → Shared → Prop} (hx : s.heap.get? a = some { cls := .type "zip", dict := none, data := .fields vs, slots := #[] }) (hA : A.handled = none)
    (h : ∀ h' tk, (∀ b ob, s.heap.get? b = some ob → h'.get? b = some ob) → Q none { s with heap := h', toks := tk }) : wpAny (model prog w) A (getAttr? (.ref a) "keys") Q E s := by
  obtain ⟨hp, g, d, tk, os⟩ := s
  have hT : ∀ tk', (⟨hp, g, d, tk', os⟩ : Shared).TypeIs (.ref a) "zip" := fun _ => ⟨_, hx, rfl⟩
  have hmiss := zip_keys_none
  have hname : (["__module__", "__name__", "__qualname__", "__doc__", "__annotations__"] : List Str).contains "keys" = false := by decide +kernel
  have hsz : ("keys" : Str).length + 100 ≤ sizeLine := by first | size_fits | decide +kernel
  have f1 := sub_AttributeError
  have f3 := PySem.F.slot_zip_getattribute.lookup
  have f4 := PySem.F.slot_zip_getattribute.bind (.ref a)
  have f5 := zip_getattr_none
  unfold getAttr? getAttrBy? getAttrBy
  repeat (any_goals (first | assumption | exact hT _ | ((with_reducible show wpAny _ _ (call (Value.builtin "zip.__getattribute__") _ _) _ _ _); refine call_meets PySem.F.slot_zip_getattribute (hT _) zip_entry_getattribute (PySem.F.args_zip_getattribute_2 _ _) (meets_miss_zip a vs #[] "keys" _ hmiss hname hsz) ⟨hx, hA, fun h' tk' e hx' => ?_⟩) | wp_step))
  obtain ⟨t', u', he⟩ := hx'.there
  show wpAny _ _ (getattributeRaised _ _ _ _ _ _ _) _ _ _
  unfold getattributeRaised
  repeat (any_goals (first | assumption | wp_step))
  all_goals first | exact h _ _ hx'.keeps | (dsimp only; repeat (any_goals (first | assumption | exact h _ _ hx'.keeps | wp_step)))
def ZSt (h : Heap) (z TI TO i1 i2 S : Addr) : Prop := (IsZip h z TI TO .none ∧ ∃ a b, IsPair h TO a b) ∨ ∃ T oT, ZipH h z TI TO T ∧ h.get? T = some oT ∧ T ≠ z ∧ T ≠ TO ∧ T ≠ i1 ∧ T ≠ i2 ∧ T ≠ S
theorem ZSt.at {h h' : Heap} {z TI TO i1 i2 S : Addr} (x : ZSt h z TI TO i1 i2 S) (hzS : z ≠ S) (hTS : TO ≠ S) (k : ∀ c o, c ≠ S → h.get? c = some o → h'.get? c = some o) : ZSt h' z TI TO i1 i2 S := by
  rcases x with ⟨a, x, y, b⟩ | ⟨T, oT, ⟨b, a⟩, c, d1, d2, d3, d4, d5⟩
  · exact .inl ⟨k _ _ hzS a, x, y, k _ _ hTS b⟩
  · exact .inr ⟨T, oT, ⟨b, k _ _ hzS a⟩, k _ _ d5 c, d1, d2, d3, d4, d5⟩
theorem zs_item {s : Shared} {z TI TO i1 i2 l1 l2 S : Addr} {k : Nat} {xs ys : Array Value} {x y : Value} {Q : Option Value → Shared → Prop} (D : ZipApart z TI TO i1 i2 l1 l2) (hS : ∃ o, s.heap.get? S = some o)
    (hz : ZSt s.heap z TI TO i1 i2 S) (hTI : IsPair s.heap TI (.ref i1) (.ref i2)) (h1 : s.heap.IsListIter i1 l1 k) (h2 : s.heap.IsListIter i2 l2 k) (hl1 : s.heap.IsList l1 xs) (hl2 : s.heap.IsList l2 ys) (hx : xs[k]? = some x) (hy : ys[k]? = some y)
    (hQ : ∀ h' N, ZSt h' z TI TO i1 i2 S → h'.IsListIter i1 l1 (k + 1) → h'.IsListIter i2 l2 (k + 1) → IsPair h' N x y → N ≠ S →
      (∀ c o, c ≠ z → c ≠ TO → c ≠ i1 → c ≠ i2 → s.heap.get? c = some o → h'.get? c = some o) → Q (some (.ref N)) { s with heap := h' }) :
    wpAny (model prog w) A (pyNext (.ref z)) Q E s := by
  obtain ⟨oS, hS⟩ := hS
  rcases hz with ⟨hz, a, b, hTO⟩ | ⟨T, oT, hz, hT, d1, d2, d3, d4, d5⟩
  · refine wpAny_pyNext_zip_item D hz hTI hTO h1 h2 hl1 hl2 hx hy fun h' z' TO' h1' h2' hN hsz hk => ?_
    have nw : ∀ c o, s.heap.get? c = some o → s.heap.objs.size ≠ c := fun c o e => Nat.ne_of_gt (Heap.lt_size e)
    obtain ⟨o1, e1, _⟩ := h1
    obtain ⟨o2, e2, _⟩ := h2
    exact hQ h' s.heap.objs.size (.inr ⟨_, _, ⟨false, z'⟩, hN, nw _ _ hz, nw _ _ hTO, nw _ _ e1, nw _ _ e2, nw _ _ hS⟩) h1' h2' hN (nw _ _ hS) hk
  · refine zipH_item D hz hTI hT h1 h2 hl1 hl2 hx hy fun h' N z' h1' h2' hN hfr hk => ?_
    refine hQ h' N (.inr ⟨T, oT, z', hk _ _ d1 d3 d4 hT, d1, d2, d3, d4, d5⟩) h1' h2' hN (fun e => ?_) fun c o a1 _ a3 a4 q => hk c o a1 a3 a4 q
    rw [e, hS] at hfr
    cases hfr
theorem zs_end {s : Shared} {z TI TO i1 i2 l1 l2 S : Addr} {k : Nat} {xs ys : Array Value} {Q : Option Value → Shared → Prop} (hh : A.handled = none) (D : ZipApart z TI TO i1 i2 l1 l2)
    (hz : ZSt s.heap z TI TO i1 i2 S) (hTI : IsPair s.heap TI (.ref i1) (.ref i2)) (h1 : s.heap.IsListIter i1 l1 k) (h2 : s.heap.IsListIter i2 l2 k) (hl1 : s.heap.IsList l1 xs) (hl2 : s.heap.IsList l2 ys) (hx : xs[k]? = none)
    (hQ : ∀ h', (∀ c o, c ≠ z → c ≠ TO → c ≠ i1 → c ≠ i2 → s.heap.get? c = some o → h'.get? c = some o) → Q none { s with heap := h' }) :
    wpAny (model prog w) A (pyNext (.ref z)) Q E s := by
  rcases hz with ⟨hz, a, b, hTO⟩ | ⟨T, oT, hz, hT, d1, d2, d3, d4, d5⟩
  · exact wpAny_pyNext_zip_end hh D hz hTI hTO h1 h2 hl1 hl2 (.inl hx) hQ
  · exact zipH_end hh D hz hTI hT h1 hl1 hx fun h' hk => hQ h' fun c o a1 _ a3 _ q => hk c o a1 a3 q
structure SApart (S z TI TO i1 i2 l1 l2 : Addr) : Prop where
  z : z ≠ S
  TI : TI ≠ S
  TO : TO ≠ S
  i1 : i1 ≠ S
  i2 : i2 ≠ S
  l1 : l1 ≠ S
  l2 : l2 ≠ S
theorem updZ {R : Result → Shared → Prop} {S z TI TO i1 i2 l1 l2 : Addr} {xs ys : Array Value} {res : Value} (hh : A.handled = none) (D : ZipApart z TI TO i1 i2 l1 l2) (F : SApart S z TI TO i1 i2 l1 l2) :
    ∀ (rest : List (Key × Value)) (i : Nat) (acc : List (Key × Value)) (ix : Int) (t : Tok) (s : Shared), xs.size = i + rest.length → acc.length + rest.length ≤ sizeLine →
      (∀ (j : Nat) (q : Key × Value), rest[j]? = some q → ∃ u : Value, xs[i + j]? = some u ∧ ys[i + j]? = some q.2 ∧ keyIs q.1 u = true) →
      ZSt s.heap z TI TO i1 i2 S → IsPair s.heap TI (.ref i1) (.ref i2) → s.heap.IsListIter i1 l1 i → s.heap.IsListIter i2 l2 i → s.heap.IsList l1 xs → s.heap.IsList l2 ys → s.heap.DictOf (mixKind prog w) S acc →
      (∀ h' tk, h'.DictOf (mixKind prog w) S (merged acc rest) → (∀ b o, b ≠ S → b ≠ z → b ≠ TO → b ≠ i1 → b ≠ i2 → s.heap.get? b = some o → h'.get? b = some o) → R (.ok (.ret res)) { s with heap := h', toks := tk }) →
      codeAny (model prog w) A (.builtin "dict.update.loop" ⟨[.ref S, .ref z, .int ix t, res], []⟩) R s
  | [], i, acc, ix, t, s, hsz, hln, ht, hz, hTI, h1, h2, hl1, hl2, hm, hR => by
    refine codeAny_builtin ud_entry ?_
    rw [Around.under_plainId ud_plain _]
    show wpAny _ A.in1 (pyNext (.ref z) >>= _) _ _ s
    refine wpAny_bind (zs_end (A := A.in1) (xs := xs) (ys := ys) hh D hz hTI h1 h2 hl1 hl2 (by first | exact Array.getElem?_eq_none (Nat.le_of_eq hsz) | (simp at hsz; simp; omega)) fun h' he => ?_)
    show wpAny _ A.in1 (Builtin.Dict.addKeywords S [] >>= _) _ _ _
    refine wpAny_bind (wpAny_pure (wpAny_pure ?_))
    exact hR h' s.toks (hm.at fun o e => he S o F.z.symm F.TO.symm F.i1.symm F.i2.symm e) fun b o _ a1 a2 a3 a4 e => he b o a1 a2 a3 a4 e
  | q :: rest, i, acc, ix, t, s, hsz, hln, ht, hz, hTI, h1, h2, hl1, hl2, hm, hR => by
    obtain ⟨u, hb, hb2, hk⟩ := ht 0 q rfl
    rw [List.length_cons] at hsz hln
    refine codeAny_builtin ud_entry ?_
    rw [Around.under_plainId ud_plain _]
    show wpAny _ A.in1 (pyNext (.ref z) >>= _) _ _ s
    have hSo : ∃ o, s.heap.get? S = some o := by
      obtain ⟨o, es, ep, e, _⟩ := id hm
      exact ⟨o, e⟩
    refine wpAny_bind (zs_item D hSo hz hTI h1 h2 hl1 hl2 (by simpa using hb) (by simpa using hb2) fun hA N z1 i1' i2' hN hNS hk1 => ?_)
    have hm1 : hA.DictOf (mixKind prog w) S acc := hm.at fun o e => hk1 S o F.z.symm F.TO.symm F.i1.symm F.i2.symm e
    show wpAny _ A.in1 (holding [Value.ref N] _ >>= _) _ _ _
    refine wpAny_bind (wpAny_holding ?_)
    refine wpAny_bind (wpAny_tryCatch ?_)
    unfold Builtin.Dict.pairItems
    refine wpAny_bind (wpAny_typeOf (T := "tuple") ⟨_, hN, rfl⟩ ?_)
    rw [if_pos (by first | decide | rfl | simp)]
    refine wpAny_bind (wpAny_seqItems hN rfl (wpAny_pure ?_))
    show wpAny _ A.in1 (holding [u, q.2] (dictSet S u q.2)) _ _ _
    refine wpAny_holding (wpAny_dictSet_pairs (knd := mixKind prog w) (k := q.1) hk hm1 (fun h2' hm2 hs2 => ?_) (by omega))
    have k2 : ∀ c o, c ≠ S → hA.get? c = some o → h2'.get? c = some o := fun c o hc e => hs2.extBut c o hc e
    refine wpAny_pure ⟨plainId_quiet ud_plain _, updZ (xs := xs) (ys := ys) hh D F rest (i + 1) (stored acc q.1 q.2) (ix + 1) 0 _ (show xs.size = i + 1 + rest.length by omega) ?_ (fun j q' e => ?_) (z1.at F.z F.TO k2) ?_ (i1'.at fun o e => k2 _ o F.i1 e) (i2'.at fun o e => k2 _ o F.i2 e) ?_ ?_ hm2 fun h' tk hd' k => ?_⟩
    · have z := stored_length_le acc q.1 q.2
      omega
    · obtain ⟨u', e1, e2, e3⟩ := ht (j + 1) q' (by simpa using e)
      rw [show i + 1 + j = i + (j + 1) by omega]
      exact ⟨u', e1, e2, e3⟩
    · exact k2 _ _ F.TI (hk1 _ _ D.TIz D.TITO D.TIi1 D.TIi2 hTI)
    · exact hl1.at fun o e => k2 _ o F.l1 (hk1 _ o D.l1z D.l1TO D.l1i1 D.l1i2 e)
    · exact hl2.at fun o e => k2 _ o F.l2 (hk1 _ o D.l2z D.l2TO D.l2i1 D.l2i2 e)
    · exact hR h' tk hd' fun c oc c0 c1 c2 c3 c4 e => k c oc c0 c1 c2 c3 c4 (k2 c oc c0 (hk1 c oc c1 c2 c3 c4 e))
theorem call_dict_zip {s : Shared} {z TI TO i1 i2 l1 l2 : Addr} {xs ys : Array Value} {prs : List (Key × Value)} {Q : Value → Shared → Prop} (hh : A.handled = none) (D : ZipApart z TI TO i1 i2 l1 l2)
    (hz : IsZip s.heap z TI TO .none) (hTI : IsPair s.heap TI (.ref i1) (.ref i2)) (hTO : ∃ a b, IsPair s.heap TO a b) (h1 : s.heap.IsListIter i1 l1 0) (h2 : s.heap.IsListIter i2 l2 0) (hl1 : s.heap.IsList l1 xs) (hl2 : s.heap.IsList l2 ys)
    (hsz : xs.size = prs.length) (hln : prs.length ≤ sizeLine) (ht : ∀ (j : Nat) (q : Key × Value), prs[j]? = some q → ∃ u : Value, xs[j]? = some u ∧ ys[j]? = some q.2 ∧ keyIs q.1 u = true)
    (h : ∀ h' tk, h'.DictOf (mixKind prog w) s.heap.objs.size (merged [] prs) → (∀ b o, b ≠ z → b ≠ TO → b ≠ i1 → b ≠ i2 → s.heap.get? b = some o → h'.get? b = some o) → Q (.ref s.heap.objs.size) { s with heap := h', toks := tk }) :
    wpAny (model prog w) A (call (.type "dict") [.ref z]) Q E s := by
  refine callType_codes (Q₁ := fun obj s₁ => obj = .ref s.heap.objs.size ∧ s₁ = { s with heap := s.heap.push { cls := .type "dict", data := .dict #[] } }) PySem.F.kt_called_dict (PySem.F.kt_typeCall_dict_1 _) PySem.F.entry_dict_init (kt_code_dict_new _ ⟨rfl, rfl⟩) ?_
  rintro obj s₁ ⟨rfl, rfl⟩
  have hnew : (s.heap.push { cls := .type "dict", data := .dict #[] }).DictOf (mixKind prog w) s.heap.objs.size [] := Heap.DictOf.new s.heap
  have k0 : ∀ b o, s.heap.get? b = some o → (s.heap.push { cls := .type "dict", data := .dict #[] }).get? b = some o := fun b o e => Heap.get?_push_of_some _ e
  have lt : ∀ b o, s.heap.get? b = some o → b ≠ s.heap.objs.size := fun b o e => Nat.ne_of_lt (Heap.lt_size e)
  refine ⟨hnew.typeIs, PySem.F.args_dict_init_2 _ _, ?_⟩
  unfold Builtin.«dict.__init__»
  refine wpAny_bind ?_
  unfold Builtin.Dict.selfAndRest
  refine wpAny_bind (wpAny_notOrdered_dict hnew.typeIs ?_)
  show wpAny _ _ (pure (s.heap.objs.size, [Value.ref z])) _ _ _
  refine wpAny_pure ?_
  show wpAny _ _ (Builtin.Dict.updateFrom "dict.__init__" s.heap.objs.size (.ref z) [] .none) _ _ _
  unfold Builtin.Dict.updateFrom
  refine wpAny_bind (wpAny_typeOf (T := "zip") ⟨_, k0 _ _ hz, rfl⟩ ?_)
  rw [if_pos (by first | decide | rfl | simp)]
  refine wpAny_bind (miss_zip (k0 _ _ hz) hh fun hB tk1 hk1 => ?_)
  rw [if_pos (show (none : Option Value).isNone = true from rfl)]
  refine wpAny_bind (wpAny_rule ?_)
  have kB : ∀ b o, s.heap.get? b = some o → hB.get? b = some o := fun b o e => hk1 _ _ (k0 _ _ e)
  refine wpAny_bind (wpAny_pyIter_zip (s := { s with heap := hB, toks := tk1 }) (kB _ _ hz) ?_)
  obtain ⟨xa, xb, hTO⟩ := hTO
  have F : SApart s.heap.objs.size z TI TO i1 i2 l1 l2 := by
    obtain ⟨o1, e1, _⟩ := h1
    obtain ⟨o2, e2, _⟩ := h2
    obtain ⟨o3, e3, _⟩ := hl1
    obtain ⟨o4, e4, _⟩ := hl2
    exact ⟨lt _ _ hz, lt _ _ hTI, lt _ _ hTO, lt _ _ e1, lt _ _ e2, lt _ _ e3, lt _ _ e4⟩
  have key := updZ (prog := prog) (w := w) (A := A.in1) (R := wants (fun r s₂ => r = .none ∧ Q (.ref s.heap.objs.size) s₂) E) (S := s.heap.objs.size) (xs := xs) (ys := ys) (res := Value.none) hh D F prs 0 [] 0 0
    { s with heap := hB, toks := tk1 } (by rw [hsz, Nat.zero_add]) (by rw [List.length_nil, Nat.zero_add]; exact hln) (fun j q e => by rw [Nat.zero_add]; exact ht j q e)
    (.inl ⟨kB _ _ hz, xa, xb, kB _ _ hTO⟩) (kB _ _ hTI) (h1.at fun o e => kB _ _ e) (h2.at fun o e => kB _ _ e) (hl1.at fun o e => kB _ _ e) (hl2.at fun o e => kB _ _ e) (hnew.at fun o e => hk1 _ _ e)
    (fun h' tk hd' k => ⟨rfl, h h' tk hd' fun b o a1 a2 a3 a4 e => k b o (lt _ _ e) a1 a2 a3 a4 (kB _ _ e)⟩)
  first
    | exact wpAny_pure ⟨plainId_quiet ud_plain _, key⟩
    | exact wpAny_bind (wpAny_pure (wpAny_pure ⟨plainId_quiet ud_plain _, key⟩))
end
theorem boot_dict5 : bootBuiltins "dict" = some (.type "dict") := by decide +kernel
section
variable {X : Cx} {e1 e2 : Expr} {ta : TA} {p p2 pos pos2 : Pos}
theorem zip_pairs : ∀ {ks : List Int} {ys : List V} {us ws : List Value}, Vals (ks.map V.int) us → Vals ys ws → ks.length = ys.length →
    ∃ prs : List (Key × Value), KV (iK (ks.zip ys)) prs ∧ prs.length = ks.length ∧ ∀ (j : Nat) (q : Key × Value), prs[j]? = some q → ∃ u : Value, us[j]? = some u ∧ ws[j]? = some q.2 ∧ keyIs q.1 u = true
  | [], [], us, ws, h1, h2, _ => ⟨[], .nil, rfl, fun j q e => by simp at e⟩
  | [], _ :: _, _, _, _, _, hl => by simp at hl
  | _ :: _, [], _, _, _, _, hl => by simp at hl
  | k :: ks, y :: ys, us, ws, h1, h2, hl => by
    rw [List.map_cons] at h1
    cases h1 with
    | cons r1 t1 =>
      cases h2 with
      | cons r2 t2 =>
        obtain ⟨prs, a, b, c⟩ := zip_pairs t1 t2 (by simpa using hl)
        obtain ⟨t, rfl⟩ := r1
        refine ⟨(Sum.inl k, _) :: prs, .cons ⟨rfl, r2⟩ a, by simp [b], fun j q e => ?_⟩
        cases j with
        | zero =>
          have e' := Option.some.inj e
          subst e'
          exact ⟨_, rfl, rfl, keyIs_int _ _⟩
        | succ j =>
          obtain ⟨u, x1, x2, x3⟩ := c j q (by simpa using e)
          exact ⟨u, by simpa using x1, by simpa using x2, x3⟩
theorem pe_dictzip (hc : X.calm = true) (hgD : Gl X "dict") (hmD : X.mg "dict" = none) (hgZ : Gl X "zip") (hmZ : X.mg "zip" = none) (ha : PA X [e1, e2] ta)
    (hs : starEach [e1, e2] X.env = (false, eval e1 X.env) :: starEach [e2] X.env := by rfl) (hpl : (backTo pos2 (starEach [e2] X.env)).any (·.1) = false := by rfl)
    (hs0 : starEach [Expr.Call (.Name "zip" p2) [e1, e2] [] pos2] X.env = [(false, eval (.Call (.Name "zip" p2) [e1, e2] [] pos2) X.env)] := by rfl) :
    PE X (.Call (.Name "dict" p) [.Call (.Name "zip" p2) [e1, e2] [] pos2] [] pos) (fun σ H Q => ta σ H fun vs H1 => ∃ (a b : Addr) (ks : List Int) (ys : List V), vs = [.ref a, .ref b] ∧ SqL X.K H1 a (ks.map V.int) ∧ SqL X.K H1 b ys ∧ ks.length = ys.length ∧ ∀ p, H1 p = none → Q (.ref p) (upd H1 p (.dK (mergeK [] (iK (ks.zip ys)))))) := by
  intro pins s σ H Q I h
  refine wpAny_Call_Name_kw (ld_blt I hgD hmD boot_dict5 ?_)
  refine PyProof.Rows.callWith_type1 ?_ hs0 rfl
  rw [hs0]
  show wpAny _ _ (spliced ((false, eval (.Call (.Name "zip" p2) [e1, e2] [] pos2) X.env) :: backTo pos [])) _ _ s
  refine Calls.spliced_cons ?_
  refine wpAny_Call_Name_kw (ld_blt I hgZ hmZ boot_zip5 ?_)
  refine PyProof.Rows.callWith_type1 (thn (ha pos2 pins s σ H _ I h) fun us s1 ⟨vs, H1, I1, r1, q1⟩ => ?_) hs hpl
  obtain ⟨a, b, ks, ys, rfl, hqx, hqy, hlen, q⟩ := q1
  cases r1 with
  | cons r rr =>
    cases rr with
    | cons r' rr =>
      cases rr
      cases r
      cases r'
      obtain ⟨its, rv, pl1, hz1⟩ := I1.list hqx
      obtain ⟨its2, rv2, pl2, hz2⟩ := I1.list hqy
      have la : a < s1.heap.objs.size := pl1.lt
      have lb : b < s1.heap.objs.size := pl2.lt
      obtain ⟨prs, rel, hpl2, hpr⟩ := zip_pairs rv rv2 hlen
      rw [List.length_map] at hz1
      refine call_zip_2 pl1.isList pl2.isList fun h' hz hTI hTO h1 h2 hsz hk => ?_
      refine Calls.spliced_nil ?_
      have I2 : Inv X pins σ H1 { s1 with heap := h' } := I1.kept (t' := s1.toks) hk
      refine call_dict_zip (s := { s1 with heap := h' }) (prs := prs) (I1.ok.hd hc) (PySem.W.ktu_apart s1.heap.objs.size a b la lb) hz hTI ⟨_, _, hTO⟩ h1 h2 (pl1.isList.at fun o e => hk _ _ e) (pl2.isList.at fun o e => hk _ _ e) (by have := rv.length; simp at this; simp [hpl2, ← this]) (by rw [hpl2]; exact hz1) (fun j q' e => by
        obtain ⟨u, x1, x2, x3⟩ := hpr j q' e
        exact ⟨u, by simpa using x1, by simpa using x2, x3⟩) fun h3 tk hd' k => ?_
      have hle : s1.heap.objs.size ≤ h'.objs.size := by rw [hsz]; exact Nat.le_add_right _ _
      have hm : (h'.objs.size == sysModules) = false := beq_eq_false_iff_ne.mpr (Nat.ne_of_gt (Nat.lt_of_lt_of_le I1.big hle))
      have hl2 : (mergeK [] (iK (ks.zip ys))).length ≤ sizeLine := by
        refine Nat.le_trans (length_mergeK _ []) ?_
        rw [List.length_nil, Nat.zero_add, rel.length, hpl2]
        exact hz1
      have kk : ∀ c o, s1.heap.get? c = some o → h3.get? c = some o := fun c o e => by
        have lt : c < s1.heap.objs.size := Heap.lt_size e
        have g : ∀ n, c ≠ s1.heap.objs.size + n := fun n => Nat.ne_of_lt (Nat.lt_of_lt_of_le lt (Nat.le_add_right _ _))
        exact k c o (g 4) (g 3) (g 0) (g 1) (hk _ _ e)
      refine ⟨.ref h'.objs.size, _, I1.laid (t' := tk) (o := .dK (mergeK [] (iK (ks.zip ys)))) kk hle ⟨hl2, hm, merged [] prs, KV.merge rel .nil, hd'⟩, rfl, q _ (I1.hok.fresh hle)⟩
theorem putK_inl {l : List (Int × V)} {k : Int} (v : V) (h : k ∉ l.map (·.1)) : putK (iK l) (Sum.inl k) v = iK (l ++ [(k, v)]) := by
  have e : valV (iK l) (Sum.inl k) = none := by
    induction l with
    | nil => rfl
    | cons p l ih =>
      simp only [List.map_cons, List.mem_cons, not_or] at h
      show valV ((Sum.inl p.1, p.2) :: iK l) (Sum.inl k) = none
      rw [valV_neg (by show ¬ (Sum.inl p.1 : Key) = Sum.inl k; intro q; cases q; exact h.1 rfl)]
      exact ih h.2
  rw [putK_new v e]
  simp [iK]
theorem mergeK_nd : ∀ (m l : List (Int × V)), ((l ++ m).map (·.1)).Nodup → mergeK (iK l) (iK m) = iK (l ++ m)
  | [], l, _ => by simp [mergeK, iK]
  | (k, v) :: m, l, h => by
    have hk : k ∉ l.map (·.1) := by
      rw [List.map_append, List.nodup_append] at h
      intro hm
      exact h.2.2 k hm k (by simp) rfl
    show mergeK (putK (iK l) (Sum.inl k) v) (iK m) = _
    rw [putK_inl v hk, mergeK_nd m (l ++ [(k, v)]) (by simpa using h)]
    simp
end
end L2
end
section
set_option linter.all false
namespace Tk
open Kh292
def nxt (s : Script) (c : Nat) (x : Option Nat) : List (Option Nat) := match x with
  | some q => if takesPart s c q then [] else (at_ s q).ways.map Prod.snd
  | none => []
inductive Reach (s : Script) (c : Nat) (a : Option Nat) : Option Nat → Prop
  | refl : Reach s c a a
  | step {x y : Option Nat} : Reach s c a x → y ∈ nxt s c x → Reach s c a y
def okO (s : Script) : Option Nat → Prop
  | none => True
  | some q => q < s.places.length
theorem at_mem {s : Script} {q : Nat} (h : q < s.places.length) : at_ s q ∈ s.places := by
  unfold at_
  rw [List.getD_eq_getElem?_getD, List.getElem?_eq_getElem h]
  exact List.getElem_mem h
theorem ok_place {s : Script} (hs : okScript s = true) {q : Nat} (h : q < s.places.length) : okPlace s.p s.places.length (at_ s q) = true := by
  simp only [okScript, Bool.and_eq_true, decide_eq_true_eq] at hs
  exact List.all_eq_true.mp hs.2.2.2.2 _ (at_mem h)
theorem ok_len {s : Script} (hs : okScript s = true) : 1 ≤ s.places.length ∧ s.places.length ≤ 32 ∧ 2 ≤ s.p ∧ s.p ≤ 8 := by
  simp only [okScript, Bool.and_eq_true, decide_eq_true_eq] at hs
  exact ⟨hs.2.2.1, hs.2.2.2.1, hs.1, hs.2.1⟩
structure OkP (p n : Nat) (x : Place) : Prop where
  fr : x.from_ < p
  to : x.to_ < p
  ne : x.from_ ≠ x.to_
  l1 : 1 ≤ x.ways.length
  l4 : x.ways.length ≤ 4
  nd : (x.ways.map Prod.fst).Nodup
  wd : ∀ w ∈ x.ways, w.1 < 256
  nx : ∀ w ∈ x.ways, ∀ q, w.2 = some q → q < n
theorem okP_iff {p n : Nat} {x : Place} : okPlace p n x = true ↔ OkP p n x := by
  simp only [okPlace, Bool.and_eq_true, decide_eq_true_eq, bne_iff_ne, List.all_eq_true]
  constructor
  · rintro ⟨a, b, c, d, e, f, g⟩
    refine ⟨a, b, c, d, e, f, fun w hw => (g w hw).1, fun w hw q hq => ?_⟩
    have := (g w hw).2
    rw [hq] at this
    exact of_decide_eq_true this
  · rintro ⟨a, b, c, d, e, f, g, h⟩
    refine ⟨a, b, c, d, e, f, fun w hw => ⟨g w hw, ?_⟩⟩
    cases e : w.2 with
    | none => rfl
    | some q => exact decide_eq_true (h w hw q e)
theorem okP {s : Script} (hs : okScript s = true) {q : Nat} (h : q < s.places.length) : OkP s.p s.places.length (at_ s q) := okP_iff.mp (ok_place hs h)
theorem nxt_ok {s : Script} (hs : okScript s = true) {c : Nat} {x y : Option Nat} (hx : okO s x) (h : y ∈ nxt s c x) : okO s y := by
  cases x with
  | none => simp [nxt] at h
  | some q =>
    simp only [nxt] at h
    split at h
    · simp at h
    · obtain ⟨v, hv, rfl⟩ := List.mem_map.mp h
      cases e : v.2 with
      | none => trivial
      | some r => exact (okP hs hx).nx v hv r e
theorem reach_ok {s : Script} (hs : okScript s = true) {c : Nat} {a x : Option Nat} (ha : okO s a) (h : Reach s c a x) : okO s x := by
  induction h with
  | refl => exact ha
  | step _ e ih => exact nxt_ok hs ih e
def g (s : Script) (c : Nat) (l : List (Option Nat)) : List (Option Nat) := (l ++ l.flatMap (nxt s c)).eraseDups
theorem nodup_ed {α : Type} [BEq α] [LawfulBEq α] : ∀ (n : Nat) (l : List α), l.length ≤ n → l.eraseDups.Nodup
  | _, [], _ => by simp
  | 0, a :: l, h => by simp at h
  | n + 1, a :: l, h => by
    rw [List.eraseDups_cons]
    refine List.nodup_cons.mpr ⟨fun hm => ?_, nodup_ed n _ ?_⟩
    · have := List.mem_eraseDups.mp hm
      simp at this
    · have := List.length_filter_le (fun b => !b == a) l
      simp only [List.length_cons] at h
      omega
theorem g_nd (s : Script) (c : Nat) (l : List (Option Nat)) : (g s c l).Nodup := nodup_ed _ _ (Nat.le_refl _)
theorem mem_g {s : Script} {c : Nat} {l : List (Option Nat)} {x : Option Nat} : x ∈ g s c l ↔ x ∈ l ∨ ∃ a ∈ l, x ∈ nxt s c a := by
  unfold g
  rw [List.mem_eraseDups, List.mem_append, List.mem_flatMap]
theorem spread_succ (s : Script) (c f : Nat) (l : List (Option Nat)) : spread s c (f + 1) l = spread s c f (g s c l) := rfl
theorem spread_g (s : Script) (c : Nat) : ∀ (f : Nat) (l : List (Option Nat)), spread s c (f + 1) l = g s c (spread s c f l)
  | 0, l => rfl
  | f + 1, l => by
    rw [spread_succ, spread_g s c f (g s c l), spread_succ]
def Closed (s : Script) (c : Nat) (l : List (Option Nat)) : Prop := ∀ x ∈ l, ∀ y ∈ nxt s c x, y ∈ l
theorem closed_g {s : Script} {c : Nat} {l : List (Option Nat)} (h : Closed s c l) : Closed s c (g s c l) := by
  have e : ∀ x, x ∈ g s c l ↔ x ∈ l := fun x => by
    rw [mem_g]
    exact ⟨fun q => q.elim id fun ⟨a, ha, hx⟩ => h a ha x hx, .inl⟩
  intro x hx y hy
  rw [e] at hx ⊢
  exact h x hx y hy
theorem spread_nd {s : Script} {c : Nat} {l : List (Option Nat)} (nd : l.Nodup) : ∀ f, (spread s c f l).Nodup
  | 0 => nd
  | f + 1 => by rw [spread_g]; exact g_nd _ _ _
theorem spread_sub {s : Script} {c : Nat} {l : List (Option Nat)} {x : Option Nat} (h : x ∈ l) : ∀ f, x ∈ spread s c f l
  | 0 => h
  | f + 1 => by rw [spread_g, mem_g]; exact .inl (spread_sub h f)
theorem spread_reach {s : Script} {c : Nat} {l : List (Option Nat)} : ∀ (f : Nat) {x : Option Nat}, x ∈ spread s c f l → ∃ a ∈ l, Reach s c a x
  | 0, x, h => ⟨x, h, .refl⟩
  | f + 1, x, h => by
    rw [spread_g, mem_g] at h
    rcases h with h | ⟨y, hy, hx⟩
    · exact spread_reach f h
    · obtain ⟨a, ha, r⟩ := spread_reach f hy
      exact ⟨a, ha, .step r hx⟩
theorem closed_reach {s : Script} {c : Nat} {l : List (Option Nat)} (h : Closed s c l) {a x : Option Nat} (ha : a ∈ l) (r : Reach s c a x) : x ∈ l := by
  induction r with
  | refl => exact ha
  | step _ e ih => exact h _ ih _ e
theorem spread_grow {s : Script} {c : Nat} {l : List (Option Nat)} (nd : l.Nodup) : ∀ f, Closed s c (spread s c f l) ∨ f + 1 ≤ (spread s c f l).length
  | 0 => by
    cases l with
    | nil => exact .inl fun x hx => by simp [spread] at hx
    | cons a l => exact .inr (by simp [spread])
  | f + 1 => by
    rw [spread_g]
    rcases spread_grow (s := s) (c := c) nd f with h | h
    · exact .inl (closed_g h)
    · by_cases hc : Closed s c (spread s c f l)
      · exact .inl (closed_g hc)
      · refine .inr ?_
        obtain ⟨x, hx, y, hy, hn⟩ : ∃ x ∈ spread s c f l, ∃ y ∈ nxt s c x, y ∉ spread s c f l := by
          apply Classical.byContradiction
          intro hno
          exact hc fun x hx y hy => Classical.byContradiction fun hn => hno ⟨x, hx, y, hy, hn⟩
        have n2 : (y :: spread s c f l).Nodup := List.nodup_cons.mpr ⟨hn, spread_nd nd f⟩
        have := n2.length_le_of_subset (l₂ := g s c (spread s c f l)) fun z hz => by
          rcases List.mem_cons.mp hz with rfl | hz
          · exact mem_g.mpr (.inr ⟨x, hx, hy⟩)
          · exact mem_g.mpr (.inl hz)
        simp only [List.length_cons] at this
        omega
theorem spread_closed {s : Script} (hs : okScript s = true) {c : Nat} {l : List (Option Nat)} (nd : l.Nodup) (hl : ∀ x ∈ l, okO s x) : Closed s c (spread s c s.places.length l) := by
  rcases spread_grow (s := s) (c := c) nd s.places.length with h | h
  · exact h
  · have hU : ∀ x, okO s x → x ∈ none :: (List.range s.places.length).map some := fun x hx => by
      cases x with
      | none => simp
      | some q => simp; exact hx
    have hok : ∀ x ∈ spread s c s.places.length l, okO s x := fun x hx => by
      obtain ⟨a, ha, r⟩ := spread_reach _ hx
      exact reach_ok hs (hl a ha) r
    intro x hx y hy
    apply Classical.byContradiction
    intro hn
    have n2 : (y :: spread s c s.places.length l).Nodup := List.nodup_cons.mpr ⟨hn, spread_nd nd _⟩
    have := n2.length_le_of_subset (l₂ := none :: (List.range s.places.length).map some) fun z hz => by
      rcases List.mem_cons.mp hz with rfl | hz
      · exact hU _ (nxt_ok hs (hok x hx) hy)
      · exact hU _ (hok z hz)
    simp only [List.length_cons, List.length_map, List.length_range] at this
    omega
theorem mem_spread {s : Script} (hs : okScript s = true) {c : Nat} {l : List (Option Nat)} (nd : l.Nodup) (hl : ∀ x ∈ l, okO s x) {x : Option Nat} : x ∈ spread s c s.places.length l ↔ ∃ a ∈ l, Reach s c a x :=
  ⟨spread_reach _, fun ⟨a, ha, r⟩ => closed_reach (spread_closed hs nd hl) (spread_sub ha _) r⟩
def Nev (s : Script) (c : Nat) (a : Option Nat) : Prop := ¬ Reach s c a none ∧ ∀ t, t < s.places.length → takesPart s c t = true → ¬ Reach s c a (some t)
theorem never_iff {s : Script} (hs : okScript s = true) {c q : Nat} (hq : q < s.places.length) : never s c q = true ↔ Nev s c (some q) := by
  have m : ∀ x, x ∈ spread s c s.places.length [some q] ↔ Reach s c (some q) x := fun x => by
    rw [mem_spread hs (by simp) (by intro y hy; simp at hy; subst hy; exact hq)]
    simp
  unfold never Nev
  simp only [Bool.and_eq_true, Bool.not_eq_true', ← Bool.not_eq_true, List.contains_iff_mem, m, List.any_eq_true, List.mem_range, not_exists, not_and]
def Ov (s : Script) (c : Nat) (a : Option Nat) : Prop := Reach s c a none ∨ ∃ q, Reach s c a (some q) ∧ Nev s c (some q)
theorem mem_places {s : Script} (hs : okScript s = true) {c : Nat} {l : List (Option Nat)} (hl : ∀ x ∈ l, okO s x) {q : Nat} : q ∈ (comesTo s c l).places ↔ q < s.places.length ∧ takesPart s c q = true ∧ ∃ a ∈ l, Reach s c a (some q) := by
  unfold comesTo
  simp only [List.mem_filter, List.mem_range, Bool.and_eq_true, List.contains_iff_mem]
  rw [mem_spread hs (nodup_ed _ _ (Nat.le_refl _)) (fun x hx => hl x (List.mem_eraseDups.mp hx))]
  simp only [List.mem_eraseDups]
theorem over_iff {s : Script} (hs : okScript s = true) {c : Nat} {l : List (Option Nat)} (hl : ∀ x ∈ l, okO s x) : (comesTo s c l).over = true ↔ ∃ a ∈ l, Ov s c a := by
  have m : ∀ x, x ∈ spread s c s.places.length l.eraseDups ↔ ∃ a ∈ l, Reach s c a x := fun x => by
    rw [mem_spread hs (nodup_ed _ _ (Nat.le_refl _)) (fun x hx => hl x (List.mem_eraseDups.mp hx))]
    simp only [List.mem_eraseDups]
  unfold comesTo
  simp only [Bool.or_eq_true, List.contains_iff_mem, List.any_eq_true, List.mem_range, Bool.and_eq_true, m]
  constructor
  · rintro (⟨a, ha, r⟩ | ⟨q, hq, ⟨a, ha, r⟩, hn⟩)
    · exact ⟨a, ha, .inl r⟩
    · exact ⟨a, ha, .inr ⟨q, r, (never_iff hs hq).mp hn⟩⟩
  · rintro ⟨a, ha, r | ⟨q, r, hn⟩⟩
    · exact .inl ⟨a, ha, r⟩
    · have hq : q < s.places.length := reach_ok hs (hl a ha) r
      exact .inr ⟨q, hq, ⟨a, ha, r⟩, (never_iff hs hq).mpr hn⟩
theorem over_of_none {s : Script} (hs : okScript s = true) {c : Nat} {l : List (Option Nat)} (hl : ∀ x ∈ l, okO s x) (hne : l ≠ []) (h : (comesTo s c l).places = []) : (comesTo s c l).over = true := by
  rw [over_iff hs hl]
  obtain ⟨a, ha⟩ := List.exists_mem_of_ne_nil l hne
  refine ⟨a, ha, ?_⟩
  by_cases r : Reach s c a none
  · exact .inl r
  · cases a with
    | none => exact absurd .refl r
    | some q =>
      refine .inr ⟨q, .refl, r, fun t ht tp rt => ?_⟩
      have : t ∈ (comesTo s c l).places := (mem_places hs hl).mpr ⟨ht, tp, _, ha, rt⟩
      rw [h] at this
      simp at this
theorem places_lt {s : Script} {c : Nat} {l : List (Option Nat)} {q : Nat} (h : q ∈ (comesTo s c l).places) : q < s.places.length ∧ takesPart s c q = true := by
  unfold comesTo at h
  simp only [List.mem_filter, List.mem_range, Bool.and_eq_true] at h
  exact ⟨h.1, h.2.1⟩
theorem places_rise (s : Script) (c : Nat) (l : List (Option Nat)) : (comesTo s c l).places.Pairwise (· < ·) := List.Pairwise.filter _ List.pairwise_lt_range
def encO : Option Nat → Int
  | none => 255
  | some q => q
def stT (x : State) : List Int := x.places.map Int.ofNat ++ (if x.over then [255] else [])
theorem mem_stT {x : State} {z : Int} : z ∈ stT x ↔ (∃ q ∈ x.places, z = (q : Int)) ∨ (x.over = true ∧ z = 255) := by
  unfold stT
  rw [List.mem_append, List.mem_map]
  constructor
  · rintro (⟨q, hq, rfl⟩ | h)
    · exact .inl ⟨q, hq, rfl⟩
    · split at h
      · rename_i e; simp at h; exact .inr ⟨e, h⟩
      · simp at h
  · rintro (⟨q, hq, rfl⟩ | ⟨e, rfl⟩)
    · exact .inl ⟨q, hq, rfl⟩
    · refine .inr ?_
      rw [if_pos e]
      simp
theorem stT_rise {x : State} (h : x.places.Pairwise (· < ·)) (hb : ∀ q ∈ x.places, q < 255) : (stT x).Pairwise (· < ·) := by
  unfold stT
  refine List.pairwise_append.mpr ⟨List.pairwise_map.mpr (h.imp fun hab => by simp; omega), by split <;> simp, fun a ha b hb2 => ?_⟩
  obtain ⟨q, hq, rfl⟩ := List.mem_map.mp ha
  have := hb q hq
  split at hb2
  · simp at hb2; subst hb2; simp; omega
  · simp at hb2
theorem rise_eq : ∀ {l m : List Int}, l.Pairwise (· < ·) → m.Pairwise (· < ·) → (∀ z, z ∈ l ↔ z ∈ m) → l = m
  | [], [], _, _, _ => rfl
  | [], b :: m, _, _, h => by have := (h b).mpr (by simp); simp at this
  | a :: l, [], _, _, h => by have := (h a).mp (by simp); simp at this
  | a :: l, b :: m, hl, hm, h => by
    rw [List.pairwise_cons] at hl hm
    have e : a = b := by
      have h1 := (h a).mp (by simp)
      have h2 := (h b).mpr (by simp)
      rcases List.mem_cons.mp h1 with q | q
      · exact q
      · rcases List.mem_cons.mp h2 with r | r
        · exact r.symm
        · have := hl.1 b r
          have := hm.1 a q
          omega
    subst e
    rw [rise_eq hl.2 hm.2 fun z => ?_]
    constructor
    · intro hz
      rcases List.mem_cons.mp ((h z).mp (List.mem_cons_of_mem _ hz)) with q | q
      · subst q; exact absurd (hl.1 z hz) (by omega)
      · exact q
    · intro hz
      rcases List.mem_cons.mp ((h z).mpr (List.mem_cons_of_mem _ hz)) with q | q
      · subst q; exact absurd (hm.1 z hz) (by omega)
      · exact q
theorem rise_of {ns ks : List Int} (hp : ns.Perm ks) (hs : ns.Pairwise (· ≤ ·)) (nd : ks.Nodup) : ns.Pairwise (· < ·) := by
  have n2 : ns.Nodup := hp.nodup_iff.mpr nd
  exact (hs.and n2).imp fun ⟨a, b⟩ => by omega
structure Good (s : Script) (x : State) : Prop where
  rise : x.places.Pairwise (· < ·)
  lt : ∀ q ∈ x.places, q < s.places.length
  some : x.places = [] → x.over = true
theorem good_comes {s : Script} (hs : okScript s = true) {c : Nat} {l : List (Option Nat)} (hl : ∀ x ∈ l, okO s x) (hne : l ≠ []) : Good s (comesTo s c l) :=
  ⟨places_rise _ _ _, fun q h => (places_lt h).1, over_of_none hs hl hne⟩
theorem Good.rT {s : Script} (hs : okScript s = true) {x : State} (g : Good s x) : (stT x).Pairwise (· < ·) := stT_rise g.rise fun q h => by
  have := g.lt q h
  have := (ok_len hs).2.1
  omega
theorem map_nat_inj : ∀ {l m : List Nat}, l.map Int.ofNat = m.map Int.ofNat → l = m
  | [], [], _ => rfl
  | [], _ :: _, h => by simp at h
  | _ :: _, [], h => by simp at h
  | a :: l, b :: m, h => by
    simp only [List.map_cons, List.cons.injEq] at h
    have e : a = b := Int.ofNat.inj h.1
    rw [e, map_nat_inj h.2]
theorem stT_inj {x y : State} (hx : ∀ q ∈ x.places, q < 255) (hy : ∀ q ∈ y.places, q < 255) (h : stT x = stT y) : x = y := by
  have f : ∀ {z : State}, (∀ q ∈ z.places, q < 255) → (stT z).filter (fun i => decide (i < 255)) = z.places.map Int.ofNat := fun {z} hz => by
    unfold stT
    rw [List.filter_append, List.filter_eq_self.mpr, show List.filter (fun i => decide (i < (255 : Int))) (if z.over then [255] else []) = [] by split <;> rfl, List.append_nil]
    intro a ha
    obtain ⟨q, hq, rfl⟩ := List.mem_map.mp ha
    have := hz q hq
    simp; omega
  have o : ∀ {z : State}, (∀ q ∈ z.places, q < 255) → ((255 : Int) ∈ stT z ↔ z.over = true) := fun {z} hz => by
    rw [mem_stT]
    constructor
    · rintro (⟨q, hq, e⟩ | ⟨e, _⟩)
      · have := hz q hq; omega
      · exact e
    · exact fun e => .inr ⟨e, rfl⟩
  have e1 := map_nat_inj ((f hx).symm.trans ((congrArg _ h).trans (f hy)))
  have e2 : x.over = y.over := by
    have a := o hx
    have b := o hy
    rw [h] at a
    have := a.symm.trans b
    cases hx : x.over <;> cases hy : y.over <;> simp_all
  cases x; cases y
  simp only at e1 e2
  subst e1; subst e2
  rfl
theorem mem_comes {s : Script} (hs : okScript s = true) {c : Nat} {l : List (Option Nat)} (hl : ∀ x ∈ l, okO s x) {z : Int} : z ∈ stT (comesTo s c l) ↔ ∃ a ∈ l, z ∈ stT (comesTo s c [a]) := by
  have h1 : ∀ a ∈ l, ∀ x ∈ [a], okO s x := fun a ha x hx => by simp at hx; subst hx; exact hl _ ha
  simp only [mem_stT, mem_places hs hl, over_iff hs hl]
  constructor
  · rintro (⟨q, ⟨hq, tp, a, ha, r⟩, rfl⟩ | ⟨⟨a, ha, o⟩, rfl⟩)
    · exact ⟨a, ha, .inl ⟨q, (mem_places hs (h1 a ha)).mpr ⟨hq, tp, a, by simp, r⟩, rfl⟩⟩
    · exact ⟨a, ha, .inr ⟨(over_iff hs (h1 a ha)).mpr ⟨a, by simp, o⟩, rfl⟩⟩
  · rintro ⟨a, ha, ⟨q, hq, rfl⟩ | ⟨o, rfl⟩⟩
    · obtain ⟨hq2, tp, b, hb, r⟩ := (mem_places hs (h1 a ha)).mp hq
      simp at hb; subst hb
      exact .inl ⟨q, ⟨hq2, tp, b, ha, r⟩, rfl⟩
    · obtain ⟨b, hb, o2⟩ := (over_iff hs (h1 a ha)).mp o
      simp at hb; subst hb
      exact .inr ⟨⟨b, ha, o2⟩, rfl⟩
theorem comes_none {s : Script} (hs : okScript s = true) {c : Nat} : comesTo s c [none] = ⟨[], true⟩ := by
  have r : ∀ x, Reach s c none x → x = none := fun x h => by
    induction h with
    | refl => rfl
    | step _ e ih => subst ih; simp [nxt] at e
  have hl : ∀ x ∈ [(none : Option Nat)], okO s x := fun x hx => by simp at hx; subst hx; trivial
  have hp : (comesTo s c [none]).places = [] := by
    apply List.eq_nil_iff_forall_not_mem.mpr
    intro q hq
    obtain ⟨_, _, a, ha, rr⟩ := (mem_places hs hl).mp hq
    simp at ha; subst ha
    cases r _ rr
  have ho := over_of_none hs hl (by simp) hp
  cases e : comesTo s c [none] with
  | mk p o =>
    rw [e] at hp ho
    simp only at hp ho
    subst hp; subst ho
    rfl
end Tk
end
section
set_option Elab.async false
set_option linter.all false
set_option maxRecDepth 100000
namespace Tk
open PySem PySem.Spec PyProof.Rows L2
def top (i : Nat) : Stmt := PySem.Challenge.pw_talkkeeper_s01_answers.main.body.getD i (.Pass ⟨0, 0, 0, 0⟩)
abbrev s_Place_init : Stmt := inClass (top 4) 0
abbrev s_words_of_row : Stmt := top 5
abbrev s_nexts_of_row : Stmt := top 6
abbrev s_are_two_parties : Stmt := top 7
abbrev s_are_ways : Stmt := top 8
abbrev s_is_script : Stmt := top 9
abbrev s_Row_init : Stmt := inClass (top 18) 0
abbrev s_Part_init : Stmt := inClass (top 19) 0
abbrev s_Part_find_rows : Stmt := inClass (top 19) 1
abbrev s_Part_number_of : Stmt := inClass (top 19) 2
abbrev s_Part_row_of : Stmt := inClass (top 19) 3
abbrev s_Part_kind_of : Stmt := inClass (top 19) 4
abbrev s_Part_words_of : Stmt := inClass (top 19) 5
abbrev s_Part_state_behind : Stmt := inClass (top 19) 6
abbrev s_is_same_line : Stmt := top 20
abbrev s_is_same_speech : Stmt := top 21
abbrev s_is_end : Stmt := top 22
abbrev s_walk_from : Stmt := top 23
abbrev s_ends_of : Stmt := top 24
abbrev s_arrivals_of : Stmt := top 25
abbrev s_rows_of : Stmt := top 26
abbrev s_all_rows : Stmt := top 27
abbrev s_Keeper_init : Stmt := inClass (top 43) 0
abbrev s_Keeper_begin : Stmt := inClass (top 43) 1
abbrev s_Keeper_now : Stmt := inClass (top 43) 2
abbrev s_Keeper_say : Stmt := inClass (top 43) 3
abbrev s_Keeper_heard : Stmt := inClass (top 43) 4
abbrev s_Keeper_take : Stmt := inClass (top 43) 5
abbrev s_Keeper_kept : Stmt := inClass (top 43) 6
abbrev s_Keeper_is_another : Stmt := inClass (top 43) 7
abbrev s_Reader_init : Stmt := inClass (top 44) 0
abbrev s_Reader_is_done : Stmt := inClass (top 44) 1
abbrev s_Reader_read_number : Stmt := inClass (top 44) 2
abbrev s_Reader_read_list : Stmt := inClass (top 44) 3
abbrev s_Reader_read_lists : Stmt := inClass (top 44) 4
abbrev s_answer_of : Stmt := top 45
abbrev s_answers : Stmt := top 46
theorem pass0E {P : Program} {w : World} {X : Cx} : Passes (CXe P w) X E0 := fun _ _ _ _ _ _ _ h => by
  obtain ⟨a, cls, a0, H', B, _, _, _, _, _, q⟩ := h
  exact q.elim
structure Fn (P : Program) (w : World) (K : PySem.W.Frag) (mg : Str → Option Value) (base : Heap) (x : Str) (k : Nat) (ps : List Str) (sp : Sp) (f : Addr) (fd : FuncData) : Prop where
  ok : FnOk P w K mg base (CXe P w) k f fd ps sp
  mg : mg x = some (.ref f)
  kp : PySem.W.keepIn K (.ref f) = true
  bi : Binds K fd ps []
structure Me (P : Program) (w : World) (K : PySem.W.Frag) (mg : Str → Option Value) (base : Heap) (C : Addr) (m : Str) (k : Nat) (ps : List Str) (sp : Sp) (f : Addr) (fd : FuncData) : Prop where
  ok : FnOk P w K mg base (CXe P w) k f fd ps sp
  me : Meth K C m f
  bi : Binds K fd ps []
structure Mr (P : Program) (w : World) (K : PySem.W.Frag) (mg : Str → Option Value) (base : Heap) (x : Str) (C : Addr) (k : Nat) (ps : List Str) (sp : Sp) (f : Addr) (fd : FuncData) : Prop where
  ok : FnOk P w K mg base (CXe P w) k f fd ps sp
  mkk : Mk K C f
  mg : mg x = some (.ref C)
  bi : Binds K fd ps []
def Glob (mg : Str → Option Value) (x : Str) (v : V) : Prop := ∃ u, mg x = some u ∧ RelV v u
theorem pe_gl {X : Cx} {x : Str} {v : V} {pos : Pos} (hg : Gl X x) (h : Glob X.mg x v) (hd : (x == ("__debug__" : Str)) = false := by decide) : PE X (.Name x pos) (tC v) := by
  obtain ⟨u, e, r⟩ := h
  exact pe_glob hg e r hd
structure Cs where
  pl : Addr
  un : Addr
  tm : Addr
  ro : Addr
  pa : Addr
  ke : Addr
  re : Addr
structure Txt (K : PySem.W.Frag) (mg : Str → Option Value) (c : Cs) : Prop where
  len : mg "len" = none
  set : mg "set" = none
  dict : mg "dict" = none
  zip : mg "zip" = none
  all : mg "all" = none
  any : mg "any" = none
  sorted : mg "sorted" = none
  list : mg "list" = none
  tuple : mg "tuple" = none
  range : mg "range" = none
  enumerate : mg "enumerate" = none
  OVER : Glob mg "OVER" (.int 255)
  FEWEST : Glob mg "FEWEST_PARTIES" (.int 2)
  MOSTP : Glob mg "MOST_PARTIES" (.int 8)
  NOTHING : Glob mg "NOTHING" (.int 0)
  SPEAKS : Glob mg "SPEAKS" (.int 1)
  LISTENS : Glob mg "LISTENS" (.int 2)
  MOSTW : Glob mg "MOST_WORDS" (.int 16)
  MOSTS : Glob mg "MOST_STATES" (.int 64)
  NOT_NOW : Glob mg "NOT_NOW" (.int (-1))
  NOTHING_CAME : Glob mg "NOTHING_CAME" (.int (-11))
  NOT_AS_TOLD : Glob mg "NOT_AS_TOLD" (.int (-22))
  NO_ROOM : Glob mg "NO_ROOM" (.int (-28))
  CANNOT : Glob mg "CANNOT_BE_KEPT" (.int (-71))
  NOT_ITS : Glob mg "NOT_ITS_TURN" (.int (-71))
  TOO_LARGE : Glob mg "TOO_LARGE" (.int (-75))
  LAST : Glob mg "LAST_WORD" (.int 255)
  MOSTK : Glob mg "MOST_KEPT" (.int 64)
  BEGIN : Glob mg "BEGIN" (.int 0)
  NOW : Glob mg "NOW" (.int 1)
  SAY : Glob mg "SAY" (.int 2)
  HEARD : Glob mg "HEARD" (.int 3)
  TAKE : Glob mg "TAKE" (.int 4)
  plc : Cls K c.pl
  pl1 : NoAttr K c.pl "speaker"
  pl2 : NoAttr K c.pl "listener"
  pl3 : NoAttr K c.pl "ways"
  roc : Cls K c.ro
  ro1 : NoAttr K c.ro "kind"
  ro2 : NoAttr K c.ro "other"
  ro3 : NoAttr K c.ro "behind"
  pac : Cls K c.pa
  pa1 : NoAttr K c.pa "party"
  pa2 : NoAttr K c.pa "places"
  pa3 : NoAttr K c.pa "arrivals"
  pa4 : NoAttr K c.pa "states"
  pa5 : NoAttr K c.pa "numbers"
  pa6 : NoAttr K c.pa "rows"
  kec : Cls K c.ke
  ke1 : NoAttr K c.ke "me"
  ke2 : NoAttr K c.ke "rows"
  ke3 : NoAttr K c.ke "state"
  ke4 : NoAttr K c.ke "lines"
  rcc : Cls K c.re
  re1 : NoAttr K c.re "calls"
  re2 : NoAttr K c.re "position"
  unx : XCls K "Unclear" c.un "Exception" "Exception.__new__" "Exception.__init__" [.type "Exception", .type "BaseException", .type "object"]
  tmx : XCls K "TooMany" c.tm "Exception" "Exception.__new__" "Exception.__init__" [.type "Exception", .type "BaseException", .type "object"]
def plF (f t : Int) (d : Addr) : List (Str × V) := [("speaker", .int f), ("listener", .int t), ("ways", .ref d)]
theorem plF1 (f t : Int) (d : Addr) : (plF f t d).lookup ("speaker" : Str) = some (.int f) := by rfl
theorem plF2 (f t : Int) (d : Addr) : (plF f t d).lookup ("listener" : Str) = some (.int t) := by rfl
theorem plF3 (f t : Int) (d : Addr) : (plF f t d).lookup ("ways" : Str) = some (.ref d) := by rfl
theorem plFput (f t : Int) (d : Addr) : putF "ways" (.ref d) (putF "listener" (.int t) (putF "speaker" (.int f) [])) = plF f t d := by rfl
end Tk
end
section
set_option Elab.async false
set_option linter.all false
set_option maxRecDepth 100000
namespace L2
open PySem PySem.Spec PyProof.Rows
theorem Same.upd {H : Hp} {p : Addr} {o : HO} (h : H p = none) : Same H (upd H p o) := fun b u e => by
  rw [upd_ne (ne_of_none e h)]
  exact e
theorem Same.tup {K : PySem.W.Frag} {H H' : Hp} {a : Addr} {xs : List V} (e : Same H H') (h : SqT K H a xs) : SqT K H' a xs := by
  rcases h with h | h
  · rcases h with h | ⟨o, h⟩
    · exact .inl (.inl (e _ _ h))
    · exact .inl (.inr ⟨o, e _ _ h⟩)
  · exact .inr h
theorem take_nx {α : Type} {l : List α} {i : Nat} {x : α} (h : l[i]? = some x) : l.take (i + 1) = l.take i ++ [x] := take_next h
theorem lc_listF {K : PySem.W.Frag} {a : Addr} {xs : List V} {g : TG} {tt : TT} {te : TE} {vs : List Nat} {σ : St} {H1 : Hp} {D : Addr} {Qd : Hp → Prop} (p : V → Bool) (f : V → V) (hS : SqL K H1 a xs) (hD : H1 D = none) (hlen : xs.length < sizeLine)
    (hs : ∀ (i : Nat) (x : V) (H : Hp) (N : VK) (M : Hp → Prop), xs[i]? = some x → Same H1 H → (p x = true → ∀ H4, Same H H4 → N (f x) H4) → (p x = false → ∀ H4, Same H H4 → M H4) →
      g x (wipe σ vs) H fun σ2 H2 => wipe σ2 vs = wipe σ vs ∧ tt σ2 H2 fun b H3 => if b = true then te σ2 H3 N else M H3)
    (hd : ∀ H, Same H1 H → H D = some (.lst ((xs.filter p).map f)) → Qd H) :
    ∃ W : Nat → Nat → Hp → Prop, (∃ m, W 0 m (upd H1 D (.lst []))) ∧ ∀ i m H, W i m H →
      ((Itl K a).stop i H ∧ Qd H) ∨ ((Itl K a).go i H ∧ ∃ Nx : Hp → Prop, (∀ H', Nx H' → ∃ m', m' < m ∧ W (i + 1) m' H') ∧ ∀ x H', (Itl K a).yld i H x H' → g x (wipe σ vs) H' fun σ2 H2 => wipe σ2 vs = wipe σ vs ∧ tt σ2 H2 fun b H3 =>
        if b = true then te σ2 H3 fun y H4 => ∃ acc, H4 D = some (.lst acc) ∧ acc.length < sizeLine ∧ Nx (upd H4 D (.lst (acc ++ [y]))) else Nx H3) := by
  refine lc_list (fun i H => Same H1 H ∧ H D = some (.lst (((xs.take i).filter p).map f))) ⟨Same.upd hD, upd_same⟩ (fun i H _ h => h.1.seq hS) (fun i x H hx h => ?_) fun H h => hd H h.1 (by have := h.2; rwa [List.take_length] at this)
  refine hs i x H _ _ hx h.1 (fun hp H4 s4 => ?_) fun hp H4 s4 => ?_
  · refine ⟨_, s4 _ _ h.2, ?_, fun b o e => ?_, ?_⟩
    · rw [List.length_map]
      exact Nat.lt_of_le_of_lt (Nat.le_trans (List.length_filter_le _ _) (by rw [List.length_take]; exact Nat.min_le_right _ _)) hlen
    · rw [upd_ne (ne_of_none e hD)]
      exact s4 _ _ (h.1 _ _ e)
    · rw [upd_same, take_nx hx, List.filter_append, List.filter_cons, if_pos hp, List.filter_nil, List.map_append]
      rfl
  · refine ⟨h.1.trans s4, ?_⟩
    rw [take_nx hx, List.filter_append, List.filter_cons, if_neg (by rw [hp]; exact Bool.false_ne_true), List.filter_nil, List.append_nil]
    exact s4 _ _ h.2
theorem lc_rangeF {n : Nat} {g : TG} {tt : TT} {te : TE} {vs : List Nat} {σ : St} {H1 : Hp} {D : Addr} {Qd : Hp → Prop} (p : Nat → Bool) (f : Nat → V) (hD : H1 D = none) (hlen : n < sizeLine)
    (hs : ∀ (i : Nat) (H : Hp) (N : VK) (M : Hp → Prop), i < n → Same H1 H → (p i = true → ∀ H4, Same H H4 → N (f i) H4) → (p i = false → ∀ H4, Same H H4 → M H4) →
      g (.int (0 + i)) (wipe σ vs) H fun σ2 H2 => wipe σ2 vs = wipe σ vs ∧ tt σ2 H2 fun b H3 => if b = true then te σ2 H3 N else M H3)
    (hd : ∀ H, Same H1 H → H D = some (.lst (((List.range n).filter p).map f)) → Qd H) :
    ∃ W : Nat → Nat → Hp → Prop, (∃ m, W 0 m (upd H1 D (.lst []))) ∧ ∀ i m H, W i m H →
      ((Itr 0 n).stop i H ∧ Qd H) ∨ ((Itr 0 n).go i H ∧ ∃ Nx : Hp → Prop, (∀ H', Nx H' → ∃ m', m' < m ∧ W (i + 1) m' H') ∧ ∀ x H', (Itr 0 n).yld i H x H' → g x (wipe σ vs) H' fun σ2 H2 => wipe σ2 vs = wipe σ vs ∧ tt σ2 H2 fun b H3 =>
        if b = true then te σ2 H3 fun y H4 => ∃ acc, H4 D = some (.lst acc) ∧ acc.length < sizeLine ∧ Nx (upd H4 D (.lst (acc ++ [y]))) else Nx H3) := by
  refine lc_range (fun i H => i ≤ n ∧ Same H1 H ∧ H D = some (.lst (((List.range i).filter p).map f))) ⟨Nat.zero_le _, Same.upd hD, upd_same⟩ (fun i H hx h => ?_) fun H h => hd H h.2.1 h.2.2
  refine hs i H _ _ hx h.2.1 (fun hp H4 s4 => ?_) fun hp H4 s4 => ?_
  · refine ⟨_, s4 _ _ h.2.2, ?_, hx, fun b o e => ?_, ?_⟩
    · rw [List.length_map]
      exact Nat.lt_of_le_of_lt (Nat.le_trans (List.length_filter_le _ _) (by rw [List.length_range]; exact h.1)) hlen
    · rw [upd_ne (ne_of_none e hD)]
      exact s4 _ _ (h.2.1 _ _ e)
    · rw [upd_same, List.range_succ, List.filter_append, List.filter_cons, if_pos hp, List.filter_nil, List.map_append]
      rfl
  · refine ⟨hx, h.2.1.trans s4, ?_⟩
    rw [List.range_succ, List.filter_append, List.filter_cons, if_neg (by rw [hp]; exact Bool.false_ne_true), List.filter_nil, List.append_nil]
    exact s4 _ _ h.2.2
theorem filt_all {α : Type} (l : List α) : l.filter (fun _ => true) = l := by simp
def rLenK (K : PySem.W.Frag) : List V → Hp → VK → Prop := fun xs H Q => ∃ p ys, xs = [V.ref p] ∧ (SqL K H p ys ∨ SqT K H p ys) ∧ Q (V.int ys.length) H
theorem call_lenK {X : Cx} {K : PySem.W.Frag} (h : X.K = K) : CallR X (.builtin "len") (rLenK K) := by
  subst h
  exact call_len_seq
theorem ix_listK {X : Cx} {K : PySem.W.Frag} (h : X.K = K) : IxR X (rIxL K) := by
  subst h
  exact ix_list
theorem op_inK {X : Cx} {K : PySem.W.Frag} (h : X.K = K) : OpR X (compareOp .In) (rIn K false) := by
  subst h
  exact op_in_seq
theorem pe_fldK {X : Cx} {K : PySem.W.Frag} {e : Expr} {ta : TE} {f : Str} {pos : Pos} (h : X.K = K) (he : PE X e ta) (hb : attributeBase e f X.env (eval e X.env) = eval e X.env) : PE X (.Attribute e f pos) (tFld K ta f) := by
  subst h
  exact pe_fld he hb
theorem boot_set5 : bootBuiltins "set" = some (.type "set") := by decide +kernel
theorem boot_all5 : bootBuiltins "all" = some (.builtin "all") := by decide +kernel
theorem boot_any5 : bootBuiltins "any" = some (.builtin "any") := by decide +kernel
theorem boot_sorted5 : bootBuiltins "sorted" = some (.builtin "sorted") := by decide +kernel
theorem boot_list5 : bootBuiltins "list" = some (.type "list") := by decide +kernel
theorem boot_tuple5 : bootBuiltins "tuple" = some (.type "tuple") := by decide +kernel
theorem small {n : Nat} (h : n ≤ 100000) : n < sizeLine := Nat.lt_of_le_of_lt h (by decide)
end L2
namespace Tk
open PySem PySem.Spec PyProof.Rows L2
def iV (v : V) : Int := match v with | .int i => i | _ => 0
def twoB (p : Int) (row : List Int) : Bool := decide (row.getD 0 0 < p) && (decide (row.getD 1 0 < p) && !decide (row.getD 0 0 = row.getD 1 0))
def waysB (n : Int) (row : List Int) : Bool := (decide ((alt (row.drop 2)).length = (alt (row.drop 3)).length) && decide ((onceI (alt (row.drop 2))).length = (alt (row.drop 2)).length)) && (alt (row.drop 3)).all fun o => decide (o < n) || decide (o = 255)
def scriptB (p : Int) (rows : List (List Int)) : Bool := !(decide (p < 2) || decide (8 < p)) && rows.all fun r => twoB p r && waysB rows.length r
structure RowsAt (H : Hp) (a : Addr) (as : List Addr) (rows : List (List Int)) : Prop where
  lst : H a = some (.lst (as.map V.ref))
  len : as.length = rows.length
  at_ : ∀ (i : Nat) (b : Addr), as[i]? = some b → ∃ r, rows[i]? = some r ∧ H b = some (.lst (r.map V.int))
def spAlt (K : PySem.W.Frag) (k : Nat) : Sp := fun vs H Q _ => ∃ (a : Addr) (xs : List V), vs = [.ref a] ∧ SqL K H a xs ∧ ∀ p, H p = none → Q (.ref p) (upd H p (.lst (alt (xs.drop k))))
def spTwo (K : PySem.W.Frag) : Sp := fun vs H Q _ => ∃ (p : Int) (a : Addr) (row : List Int), vs = [.int p, .ref a] ∧ SqL K H a (row.map V.int) ∧ 2 ≤ row.length ∧ Q (.bl (twoB p row)) H
def spWays (K : PySem.W.Frag) : Sp := fun vs H Q _ => ∃ (n : Int) (a : Addr) (row : List Int), vs = [.int n, .ref a] ∧ SqL K H a (row.map V.int) ∧ row.length ≤ 10 ∧ ∀ H', Same H H' → Q (.bl (waysB n row)) H'
def spScript (K : PySem.W.Frag) : Sp := fun vs H Q _ => ∃ (p : Int) (a : Addr) (as : List Addr) (rows : List (List Int)), vs = [.int p, .ref a] ∧ RowsAt H a as rows ∧ (∀ r ∈ rows, 2 ≤ r.length ∧ r.length ≤ 10) ∧ rows.length ≤ 32 ∧ ∀ H', Same H H' → Q (.bl (scriptB p rows)) H'
theorem alt_map {α β : Type} (f : α → β) : ∀ l : List α, alt (l.map f) = (alt l).map f
  | [] => rfl
  | [a] => rfl
  | a :: b :: r => by
    show f a :: alt (r.map f) = f a :: (alt r).map f
    rw [alt_map f r]
theorem alt_drop (row : List Int) (k : Nat) : alt ((row.map V.int).drop k) = (alt (row.drop k)).map V.int := by
  rw [← List.map_drop, alt_map]
section
variable {P : Program} {w : World} {K : PySem.W.Frag} {mg : Str → Option Value} {base : Heap} {c : Cs}
theorem sc_words : FnScope ["row"] ["row"] (defScope s_words_of_row) := ⟨rfl, rfl, rfl, by decide +kernel, rfl, by decide +kernel, by decide +kernel⟩
theorem ok_words {f : Addr} {fd : FuncData} (F : Fun K "words_of_row" "words_of_row" s_words_of_row f fd) : FnOk P w K mg base (CXe P w) 1 f fd ["row"] (spAlt K 2) := by
  refine F.okE sc_words (fun vs H Q E h => ?_) (fun cdv A outer s H vs Q E hr h => ?_)
  · obtain ⟨a, xs, rfl, _⟩ := h
    rfl
  · obtain ⟨a, xs, rfl, hS, k⟩ := h
    refine ⟨_, pss_one (ps_ret (pe_step2 (k := 2) (pv 0))), ?_⟩
    exact ⟨_, rfl, a, xs, rfl, hS, k⟩
theorem sc_nexts : FnScope ["row"] ["row"] (defScope s_nexts_of_row) := ⟨rfl, rfl, rfl, by decide +kernel, rfl, by decide +kernel, by decide +kernel⟩
theorem ok_nexts {f : Addr} {fd : FuncData} (F : Fun K "nexts_of_row" "nexts_of_row" s_nexts_of_row f fd) : FnOk P w K mg base (CXe P w) 1 f fd ["row"] (spAlt K 3) := by
  refine F.okE sc_nexts (fun vs H Q E h => ?_) (fun cdv A outer s H vs Q E hr h => ?_)
  · obtain ⟨a, xs, rfl, _⟩ := h
    rfl
  · obtain ⟨a, xs, rfl, hS, k⟩ := h
    refine ⟨_, pss_one (ps_ret (pe_step2 (k := 3) (pv 0))), ?_⟩
    exact ⟨_, rfl, a, xs, rfl, hS, k⟩
theorem sc_two : FnScope ["p", "row"] ["p", "row"] (defScope s_are_two_parties) := ⟨rfl, rfl, rfl, by decide +kernel, rfl, by decide +kernel, by decide +kernel⟩
theorem atI_row {row : List Int} {j : Nat} (h : j < row.length) : atI (row.map V.int) (j : Int) = some (.int (row.getD j 0)) := by
  refine atI_nat ?_
  rw [List.getElem?_map, List.getElem?_eq_getElem h, List.getD_eq_getElem?_getD, List.getElem?_eq_getElem h]
  rfl
theorem iteB {b : Bool} {A B : Prop} (h1 : b = true → A) (h2 : b = false → B) : if b = true then A else B := by
  cases b with
  | true => exact h1 rfl
  | false => exact h2 rfl
theorem ok_two {f : Addr} {fd : FuncData} (F : Fun K "are_two_parties" "are_two_parties" s_are_two_parties f fd) : FnOk P w K mg base (CXe P w) 1 f fd ["p", "row"] (spTwo K) := by
  refine F.okE sc_two (fun vs H Q E h => ?_) (fun cdv A outer s H vs Q E hr h => ?_)
  · obtain ⟨p, a, row, rfl, _⟩ := h
    rfl
  · obtain ⟨p, a, row, rfl, hS, h2, k⟩ := h
    refine ⟨_, pss_one (ps_ret (pe_and (pe_cmpR op_lt (pe_ix ix_list (pv 1) pe_int (fun _ _ => rfl)) (pv 0) (nomark _)) (pe_and (pe_cmpR op_lt (pe_ix ix_list (pv 1) pe_int (fun _ _ => rfl)) (pv 0) (nomark _))
      (pe_one (pe_cmpR op_ne (pe_ix ix_list (pv 1) pe_int (fun _ _ => rfl)) (pe_ix ix_list (pv 1) pe_int (fun _ _ => rfl)) (nomark _)))))), ?_⟩
    have a0 := atI_row (row := row) (j := 0) (by omega)
    have a1 := atI_row (row := row) (j := 1) (by omega)
    refine ⟨_, rfl, a, _, _, _, rfl, rfl, hS, a0, _, rfl, _, _, rfl, rfl, _, rfl, iteB (fun e1 => ?_) fun e1 => ?_⟩
    · refine ⟨_, rfl, a, _, _, _, rfl, rfl, hS, a1, _, rfl, _, _, rfl, rfl, _, rfl, iteB (fun e2 => ?_) fun e2 => ?_⟩
      · refine ⟨_, rfl, a, _, _, _, rfl, rfl, hS, a0, _, rfl, a, _, _, _, rfl, rfl, hS, a1, rfl, ?_⟩
        have e : twoB p row = !decide (V.int (row.getD 0 0) = V.int (row.getD 1 0)) := by
          unfold twoB
          rw [e1, e2, Bool.true_and, Bool.true_and]
          simp
        rw [← e]
        exact k
      · have e : twoB p row = false := by
          unfold twoB
          rw [e1, e2]
          rfl
        rw [e] at k
        exact k
    · have e : twoB p row = false := by
        unfold twoB
        rw [e1]
        rfl
      rw [e] at k
      exact k
theorem sc_ways : FnScope ["n", "row", "words", "nexts", "onward"] ["n", "row"] (defScope s_are_ways) := ⟨rfl, rfl, rfl, by decide +kernel, rfl, by decide +kernel, by decide +kernel⟩
theorem ok_ways {f fw fx : Addr} {fd fdw fdx : FuncData} (F : Fun K "are_ways" "are_ways" s_are_ways f fd) (T : Txt K mg c) (GW : Fn P w K mg base "words_of_row" 1 ["row"] (spAlt K 2) fw fdw) (GX : Fn P w K mg base "nexts_of_row" 1 ["row"] (spAlt K 3) fx fdx) :
    FnOk P w K mg base (CXe P w) 2 f fd ["n", "row"] (spWays K) := by
  refine F.okE sc_ways (fun vs H Q E h => ?_) (fun cdv A outer s H vs Q E hr h => ?_)
  · obtain ⟨n, a, row, rfl, _⟩ := h
    rfl
  · obtain ⟨n, a, row, rfl, hS, h10, k⟩ := h
    refine ⟨_, pss_cons (ps_set (i := 2) sc_ways.nd rfl (Or.inl rfl) (pe_call GW.ok hr rfl GW.mg GW.kp GW.bi .nil pass0E (pa_cons (pv 1) pa_nil)))
      (pss_cons (ps_set (i := 3) sc_ways.nd rfl (Or.inl rfl) (pe_call GX.ok hr rfl GX.mg GX.kp GX.bi .nil pass0E (pa_cons (pv 1) pa_nil)))
      (pss_cons (ps_if (PW.pt (pw_or (pt_cmpR op_ne (pe_callB call_len_seq rfl T.len PySem.boot_len (pa_cons (pv 2) pa_nil)) (pe_callB call_len_seq rfl T.len PySem.boot_len (pa_cons (pv 3) pa_nil)) (nomark _))
          (pw_or1 (pt_cmpR op_ne (pe_callB cr_lenSet rfl T.len PySem.boot_len (pa_cons (pe_callTy (cr_set rfl) rfl T.set boot_set5 (pa_cons (pv 2) pa_nil)) pa_nil)) (pe_callB call_len_seq rfl T.len PySem.boot_len (pa_cons (pv 2) pa_nil)) (nomark _)))))
        (pss_one (ps_ret pe_bl)) pss_nil)
      (pss_one (ps_ret (pe_callB (cr_all rfl) rfl T.all boot_all5 (pa_cons (pe_lc (own := [("onward", 4)]) rfl sc_ways.nd (pi_list (pv 3)) (blkOk_by (N := ["n", "row", "words", "nexts", "onward"]) (sc := defScope s_are_ways) (by decide +kernel)) (fun _ _ _ _ _ => pg_name (i := 4) sc_ways.nd rfl (Or.inl rfl)) (fun _ _ _ _ _ => pts_nil)
        (fun _ _ _ _ _ => pe_or (pe_cmpR op_lt (pv 4) (pv 0) (nomark _)) (pe_one (pe_cmpR op_eq (pv 4) (pe_gl rfl T.OVER) (nomark _))))) pa_nil)))))), ?_⟩
    refine ⟨_, rfl, a, _, rfl, hS, fun p1 hp1 => ?_⟩
    rw [alt_drop]
    have s1 : Same H (upd H p1 (.lst ((alt (row.drop 2)).map V.int))) := Same.upd hp1
    refine ⟨_, rfl, a, _, rfl, s1.seq hS, fun p2 hp2 => ?_⟩
    rw [alt_drop]
    have s2 := Same.upd (o := .lst ((alt (row.drop 3)).map V.int)) hp2
    have h1 := s2 _ _ (upd_same (H := H) (a := p1) (o := .lst ((alt (row.drop 2)).map V.int)))
    have h2 := upd_same (H := upd H p1 (.lst ((alt (row.drop 2)).map V.int))) (a := p2) (o := .lst ((alt (row.drop 3)).map V.int))
    have l2 := alt_len (row.drop 2)
    have l3 := alt_len (row.drop 3)
    rw [List.length_drop] at l2 l3
    generalize upd (upd H p1 (.lst ((alt (row.drop 2)).map V.int))) p2 (.lst ((alt (row.drop 3)).map V.int)) = H2 at h1 h2 s2 ⊢
    refine ⟨_, rfl, p1, _, rfl, .inl (SqL.of h1), _, rfl, p2, _, rfl, .inl (SqL.of h2), rfl, _, rfl, ?_⟩
    rw [List.length_map, List.length_map]
    refine iteB (fun e => ?_) fun e => ?_
    · have e2 : waysB n row = false := by
        unfold waysB
        have : ¬ (alt (row.drop 2)).length = (alt (row.drop 3)).length := by simp at e; omega
        rw [decide_eq_false this]
        rfl
      refine iteT ?_
      have := k H2 (s1.trans s2)
      rw [e2] at this
      exact this
    · have e2 : (alt (row.drop 2)).length = (alt (row.drop 3)).length := by simp at e; omega
      refine ⟨_, rfl, p1, _, rfl, SqL.of h1, ?_, fun p3 hp3 => ⟨p3, _, rfl, upd_same, ?_⟩⟩
      · have : (11 : Nat) + 1 < scanBound := by decide
        omega
      have s3 := Same.upd (o := setO P w p3 (onceI (alt (row.drop 2)))) hp3
      refine ⟨_, rfl, p1, _, rfl, .inl (SqL.of (s3 _ _ h1)), rfl, _, rfl, ?_⟩
      rw [List.length_map]
      refine iteB (fun e => ?_) fun e => ?_
      · have e3 : waysB n row = false := by
          unfold waysB
          have : ¬ (onceI (alt (row.drop 2))).length = (alt (row.drop 2)).length := by simp at e; omega
          rw [decide_eq_false this, Bool.and_false, Bool.false_and]
        have := k _ ((s1.trans s2).trans s3)
        rw [e3] at this
        exact this
      · have e3 : (onceI (alt (row.drop 2))).length = (alt (row.drop 2)).length := by simp at e; omega
        refine ⟨_, rfl, p2, rfl, ⟨_, SqL.of (s3 _ _ h2)⟩, fun D hD => ?_⟩
        refine lc_listF (fun _ => true) (fun v => .bl (decide (iV v < n) || decide (iV v = 255))) (SqL.of (s3 _ _ h2)) hD (by rw [List.length_map]; exact small (by omega)) (fun i x H4 N M hx s4 hN hM => ?_) fun H4 s4 hD4 => ?_
        · rw [List.getElem?_map] at hx
          obtain ⟨z, hz, rfl⟩ := Option.map_eq_some_iff.mp hx
          refine ⟨rfl, ?_⟩
          refine ⟨_, rfl, _, rfl, _, _, rfl, rfl, _, rfl, iteB (fun e => ?_) fun e => ?_⟩
          · have this : N (V.bl (decide (z < n) || decide (z = 255))) H4 := hN rfl H4 (Same.refl _)
            rw [e, Bool.true_or] at this
            exact this
          · refine ⟨_, rfl, rfl, ?_⟩
            have this : N (V.bl (decide (z < n) || decide (z = 255))) H4 := hN rfl H4 (Same.refl _)
            rw [e, Bool.false_or] at this
            have e5 : decide (V.int z = V.int 255) = decide (z = 255) := by simp
            rw [e5]
            exact this
        · rw [filt_all, List.map_map] at hD4
          refine ⟨D, (alt (row.drop 3)).map (fun z => decide (z < n) || decide (z = 255)), rfl, SqL.of (by rw [hD4, List.map_map]; rfl), ?_⟩
          have e4 : waysB n row = ((alt (row.drop 3)).map (fun z => decide (z < n) || decide (z = 255))).all id := by
            unfold waysB
            rw [decide_eq_true e2, decide_eq_true e3, List.all_map]
            rfl
          rw [← e4]
          exact k _ (((s1.trans s2).trans s3).trans s4)
theorem sc_script : FnScope ["p", "rows", "row"] ["p", "rows"] (defScope s_is_script) := ⟨rfl, rfl, rfl, by decide +kernel, rfl, by decide +kernel, by decide +kernel⟩
theorem ok_script {f f2 fw : Addr} {fd fd2 fdw : FuncData} (F : Fun K "is_script" "is_script" s_is_script f fd) (T : Txt K mg c) (G2 : Fn P w K mg base "are_two_parties" 1 ["p", "row"] (spTwo K) f2 fd2) (GW : Fn P w K mg base "are_ways" 2 ["n", "row"] (spWays K) fw fdw) :
    FnOk P w K mg base (CXe P w) 3 f fd ["p", "rows"] (spScript K) := by
  refine F.okE sc_script (fun vs H Q E h => ?_) (fun cdv A outer s H vs Q E hr h => ?_)
  · obtain ⟨p, a, as, rows, rfl, _⟩ := h
    rfl
  · obtain ⟨p, a, as, rows, rfl, hR, h10, h32, k⟩ := h
    have hr1 : Room 1 _ := hr.mono (by decide)
    refine ⟨_, pss_cons (ps_if (PW.pt (pw_or (pt_cmpR op_lt (pv 0) (pe_gl rfl T.FEWEST) (nomark _)) (pw_or1 (pt_cmpR op_gt (pv 0) (pe_gl rfl T.MOSTP) (nomark _))))) (pss_one (ps_ret pe_bl)) pss_nil)
      (pss_one (ps_ret (pe_callB (cr_all rfl) rfl T.all boot_all5 (pa_cons (pe_lc (own := [("row", 2)]) rfl sc_script.nd (pi_list (pv 1)) (blkOk_by (N := ["p", "rows", "row"]) (sc := defScope s_is_script) (by decide +kernel)) (fun _ _ _ _ _ => pg_name (i := 2) sc_script.nd rfl (Or.inl rfl)) (fun _ _ _ _ _ => pts_nil)
        (fun _ _ _ _ _ => pe_and (pe_call G2.ok hr1 rfl G2.mg G2.kp G2.bi .nil pass0E (pa_cons (pv 0) (pa_cons (pv 2) pa_nil))) (pe_one (pe_call GW.ok hr rfl GW.mg GW.kp GW.bi .nil pass0E (pa_cons (pe_callB (call_lenK (K := K) rfl) rfl T.len PySem.boot_len (pa_cons (pv 1) pa_nil)) (pa_cons (pv 2) pa_nil)))))) pa_nil)))), ?_⟩
    refine ⟨_, rfl, _, _, rfl, rfl, _, rfl, iteB (fun e => ?_) fun e => ?_⟩
    · refine iteT ?_
      have e2 : scriptB p rows = false := by
        unfold scriptB
        rw [e]
        rfl
      have := k H (Same.refl _)
      rw [e2] at this
      exact this
    · refine ⟨_, rfl, _, _, rfl, rfl, _, rfl, iteB (fun e3 => ?_) fun e3 => ?_⟩
      · have e2 : scriptB p rows = false := by
          unfold scriptB
          rw [e3, Bool.or_true]
          rfl
        have := k H (Same.refl _)
        rw [e2] at this
        exact this
      · refine ⟨_, rfl, a, rfl, ⟨_, SqL.of hR.lst⟩, fun D hD => ?_⟩
        let bs : List Bool := rows.map fun r => twoB p r && waysB rows.length r
        have hlen : (as.map V.ref).length = rows.length := by rw [List.length_map]; exact hR.len
        refine lc_list (xs := as.map V.ref) (fun i H' => Same H H' ∧ H' D = some (.lst ((bs.take i).map V.bl))) ⟨Same.upd hD, upd_same⟩ (fun i H' _ h => SqL.of (h.1 _ _ hR.lst)) (fun i x H4 hx h => ?_) fun H4 h => ?_
        · rw [List.getElem?_map] at hx
          obtain ⟨b, hb, rfl⟩ := Option.map_eq_some_iff.mp hx
          obtain ⟨r, hr0, hrb⟩ := hR.at_ i b hb
          have hm : r ∈ rows := List.mem_of_getElem? hr0
          have hbs : bs[i]? = some (twoB p r && waysB rows.length r) := by
            show (rows.map _)[i]? = _
            rw [List.getElem?_map, hr0]
            rfl
          have lt : i < rows.length := (List.getElem?_eq_some_iff.mp hr0).1
          refine ⟨rfl, ?_⟩
          refine ⟨_, rfl, _, rfl, p, b, r, rfl, SqL.of (h.1 _ _ hrb), (h10 r hm).1, _, rfl, iteB (fun e1 => ?_) fun e1 => ?_⟩
          · refine ⟨_, rfl, a, _, rfl, .inl (SqL.of (h.1 _ _ hR.lst)), _, rfl, _, b, r, rfl, SqL.of (h.1 _ _ hrb), (h10 r hm).2, fun H5 s5 => ?_⟩
            refine ⟨_, s5 _ _ h.2, ?_, fun b o e => ?_, ?_⟩
            · rw [List.length_map, List.length_take]
              exact Nat.lt_of_le_of_lt (Nat.min_le_right _ _) (by show (rows.map _).length < _; rw [List.length_map]; exact small (by omega))
            · rw [upd_ne (ne_of_none e hD)]
              exact s5 _ _ (h.1 _ _ e)
            · rw [upd_same, take_nx hbs, List.map_append, e1, Bool.true_and, hlen]
              rfl
          · refine ⟨_, h.2, ?_, fun b o e => ?_, ?_⟩
            · rw [List.length_map, List.length_take]
              exact Nat.lt_of_le_of_lt (Nat.min_le_right _ _) (by show (rows.map _).length < _; rw [List.length_map]; exact small (by omega))
            · rw [upd_ne (ne_of_none e hD)]
              exact (h.1 _ _ e)
            · rw [upd_same, take_nx hbs, List.map_append, e1, Bool.false_and]
              rfl
        · have hf : H4 D = some (.lst (bs.map V.bl)) := by
            have := h.2
            rw [hlen, List.take_of_length_le (by show (rows.map _).length ≤ _; rw [List.length_map]; exact Nat.le_refl _)] at this
            exact this
          refine ⟨D, bs, rfl, SqL.of hf, ?_⟩
          have e4 : scriptB p rows = bs.all id := by
            unfold scriptB
            rw [e, e3]
            show (rows.all _) = (rows.map _).all id
            rw [List.all_map]
            rfl
          rw [← e4]
          exact k _ h.1
end
end Tk
end
section
set_option linter.all false
namespace Tk
open Kh292 L2
def wsI (ws : List (Nat × Option Nat)) : List (Int × V) := ws.map fun w => ((w.1 : Int), V.int (encO w.2))
theorem nat_of {z : Int} (h : 0 ≤ z) : ((Kh293Neutral.nat z : Nat) : Int) = z := by
  unfold Kh293Neutral.nat
  omega
theorem enc_next {n : Int} (h : 0 ≤ n) : encO (if n = 255 then none else some (Kh293Neutral.nat n)) = n := by
  split
  · rename_i e
    rw [e]
    rfl
  · exact nat_of h
theorem wsI_ways : ∀ l : List Int, (∀ z ∈ l, 0 ≤ z) → wsI (Kh293Neutral.ways l) = (alt l).zip ((alt (l.drop 1)).map V.int)
  | [], _ => rfl
  | [a], _ => by simp [Kh293Neutral.ways, alt, wsI]
  | a :: b :: r, h => by
    have ih := wsI_ways r fun z hz => h z (by simp [hz])
    have e1 : alt ((a :: b :: r).drop 1) = b :: alt (r.drop 1) := by
      cases r with
      | nil => rfl
      | cons x r => rfl
    rw [e1]
    show ((Kh293Neutral.nat a : Int), V.int (encO (if b = 255 then none else some (Kh293Neutral.nat b)))) :: wsI (Kh293Neutral.ways r) = _
    rw [ih, nat_of (h a (by simp)), enc_next (h b (by simp))]
    rfl
theorem ways_fst : ∀ l : List Int, (∀ z ∈ l, 0 ≤ z) → l.length % 2 = 0 → ((Kh293Neutral.ways l).map fun w => (w.1 : Int)) = alt l
  | [], _, _ => rfl
  | [a], _, h => by simp at h
  | a :: b :: r, h, hl => by
    show (Kh293Neutral.nat a : Int) :: _ = a :: alt r
    rw [nat_of (h a (by simp))]
    exact congrArg _ (ways_fst r (fun z hz => h z (by simp [hz])) (by simp at hl; omega))
theorem alt_lens : ∀ l : List Int, l.length % 2 = 0 → (alt l).length = (alt (l.drop 1)).length
  | [], _ => rfl
  | [a], h => by simp at h
  | a :: b :: r, h => by
    have ih := alt_lens r (by simp at h; omega)
    cases r with
    | nil => rfl
    | cons x r =>
      show (alt (x :: r)).length + 1 = (b :: alt ((x :: r).drop 1)).length
      rw [ih]
      rfl
theorem alt_lens2 : ∀ l : List Int, (alt l).length = (l.length + 1) / 2
  | [] => rfl
  | [a] => by simp [alt]
  | a :: b :: r => by
    show (alt r).length + 1 = _
    rw [alt_lens2 r]
    simp only [List.length_cons]
    omega
end Tk
end
section
set_option Elab.async false
set_option linter.all false
set_option maxRecDepth 100000
namespace Tk
open PySem PySem.Spec PyProof.Rows L2
open Kh292 (Script State at_ takesPart okScript)
abbrev Pc := Kh292.Place
def PlaceAt (c : Cs) (H : Hp) (a : Addr) (x : Pc) : Prop := ∃ dx d : Addr, H a = some (.ins c.pl dx (plF x.from_ x.to_ d)) ∧ H d = some (.dK (iK (wsI x.ways)))
theorem PlaceAt.same {c : Cs} {H H' : Hp} {a : Addr} {x : Pc} (h : PlaceAt c H a x) (s : Same H H') : PlaceAt c H' a x := let ⟨dx, d, h1, h2⟩ := h; ⟨dx, d, s _ _ h1, s _ _ h2⟩
def But (p : Addr) (H H' : Hp) : Prop := ∀ b o, H b = some o → b ≠ p → H' b = some o
def spPlaceInit (K : PySem.W.Frag) (c : Cs) : Sp := fun vs H Q _ => ∃ (p dx r : Addr) (row : List Int), vs = [.ref p, .ref r] ∧ H p = some (.ins c.pl dx []) ∧ H r = some (.lst (row.map V.int)) ∧ 4 ≤ row.length ∧ row.length ≤ 10 ∧ row.length % 2 = 0 ∧ (∀ z ∈ row, 0 ≤ z) ∧ (alt (row.drop 2)).Nodup ∧
  ∀ H', PlaceAt c H' p (Kh293Neutral.place row) → But p H H' → Q .non H'
def roF (k o : Int) (d : Addr) : List (Str × V) := [("kind", .int k), ("other", .int o), ("behind", .ref d)]
theorem roF1 (f t : Int) (d : Addr) : (roF f t d).lookup ("kind" : Str) = some (.int f) := by rfl
theorem roF2 (f t : Int) (d : Addr) : (roF f t d).lookup ("other" : Str) = some (.int t) := by rfl
theorem roF3 (f t : Int) (d : Addr) : (roF f t d).lookup ("behind" : Str) = some (.ref d) := by rfl
def spRowInit (c : Cs) : Sp := fun vs H Q _ => ∃ (p dx d : Addr) (k o : Int), vs = [.ref p, .int k, .int o, .ref d] ∧ H p = some (.ins c.ro dx []) ∧ ∀ H', H' p = some (.ins c.ro dx (roF k o d)) → But p H H' → Q .non H'
section
variable {P : Program} {w : World} {K : PySem.W.Frag} {mg : Str → Option Value} {base : Heap} {c : Cs}
theorem upd_but {H : Hp} {p : Addr} {o : HO} : But p H (upd H p o) := fun b u e hb => by rw [upd_ne hb]; exact e
theorem But.trans {p : Addr} {H H1 H2 : Hp} (a : But p H H1) (b : But p H1 H2) : But p H H2 := fun x o e hx => b x o (a x o e hx) hx
theorem But.of {p : Addr} {H H1 : Hp} (a : Same H H1) : But p H H1 := fun x o e _ => a x o e
theorem zip_fst : ∀ (ks : List Int) (ys : List V), ks.length = ys.length → (ks.zip ys).map (·.1) = ks
  | [], [], _ => rfl
  | [], _ :: _, h => by simp at h
  | _ :: _, [], h => by simp at h
  | k :: ks, y :: ys, h => by
    show k :: (ks.zip ys).map (·.1) = k :: ks
    rw [zip_fst ks ys (by simpa using h)]
theorem sc_placeI : FnScope ["self", "row"] ["self", "row"] (defScope s_Place_init) := ⟨rfl, rfl, rfl, by decide +kernel, rfl, by decide +kernel, by decide +kernel⟩
theorem ok_placeI {f fw fx : Addr} {fd fdw fdx : FuncData} (F : Fun K "__init__" "Place.__init__" s_Place_init f fd) (T : Txt K mg c) (GW : Fn P w K mg base "words_of_row" 1 ["row"] (spAlt K 2) fw fdw) (GX : Fn P w K mg base "nexts_of_row" 1 ["row"] (spAlt K 3) fx fdx) :
    FnOk P w K mg base (CXe P w) 2 f fd ["self", "row"] (spPlaceInit K c) := by
  refine F.okE sc_placeI (fun vs H Q E h => ?_) (fun cdv A outer s H vs Q E hr h => ?_)
  · obtain ⟨p, dx, r, row, rfl, _⟩ := h
    rfl
  · obtain ⟨p, dx, r, row, rfl, hp, hS, h4, h10, hev, hnn, hnd, k⟩ := h
    refine ⟨_, pss_cons (ps_fld (pv 0) (pe_ix ix_list (pv 1) pe_int (fun _ _ => rfl)) rfl) (pss_cons (ps_fld (pv 0) (pe_ix ix_list (pv 1) pe_int (fun _ _ => rfl)) rfl)
      (pss_one (ps_fld (pv 0) (pe_dictzip rfl rfl T.dict rfl T.zip (pa_cons (pe_call GW.ok hr rfl GW.mg GW.kp GW.bi .nil pass0E (pa_cons (pv 1) pa_nil)) (pa_cons (pe_call GX.ok hr rfl GX.mg GX.kp GX.bi .nil pass0E (pa_cons (pv 1) pa_nil)) pa_nil))) rfl))), ?_⟩
    have npr : r ≠ p := ne_of hS hp (by intro q; cases q)
    have a0 := atI_row (row := row) (j := 0) (by omega)
    have a1 := atI_row (row := row) (j := 1) (by omega)
    refine ⟨_, rfl, r, _, _, _, rfl, rfl, SqL.of hS, a0, _, rfl, p, c.pl, dx, [], rfl, hp, T.plc, T.pl1, (by show 0 < 1000; decide), ?_⟩
    have r1 : (upd H p (.ins c.pl dx (putF "speaker" (.int (row.getD 0 0)) []))) r = some (.lst (row.map V.int)) := by rw [upd_ne npr]; exact hS
    refine ⟨_, rfl, r, _, _, _, rfl, rfl, SqL.of r1, a1, _, rfl, p, c.pl, dx, _, rfl, upd_same, T.plc, T.pl2, (by show 1 < 1000; decide), ?_⟩
    rw [upd_upd]
    have r2 : (upd H p (.ins c.pl dx (putF "listener" (.int (row.getD 1 0)) (putF "speaker" (.int (row.getD 0 0)) [])))) r = some (.lst (row.map V.int)) := by rw [upd_ne npr]; exact hS
    have b2 : But p H (upd H p (.ins c.pl dx (putF "listener" (.int (row.getD 1 0)) (putF "speaker" (.int (row.getD 0 0)) [])))) := upd_but
    have p2 := upd_same (H := H) (a := p) (o := .ins c.pl dx (putF "listener" (.int (row.getD 1 0)) (putF "speaker" (.int (row.getD 0 0)) [])))
    generalize upd H p (.ins c.pl dx (putF "listener" (.int (row.getD 1 0)) (putF "speaker" (.int (row.getD 0 0)) []))) = H2 at r2 b2 p2 ⊢
    refine ⟨_, rfl, r, _, rfl, SqL.of r2, fun q1 hq1 => ?_⟩
    rw [alt_drop]
    have s3 := Same.upd (o := .lst ((alt (row.drop 2)).map V.int)) hq1
    have w3 := upd_same (H := H2) (a := q1) (o := .lst ((alt (row.drop 2)).map V.int))
    generalize upd H2 q1 (.lst ((alt (row.drop 2)).map V.int)) = H3 at s3 w3 ⊢
    refine ⟨_, rfl, r, _, rfl, SqL.of (s3 _ _ r2), fun q2 hq2 => ?_⟩
    rw [alt_drop]
    have s4 := Same.upd (o := .lst ((alt (row.drop 3)).map V.int)) hq2
    have w4 := upd_same (H := H3) (a := q2) (o := .lst ((alt (row.drop 3)).map V.int))
    generalize upd H3 q2 (.lst ((alt (row.drop 3)).map V.int)) = H4 at s4 w4 ⊢
    have e23 : row.drop 3 = (row.drop 2).drop 1 := by rw [List.drop_drop]
    have hlen : (alt (row.drop 2)).length = ((alt (row.drop 3)).map V.int).length := by
      rw [List.length_map, e23]
      exact alt_lens _ (by rw [List.length_drop]; omega)
    refine ⟨q1, q2, alt (row.drop 2), (alt (row.drop 3)).map V.int, rfl, SqL.of (s4 _ _ w3), SqL.of w4, hlen, fun d hd => ?_⟩
    have em : mergeK [] (iK ((alt (row.drop 2)).zip ((alt (row.drop 3)).map V.int))) = iK (wsI (Kh293Neutral.place row).ways) := by
      have := mergeK_nd ((alt (row.drop 2)).zip ((alt (row.drop 3)).map V.int)) [] (by rw [List.nil_append, zip_fst _ _ hlen]; exact hnd)
      refine Eq.trans this ?_
      rw [List.nil_append]
      show _ = iK (wsI (Kh293Neutral.ways (row.drop 2)))
      rw [wsI_ways _ (fun z hz => hnn z (List.mem_of_mem_drop hz)), e23]
    rw [em]
    have s5 := Same.upd (o := .dK (iK (wsI (Kh293Neutral.place row).ways))) hd
    have w5 := upd_same (H := H4) (a := d) (o := .dK (iK (wsI (Kh293Neutral.place row).ways)))
    generalize upd H4 d (.dK (iK (wsI (Kh293Neutral.place row).ways))) = H5 at s5 w5 ⊢
    have p5 := s5 _ _ (s4 _ _ (s3 _ _ p2))
    refine ⟨_, rfl, p, c.pl, dx, _, rfl, p5, T.plc, T.pl3, (by show 2 < 1000; decide), ?_⟩
    have ndp : d ≠ p := ne_of w5 p5 (by intro q; cases q)
    refine k _ ⟨dx, d, ?_, by rw [upd_ne ndp]; exact w5⟩ ?_
    · rw [upd_same, plFput]
      have e0 : ((Kh293Neutral.place row).from_ : Int) = row.getD 0 0 := nat_of (by rw [List.getD_eq_getElem?_getD, List.getElem?_eq_getElem (by omega : 0 < row.length)]; exact hnn _ (List.getElem_mem _))
      have e1 : ((Kh293Neutral.place row).to_ : Int) = row.getD 1 0 := nat_of (by rw [List.getD_eq_getElem?_getD, List.getElem?_eq_getElem (by omega : 1 < row.length)]; exact hnn _ (List.getElem_mem _))
      rw [e0, e1]
    · exact (b2.trans (But.of ((s3.trans s4).trans s5))).trans upd_but
theorem sc_rowI : FnScope ["self", "kind", "other", "behind"] ["self", "kind", "other", "behind"] (defScope s_Row_init) := ⟨rfl, rfl, rfl, by decide +kernel, rfl, by decide +kernel, by decide +kernel⟩
theorem ok_rowI {f : Addr} {fd : FuncData} (F : Fun K "__init__" "Row.__init__" s_Row_init f fd) (T : Txt K mg c) : FnOk P w K mg base (CXe P w) 1 f fd ["self", "kind", "other", "behind"] (spRowInit c) := by
  refine F.okE sc_rowI (fun vs H Q E h => ?_) (fun cdv A outer s H vs Q E hr h => ?_)
  · obtain ⟨p, dx, d, x, o, rfl, _⟩ := h
    rfl
  · obtain ⟨p, dx, d, x, o, rfl, hp, k⟩ := h
    refine ⟨_, pss_cons (ps_fld (pv 0) (pv 1) rfl) (pss_cons (ps_fld (pv 0) (pv 2) rfl) (pss_one (ps_fld (pv 0) (pv 3) rfl))), ?_⟩
    refine ⟨_, rfl, _, rfl, p, c.ro, dx, [], rfl, hp, T.roc, T.ro1, (by show 0 < 1000; decide), ?_⟩
    refine ⟨_, rfl, _, rfl, p, c.ro, dx, _, rfl, upd_same, T.roc, T.ro2, (by show 1 < 1000; decide), ?_⟩
    refine ⟨_, rfl, _, rfl, p, c.ro, dx, _, rfl, upd_same, T.roc, T.ro3, (by show 2 < 1000; decide), ?_⟩
    rw [upd_upd, upd_upd]
    exact k _ upd_same upd_but
end
end Tk
end
section
set_option Elab.async false
set_option linter.all false
set_option maxRecDepth 100000
namespace Tk
open PySem PySem.Spec PyProof.Rows L2
open Kh292 (Script State at_ takesPart okScript)
def PlacesAt (c : Cs) (H : Hp) (a : Addr) (s : Script) : Prop := ∃ as : List Addr, H a = some (.lst (as.map V.ref)) ∧ as.length = s.places.length ∧ ∀ (i : Nat) (b : Addr), as[i]? = some b → PlaceAt c H b (at_ s i)
theorem PlacesAt.same {c : Cs} {H H' : Hp} {a : Addr} {s : Script} (h : PlacesAt c H a s) (k : Same H H') : PlacesAt c H' a s :=
  let ⟨as, h1, h2, h3⟩ := h
  ⟨as, k _ _ h1, h2, fun i b e => (h3 i b e).same k⟩
theorem PlacesAt.get {c : Cs} {H : Hp} {a : Addr} {s : Script} (h : PlacesAt c H a s) {q : Nat} (hq : q < s.places.length) : ∃ (xs : List V) (b : Addr), H a = some (.lst xs) ∧ atI xs (q : Int) = some (.ref b) ∧ PlaceAt c H b (at_ s q) := by
  obtain ⟨as, h1, h2, h3⟩ := h
  have lt : q < as.length := by omega
  refine ⟨_, as[q], h1, atI_nat ?_, h3 q _ (List.getElem?_eq_getElem lt)⟩
  rw [List.getElem?_map, List.getElem?_eq_getElem lt]
  rfl
theorem PlacesAt.len {c : Cs} {H : Hp} {a : Addr} {s : Script} (h : PlacesAt c H a s) : ∃ xs : List V, H a = some (.lst xs) ∧ xs.length = s.places.length := by
  obtain ⟨as, h1, h2, h3⟩ := h
  exact ⟨_, h1, by rw [List.length_map]; exact h2⟩
def lineB (x y : Pc) : Bool := decide (x.from_ = y.from_) && decide (x.to_ = y.to_)
def wordsB (x y : Pc) : Bool := Kh292.sameWords (x.ways.map Prod.fst) (y.ways.map Prod.fst)
def spLine (c : Cs) : Sp := fun vs H Q _ => ∃ (a b : Addr) (x y : Pc), vs = [.ref a, .ref b] ∧ PlaceAt c H a x ∧ PlaceAt c H b y ∧ Q (.bl (lineB x y)) H
def spSpeech (c : Cs) : Sp := fun vs H Q _ => ∃ (a b : Addr) (x y : Pc), vs = [.ref a, .ref b] ∧ PlaceAt c H a x ∧ PlaceAt c H b y ∧ (x.ways.map Prod.fst).Nodup ∧ (y.ways.map Prod.fst).Nodup ∧ x.ways.length ≤ 4 ∧ y.ways.length ≤ 4 ∧ ∀ H', Same H H' → Q (.bl (lineB x y && wordsB x y)) H'
def endB (s : Script) (c : Nat) : Option Nat → Bool
  | none => true
  | some q => takesPart s c q
def spEnd (c : Cs) : Sp := fun vs H Q _ => ∃ (p : Nat) (a : Addr) (s : Script) (o : Option Nat), vs = [.int p, .ref a, .int (encO o)] ∧ PlacesAt c H a s ∧ okO s o ∧ s.places.length ≤ 32 ∧ ∀ H', Same H H' → Q (.bl (endB s p o)) H'
theorem eqv_ints : ∀ ns ms : List Int, PyData.eqvAll (ns.map PyData.int) (ms.map PyData.int) = decide (ns = ms)
  | [], [] => rfl
  | [], _ :: _ => rfl
  | _ :: _, [] => rfl
  | n :: ns, m :: ms => by
    show (PyData.eqv (.int n) (.int m) && PyData.eqvAll (ns.map PyData.int) (ms.map PyData.int)) = _
    rw [eqv_ints ns ms]
    show ((n == m) && _) = _
    by_cases h : n = m
    · subst h; simp
    · simp [h]
theorem canLay_ints : ∀ ns : List Int, PyData.canLayAll0 (ns.map PyData.int) = true
  | [] => rfl
  | n :: ns => by
    show (PyData.canLay0 (.int n) && PyData.canLayAll0 (ns.map PyData.int)) = true
    rw [canLay_ints ns]
    rfl
theorem depth_ints : ∀ ns : List Int, PyData.depthAll (ns.map PyData.int) = 0
  | [] => rfl
  | n :: ns => by
    show max (PyData.depth (.int n)) (PyData.depthAll (ns.map PyData.int)) = 0
    rw [depth_ints ns]
    rfl
theorem shaped_list (ns : List Int) : SeqAt.shaped (.list (ns.map PyData.int)) = true := by
  show (PyData.canLayAll0 (ns.map PyData.int) && decide (PyData.depthAll (ns.map PyData.int) + 1 ≤ 64)) = true
  rw [canLay_ints, depth_ints]
  rfl
theorem shaped_tuple (ns : List Int) : SeqAt.shaped (.tuple (ns.map PyData.int)) = true := by
  show (PyData.canLayAll0 (ns.map PyData.int) && decide (PyData.depthAll (ns.map PyData.int) + 1 ≤ 64)) = true
  rw [canLay_ints, depth_ints]
  rfl
theorem dpAll_ints {K : PySem.W.Frag} {H : Hp} : ∀ ns : List Int, DpAll K H (ns.map V.int) (ns.map PyData.int)
  | [] => .nil
  | n :: ns => .cons (.int n) (dpAll_ints ns)
theorem wsI_fst (ws : List (Nat × Option Nat)) : (wsI ws).map (·.1) = (ws.map Prod.fst).map Int.ofNat := by
  unfold wsI
  rw [List.map_map, List.map_map]
  rfl
theorem nd_ints {l : List Nat} (h : l.Nodup) : (l.map Int.ofNat).Nodup := by
  refine List.pairwise_map.mpr (h.imp fun hab e => hab (Int.ofNat.inj e))
theorem same_words {A B : List Nat} {ns ms : List Int} (hA : A.Nodup) (hB : B.Nodup) (h1 : ns.Perm (A.map Int.ofNat)) (s1 : ns.Pairwise (· ≤ ·)) (h2 : ms.Perm (B.map Int.ofNat)) (s2 : ms.Pairwise (· ≤ ·)) : decide (ns = ms) = Kh292.sameWords A B := by
  have r1 := rise_of h1 s1 (nd_ints hA)
  have r2 := rise_of h2 s2 (nd_ints hB)
  have e : ns = ms ↔ ∀ z, z ∈ A ↔ z ∈ B := by
    constructor
    · intro e z
      have m1 : Int.ofNat z ∈ ns ↔ z ∈ A := by
        rw [h1.mem_iff, List.mem_map]
        exact ⟨fun ⟨y, hy, q⟩ => Int.ofNat.inj q ▸ hy, fun h => ⟨z, h, rfl⟩⟩
      have m2 : Int.ofNat z ∈ ms ↔ z ∈ B := by
        rw [h2.mem_iff, List.mem_map]
        exact ⟨fun ⟨y, hy, q⟩ => Int.ofNat.inj q ▸ hy, fun h => ⟨z, h, rfl⟩⟩
      rw [← m1, ← m2, e]
    · intro h
      refine rise_eq r1 r2 fun z => ?_
      rw [h1.mem_iff, h2.mem_iff, List.mem_map, List.mem_map]
      exact ⟨fun ⟨y, hy, q⟩ => ⟨y, (h y).mp hy, q⟩, fun ⟨y, hy, q⟩ => ⟨y, (h y).mpr hy, q⟩⟩
  have e2 : Kh292.sameWords A B = true ↔ ∀ z, z ∈ A ↔ z ∈ B := by
    unfold Kh292.sameWords
    rw [Bool.and_eq_true, List.all_eq_true, List.all_eq_true]
    constructor
    · rintro ⟨a, b⟩ z
      exact ⟨fun h => List.contains_iff_mem.mp (a z h), fun h => List.contains_iff_mem.mp (b z h)⟩
    · intro h
      exact ⟨fun z hz => List.contains_iff_mem.mpr ((h z).mp hz), fun z hz => List.contains_iff_mem.mpr ((h z).mpr hz)⟩
  rw [Bool.eq_iff_iff, decide_eq_true_iff, e, e2]
section
variable {P : Program} {w : World} {K : PySem.W.Frag} {mg : Str → Option Value} {base : Heap} {c : Cs}
theorem sc_line : FnScope ["one", "another"] ["one", "another"] (defScope s_is_same_line) := ⟨rfl, rfl, rfl, by decide +kernel, rfl, by decide +kernel, by decide +kernel⟩
theorem dec_nat {a b : Nat} : decide (V.int (a : Int) = V.int (b : Int)) = decide (a = b) := by
  rw [Bool.eq_iff_iff, decide_eq_true_iff, decide_eq_true_iff]
  exact ⟨fun h => by have := V.int.inj h; omega, fun h => by rw [h]⟩
theorem ok_line {f : Addr} {fd : FuncData} (F : Fun K "is_same_line" "is_same_line" s_is_same_line f fd) (T : Txt K mg c) : FnOk P w K mg base (CXe P w) 1 f fd ["one", "another"] (spLine c) := by
  refine F.okE sc_line (fun vs H Q E h => ?_) (fun cdv A outer s H vs Q E hr h => ?_)
  · obtain ⟨a, b, x, y, rfl, _⟩ := h
    rfl
  · obtain ⟨a, b, x, y, rfl, ⟨dx, d1, ha, _⟩, ⟨dy, d2, hb, _⟩, k⟩ := h
    refine ⟨_, pss_one (ps_ret (pe_and (pe_cmpR op_eq (pe_fld (pv 0) rfl) (pe_fld (pv 1) rfl) (nomark _)) (pe_one (pe_cmpR op_eq (pe_fld (pv 0) rfl) (pe_fld (pv 1) rfl) (nomark _))))), ?_⟩
    refine ⟨_, rfl, a, c.pl, dx, _, _, rfl, ha, T.plc, T.pl1, plF1 _ _ _, _, rfl, b, c.pl, dy, _, _, rfl, hb, T.plc, T.pl1, plF1 _ _ _, rfl, _, rfl, iteB (fun e => ?_) fun e => ?_⟩
    · refine ⟨_, rfl, a, c.pl, dx, _, _, rfl, ha, T.plc, T.pl2, plF2 _ _ _, _, rfl, b, c.pl, dy, _, _, rfl, hb, T.plc, T.pl2, plF2 _ _ _, rfl, ?_⟩
      rw [dec_nat] at e ⊢
      unfold lineB at k
      rw [e, Bool.true_and] at k
      exact k
    · rw [dec_nat] at e
      unfold lineB at k
      rw [e, Bool.false_and] at k
      exact k
theorem sc_speech : FnScope ["one", "another"] ["one", "another"] (defScope s_is_same_speech) := ⟨rfl, rfl, rfl, by decide +kernel, rfl, by decide +kernel, by decide +kernel⟩
theorem ok_speech {f fl : Addr} {fd fdl : FuncData} (F : Fun K "is_same_speech" "is_same_speech" s_is_same_speech f fd) (T : Txt K mg c) (GL : Fn P w K mg base "is_same_line" 1 ["one", "another"] (spLine c) fl fdl) : FnOk P w K mg base (CXe P w) 2 f fd ["one", "another"] (spSpeech c) := by
  refine F.okE sc_speech (fun vs H Q E h => ?_) (fun cdv A outer s H vs Q E hr h => ?_)
  · obtain ⟨a, b, x, y, rfl, _⟩ := h
    rfl
  · obtain ⟨a, b, x, y, rfl, pa, pb, nx, ny, l4, m4, k⟩ := h
    obtain ⟨dx, d1, ha, hda⟩ := id pa
    obtain ⟨dy, d2, hb, hdb⟩ := id pb
    refine ⟨_, pss_one (ps_ret (pe_and (pe_call GL.ok hr rfl GL.mg GL.kp GL.bi .nil pass0E (pa_cons (pv 0) (pa_cons (pv 1) pa_nil)))
      (pe_one (pe_cmpR (op_eqD hr.units) (pe_callB (cr_sortedD rfl) rfl T.sorted boot_sorted5 (pa_cons (pe_fld (pv 0) rfl) pa_nil)) (pe_callB (cr_sortedD rfl) rfl T.sorted boot_sorted5 (pa_cons (pe_fld (pv 1) rfl) pa_nil)) (nomark _))))), ?_⟩
    refine ⟨_, rfl, _, rfl, a, b, x, y, rfl, pa, pb, _, rfl, iteB (fun e => ?_) fun e => ?_⟩
    · refine ⟨_, rfl, a, c.pl, dx, _, _, rfl, ha, T.plc, T.pl3, plF3 _ _ _, d1, _, rfl, hda, fun ns p1 h1 o1 hp1 => ?_⟩
      have s1 := Same.upd (o := .lst (ns.map V.int)) hp1
      refine ⟨_, rfl, b, c.pl, dy, _, _, rfl, s1 _ _ hb, T.plc, T.pl3, plF3 _ _ _, d2, _, rfl, s1 _ _ hdb, fun ms p2 h2 o2 hp2 => ?_⟩
      have s2 := Same.upd (o := .lst (ms.map V.int)) hp2
      refine ⟨.list (ns.map PyData.int), .list (ms.map PyData.int), .lst (SqL.of (s2 _ _ upd_same)) (dpAll_ints _), .lst (SqL.of upd_same) (dpAll_ints _), shaped_list _, shaped_list _, ?_⟩
      rw [wsI_fst] at h1 h2
      have e2 : PyData.eqv (.list (ns.map PyData.int)) (.list (ms.map PyData.int)) = wordsB x y := by
        show PyData.eqvAll _ _ = _
        rw [eqv_ints]
        exact same_words nx ny h1 o1 h2 o2
      rw [e2]
      have := k _ (s1.trans s2)
      rw [e, Bool.true_and] at this
      exact this
    · have := k H (Same.refl _)
      rw [e, Bool.false_and] at this
      exact this
theorem sc_end : FnScope ["party", "places", "at"] ["party", "places", "at"] (defScope s_is_end) := ⟨rfl, rfl, rfl, by decide +kernel, rfl, by decide +kernel, by decide +kernel⟩
theorem ok_end {f : Addr} {fd : FuncData} (F : Fun K "is_end" "is_end" s_is_end f fd) (T : Txt K mg c) : FnOk P w K mg base (CXe P w) 1 f fd ["party", "places", "at"] (spEnd c) := by
  refine F.okE sc_end (fun vs H Q E h => ?_) (fun cdv A outer s H vs Q E hr h => ?_)
  · obtain ⟨p, a, sc, o, rfl, _⟩ := h
    rfl
  · obtain ⟨p, a, sc, o, rfl, hp, ho, hn, k⟩ := h
    refine ⟨_, pss_one (ps_ret (pe_or (pe_cmpR op_eq (pv 2) (pe_gl rfl T.OVER) (nomark _)) (pe_one (pe_cmpR op_in_seq (pv 0) (pe_tup (pa_cons (pe_fld (pe_ix ix_list (pv 1) (pv 2) (fun _ _ => rfl)) rfl) (pa_cons (pe_fld (pe_ix ix_list (pv 1) (pv 2) (fun _ _ => rfl)) rfl) pa_nil))) (by with_unfolding_all rfl))))), ?_⟩
    cases o with
    | none =>
      refine ⟨_, rfl, rfl, _, rfl, ?_⟩
      refine iteB (fun _ => k H (Same.refl _)) fun e => ?_
      exact absurd e (by decide)
    | some q =>
      have lt : q < 32 := Nat.lt_of_lt_of_le ho hn
      obtain ⟨xs, b, h1, h2, dx, d, hb, _⟩ := hp.get ho
      refine ⟨_, rfl, rfl, _, rfl, iteB (fun e => ?_) fun e => ?_⟩
      · have : (q : Int) = 255 := V.int.inj (of_decide_eq_true e)
        omega
      · refine ⟨_, rfl, _, rfl, _, rfl, a, _, _, _, rfl, rfl, SqL.of h1, h2, b, c.pl, dx, _, _, rfl, hb, T.plc, T.pl1, plF1 _ _ _, ?_⟩
        refine ⟨_, rfl, _, rfl, a, _, _, _, rfl, rfl, SqL.of h1, h2, b, c.pl, dx, _, _, rfl, hb, T.plc, T.pl2, plF2 _ _ _, (by show 2 ≤ sizeLine; decide), fun t ht => ?_⟩
        refine ⟨t, _, rfl, .inr (SqT.of upd_same), rfl, rfl, ?_⟩
        have := k _ (Same.upd (o := .tup [.int ((at_ sc q).from_ : Int), .int ((at_ sc q).to_ : Int)]) ht)
        have e2 : inV (.int (p : Int)) [.int ((at_ sc q).from_ : Int), .int ((at_ sc q).to_ : Int)] = endB sc p (some q) := by
          show ((((at_ sc q).from_ : Int) == (p : Int)) || ((((at_ sc q).to_ : Int) == (p : Int)) || false)) = ((at_ sc q).from_ == p || (at_ sc q).to_ == p)
          rw [Bool.or_false]
          congr 1 <;> (rw [Bool.eq_iff_iff, beq_iff_eq, beq_iff_eq]; omega)
        rw [if_neg (by decide), e2]
        exact this
end
end Tk
end
section
set_option linter.all false
namespace Tk
open Kh292
theorem encO_inj {s : Script} (hn : s.places.length ≤ 32) {a b : Option Nat} (ha : okO s a) (hb : okO s b) (h : encO a = encO b) : a = b := by
  cases a with
  | none =>
    cases b with
    | none => rfl
    | some q =>
      have : q < s.places.length := hb
      simp only [encO] at h
      omega
  | some p =>
    have hp : p < s.places.length := ha
    cases b with
    | none =>
      simp only [encO] at h
      omega
    | some q =>
      simp only [encO] at h
      have : p = q := by omega
      rw [this]
structure WInv (s : Script) (c q : Nat) (seen waiting : List Int) : Prop where
  sk : ∀ z ∈ seen, ∃ o, okO s o ∧ z = encO o ∧ Reach s c (some q) o
  wk : ∀ z ∈ waiting, ∃ o, okO s o ∧ z = encO o ∧ Reach s c (some q) o
  nd : seen.Nodup
  st : (q : Int) ∈ seen ∨ (q : Int) ∈ waiting
  cl : ∀ o, okO s o → encO o ∈ seen → ∀ y ∈ nxt s c o, encO y ∈ seen ∨ encO y ∈ waiting
  wl : waiting.length ≤ 4 * seen.length + 1
theorem WInv.start {s : Script} {c q : Nat} (hq : q < s.places.length) : WInv s c q [] [(q : Int)] :=
  ⟨fun z h => by simp at h, fun z h => ⟨some q, hq, List.mem_singleton.mp h, .refl⟩, List.nodup_nil, .inr (by simp), fun o _ h => by simp at h, by simp⟩
theorem WInv.old {s : Script} {c q : Nat} {seen w0 : List Int} {z : Int} (h : WInv s c q seen (w0 ++ [z])) (hz : z ∈ seen) : WInv s c q seen w0 := by
  have m : ∀ y, y ∈ seen ∨ y ∈ w0 ++ [z] → y ∈ seen ∨ y ∈ w0 := fun y hy => by
    rcases hy with hy | hy
    · exact .inl hy
    · rcases List.mem_append.mp hy with hy | hy
      · exact .inr hy
      · rw [List.mem_singleton.mp hy]; exact .inl hz
  refine ⟨h.sk, fun y hy => h.wk y (by simp [hy]), h.nd, m _ h.st, fun o ho he y hy => m _ (h.cl o ho he y hy), ?_⟩
  have := h.wl
  simp at this
  omega
theorem WInv.len {s : Script} (hn : s.places.length ≤ 32) {c q : Nat} {seen waiting : List Int} (h : WInv s c q seen waiting) : seen.length ≤ 33 := by
  have : seen ⊆ (none :: (List.range 32).map some).map encO := fun z hz => by
    obtain ⟨o, ho, e, _⟩ := h.sk z hz
    rw [List.mem_map]
    refine ⟨o, ?_, e.symm⟩
    cases o with
    | none => simp
    | some p =>
      have : p < s.places.length := ho
      simp
      omega
  have := h.nd.length_le_of_subset this
  simpa using this
theorem WInv.new {s : Script} (hs : okScript s = true) {c q : Nat} {seen w0 more : List Int} {o : Option Nat} (h : WInv s c q seen (w0 ++ [encO o])) (ho : okO s o) (hr : Reach s c (some q) o) (hz : encO o ∉ seen)
    (hm : more = (nxt s c o).map encO) : WInv s c q (seen ++ [encO o]) (w0 ++ more) := by
  have hn := (ok_len hs).2.1
  have m : ∀ y, y ∈ seen ∨ y ∈ w0 ++ [encO o] → y ∈ seen ++ [encO o] ∨ y ∈ w0 ++ more := fun y hy => by
    rcases hy with hy | hy
    · exact .inl (by simp [hy])
    · rcases List.mem_append.mp hy with hy | hy
      · exact .inr (by simp [hy])
      · exact .inl (by simp [List.mem_singleton.mp hy])
  refine ⟨fun y hy => ?_, fun y hy => ?_, ?_, m _ h.st, fun p hp he y hy => ?_, ?_⟩
  · rcases List.mem_append.mp hy with hy | hy
    · exact h.sk y hy
    · exact ⟨o, ho, List.mem_singleton.mp hy, hr⟩
  · rcases List.mem_append.mp hy with hy | hy
    · exact h.wk y (by simp [hy])
    · rw [hm] at hy
      obtain ⟨x, hx, rfl⟩ := List.mem_map.mp hy
      exact ⟨x, nxt_ok hs ho hx, rfl, .step hr hx⟩
  · rw [List.nodup_append]
    refine ⟨h.nd, by simp, fun a ha b hb => ?_⟩
    rw [List.mem_singleton.mp hb]
    exact fun e => hz (e ▸ ha)
  · rcases List.mem_append.mp he with he | he
    · exact m _ (h.cl p hp he y hy)
    · have e : p = o := encO_inj hn hp ho (List.mem_singleton.mp he)
      subst e
      refine .inr (List.mem_append.mpr (.inr ?_))
      rw [hm]
      exact List.mem_map.mpr ⟨y, hy, rfl⟩
  · have := h.wl
    have l4 : more.length ≤ 4 := by
      rw [hm, List.length_map]
      cases o with
      | none => simp [nxt]
      | some p =>
        simp only [nxt]
        split
        · simp
        · rw [List.length_map]
          exact (okP hs ho).l4
    simp at this ⊢
    omega
structure WalkOk (s : Script) (c q : Nat) (ws : List Int) : Prop where
  sk : ∀ z ∈ ws, ∃ o, okO s o ∧ z = encO o
  iff : ∀ o, okO s o → (encO o ∈ ws ↔ Reach s c (some q) o)
  len : ws.length ≤ 33
theorem WInv.done {s : Script} (hs : okScript s = true) {c q : Nat} {seen : List Int} (hq : q < s.places.length) (h : WInv s c q seen []) : WalkOk s c q seen := by
  have hn := (ok_len hs).2.1
  refine ⟨fun z hz => let ⟨o, ho, e, _⟩ := h.sk z hz; ⟨o, ho, e⟩, fun o ho => ⟨fun hm => ?_, fun hr => ?_⟩, h.len hn⟩
  · obtain ⟨o', ho', e, r⟩ := h.sk _ hm
    rw [encO_inj hn ho ho' e]
    exact r
  · have st : encO (some q) ∈ seen := h.st.resolve_right (by simp)
    have : okO s o ∧ encO o ∈ seen := by
      induction hr with
      | refl => exact ⟨ho, st⟩
      | step hr e ih =>
        have ox := reach_ok hs (a := some q) hq hr
        exact ⟨ho, by simpa using h.cl _ ox (ih ox).2 _ e⟩
    exact this.2
end Tk
end
section
set_option Elab.async false
set_option linter.all false
set_option maxRecDepth 100000
namespace Tk
open PySem PySem.Spec PyProof.Rows L2
open Kh292 (Script State at_ takesPart okScript)
theorem valV_iK : ∀ (l : List (Int × V)) (z : Int), (valV (iK l) (Sum.inl z)).isSome = decide (z ∈ l.map (·.1))
  | [], z => rfl
  | p :: l, z => by
    show (valV ((Sum.inl p.1, p.2) :: iK l) (Sum.inl z)).isSome = _
    by_cases h : p.1 = z
    · rw [valV_pos (by rw [h])]
      simp [h]
    · rw [valV_neg (by intro q; cases q; exact h rfl), valV_iK l z]
      simp only [List.map_cons, List.mem_cons]
      rw [Bool.eq_iff_iff, decide_eq_true_iff, decide_eq_true_iff]
      exact ⟨.inr, fun q => q.elim (fun e => absurd e.symm h) id⟩
theorem iK_len (l : List (Int × V)) : (iK l).length = l.length := by simp [iK]
def spWalk (c : Cs) : Sp := fun vs H Q _ => ∃ (p : Nat) (a : Addr) (s : Script) (q : Nat), vs = [.int p, .ref a, .int q] ∧ PlacesAt c H a s ∧ okScript s = true ∧ q < s.places.length ∧
  ∀ H' l ws, H l = none → Same H H' → H' l = some (.lst (ws.map V.int)) → WalkOk s p q ws → Q (.ref l) H'
section
variable {P : Program} {w : World} {K : PySem.W.Frag} {mg : Str → Option Value} {base : Heap} {c : Cs}
theorem sc_walk : FnScope ["party", "places", "start", "seen", "waiting", "at"] ["party", "places", "start"] (defScope s_walk_from) := ⟨rfl, rfl, rfl, by decide +kernel, rfl, by decide +kernel, by decide +kernel⟩
def seenK (seen : List Int) : List (Int × V) := seen.map fun z => (z, V.bl true)
theorem seenK_fst (seen : List Int) : (seenK seen).map (·.1) = seen := by
  unfold seenK
  rw [List.map_map]
  exact List.map_id _
theorem nxt_end {s : Script} {p : Nat} {o : Option Nat} (h : endB s p o = true) : nxt s p o = [] := by
  cases o with
  | none => rfl
  | some q =>
    simp only [nxt]
    exact if_pos h
theorem nxt_on {s : Script} {p q : Nat} (h : endB s p (some q) = false) : nxt s p (some q) = (at_ s q).ways.map Prod.snd := by
  simp only [nxt]
  exact if_neg (by rw [show takesPart s p q = false from h]; exact Bool.false_ne_true)
theorem ok_walk {f fe : Addr} {fd fde : FuncData} (F : Fun K "walk_from" "walk_from" s_walk_from f fd) (T : Txt K mg c) (GE : Fn P w K mg base "is_end" 1 ["party", "places", "at"] (spEnd c) fe fde) : FnOk P w K mg base (CXe P w) 2 f fd ["party", "places", "start"] (spWalk c) := by
  refine F.okE sc_walk (fun vs H Q E h => ?_) (fun cdv A outer s H vs Q E hr h => ?_)
  · obtain ⟨p, a, sc, q, rfl, _⟩ := h
    rfl
  · obtain ⟨p, a, sc, q, rfl, hp, hs, hq, k⟩ := h
    have hu := hu_of hr
    have nd := sc_walk.nd
    have hn := (ok_len hs).2.1
    refine ⟨_, pss_cons (ps_set (i := 3) nd rfl (Or.inl rfl) pe_dnewK) (pss_cons (ps_set (i := 4) nd rfl (Or.inl rfl) (pe_lst (pa_cons (pv 2) pa_nil)))
      (pss_cons (ps_while ownE (pt_cmpR op_gt (pe_callB call_len_seq rfl T.len PySem.boot_len (pa_cons (pv 4) pa_nil)) pe_int (nomark _))
        (pss_cons (ps_set (i := 5) nd rfl (Or.inl rfl) (pe_bm0 PySem.F.plainAttrs_list PySem.F.slot_list_pop PySem.F.type_list_pop mt_pop (pv 4)))
        (pss_one (ps_if (pt_cmp (pc_dnotin hu (pv 5) (pv 3)))
          (pss_cons (ps_dput hu (pv 3) (pv 5) pe_bl rfl)
          (pss_one (ps_if (pt_not (pt_val (pe_call GE.ok hr rfl GE.mg GE.kp GE.bi .nil pass0E (pa_cons (pv 0) (pa_cons (pv 1) (pa_cons (pv 5) pa_nil))))))
            (pss_one (ps_expr (pe_bm PySem.F.plainAttrs_list PySem.F.slot_list_extend PySem.F.type_list_extend mt_extend (pv 4) (pa_cons (pe_callTy (cr_listV rfl) rfl T.list boot_list5
              (pa_cons (pe_bm0 PySem.F.plainAttrs_dict PySem.F.slot_dict_values PySem.F.type_dict_values mt_values (pe_fld (pe_ix ix_list (pv 1) (pv 5) (fun _ _ => rfl)) rfl)) pa_nil)) pa_nil)))) pss_nil)))
          pss_nil))))
      (pss_one (ps_ret (pe_callTy (cr_listD rfl) rfl T.list boot_list5 (pa_cons (pv 3) pa_nil)))))), ?_⟩
    intro d hd
    refine ⟨_, rfl, (by show 1 ≤ sizeLine; decide), fun l hl => ?_⟩
    have nl : d ≠ l := by
      intro e
      subst e
      rw [upd_same] at hl
      cases hl
    have hl0 : H l = none := by
      rw [upd_ne nl.symm] at hl
      exact hl
    refine ⟨fun m σ H' => ∃ (seen waiting : List Int) (v : Option V), σ = [some (.int p), some (.ref a), some (.int q), some (.ref d), some (.ref l), v] ∧ Same H H' ∧ H' d = some (.dK (iK (seenK seen))) ∧ H' l = some (.lst (waiting.map V.int)) ∧ WInv sc p q seen waiting ∧ m = 5 * (33 - seen.length) + waiting.length, ⟨_, [], [(q : Int)], none, rfl, ?_, ?_, upd_same, WInv.start hq, rfl⟩, ?_⟩
    · intro b o e
      rw [upd_ne (ne_of_none e hl0), upd_ne (ne_of_none e hd)]
      exact e
    · rw [upd_ne nl, upd_same]
      rfl
    rintro m σ H1 ⟨seen, waiting, v, rfl, s1, hd1, hl1, W, rfl⟩
    refine ⟨_, rfl, l, _, rfl, .inl (SqL.of hl1), _, _, rfl, rfl, _, rfl, iteB (fun e => ?_) fun e => ?_⟩
    · obtain ⟨w0, z, rfl⟩ : ∃ w0 z, waiting = w0 ++ [z] := by
        rcases List.eq_nil_or_concat waiting with h | ⟨w0, z, h⟩
        · subst h
          exact absurd e (by decide)
        · exact ⟨w0, z, by rw [h, List.concat_eq_append]⟩
      refine ⟨fun σ' H' => ∃ m', m' < 5 * (33 - seen.length) + (w0 ++ [z]).length ∧ ∃ (seen waiting : List Int) (v : Option V), σ' = [some (.int p), some (.ref a), some (.int q), some (.ref d), some (.ref l), v] ∧ Same H H' ∧ H' d = some (.dK (iK (seenK seen))) ∧ H' l = some (.lst (waiting.map V.int)) ∧ WInv sc p q seen waiting ∧ m' = 5 * (33 - seen.length) + waiting.length, fun σ' H' h => h, ?_⟩
      have hl1' : H1 l = some (.lst (w0.map V.int ++ [V.int z])) := by
        rw [hl1, List.map_append]
        rfl
      have hlast : (w0.map V.int ++ [V.int z])[(w0.map V.int ++ [V.int z]).length - 1]? = some (V.int z) := by simp
      refine ⟨_, rfl, .inl ⟨rfl, _, SqL.of hl1'⟩, l, _, _, rfl, rfl, hl1', hlast, ?_⟩
      rw [List.dropLast_concat]
      have s2 : Same H (upd H1 l (.lst (w0.map V.int))) := fun b o e => by
        rw [upd_ne (ne_of_none e hl0)]
        exact s1 _ _ e
      have hd2 : (upd H1 l (.lst (w0.map V.int))) d = some (.dK (iK (seenK seen))) := by
        rw [upd_ne nl]
        exact hd1
      have hl2 := upd_same (H := H1) (a := l) (o := .lst (w0.map V.int))
      generalize upd H1 l (.lst (w0.map V.int)) = H2 at s2 hd2 hl2 ⊢
      refine ⟨_, rfl, _, rfl, d, _, rfl, DGet.k (k := Sum.inl z) hd2, _, rfl, ?_⟩
      rw [valV_iK, seenK_fst]
      refine iteB (fun e2 => ?_) fun e2 => ?_
      · have hz : z ∉ seen := by simpa using e2
        obtain ⟨o, ho, rfl, hro⟩ := W.wk z (by simp)
        have ls := W.len hn
        refine ⟨_, rfl, _, rfl, d, _, rfl, DPut.k (k := Sum.inl (encO o)) hd2 (by rw [iK_len]; show (seen.map _).length < _; rw [List.length_map]; exact small (by omega)), ?_⟩
        have ep : putK (iK (seenK seen)) (Sum.inl (encO o)) (V.bl true) = iK (seenK (seen ++ [encO o])) := by
          rw [putK_inl _ (by rw [seenK_fst]; exact hz)]
          unfold seenK
          rw [List.map_append]
          rfl
        rw [ep]
        have s3 : Same H (upd H2 d (.dK (iK (seenK (seen ++ [encO o]))))) := fun b o' e => by
          rw [upd_ne (ne_of_none e hd)]
          exact s2 _ _ e
        have hl3 : (upd H2 d (.dK (iK (seenK (seen ++ [encO o]))))) l = some (.lst (w0.map V.int)) := by
          rw [upd_ne nl.symm]
          exact hl2
        have hd3 := upd_same (H := H2) (a := d) (o := .dK (iK (seenK (seen ++ [encO o]))))
        generalize upd H2 d (.dK (iK (seenK (seen ++ [encO o])))) = H3 at s3 hl3 hd3 ⊢
        refine ⟨_, rfl, _, rfl, _, rfl, p, a, sc, o, rfl, hp.same s3, ho, hn, fun H4 s4 => ⟨_, rfl, ?_⟩⟩
        have hl4 := s4 _ _ hl3
        have hd4 := s4 _ _ hd3
        refine iteB (fun e3 => ?_) fun e3 => ?_
        · have e4 : endB sc p o = false := by simpa using e3
          cases o with
          | none => exact absurd (show true = false from e4) (by decide)
          | some r =>
            obtain ⟨xs, b, h1, h2, dx, dw, hb, hdw⟩ := (hp.same (s3.trans s4)).get ho
            refine ⟨_, rfl, .inl ⟨rfl, _, SqL.of hl4⟩, ?_⟩
            refine ⟨_, rfl, _, rfl, a, _, _, _, rfl, rfl, SqL.of h1, h2, b, c.pl, dx, _, _, rfl, hb, T.plc, T.pl3, plF3 _ _ _, .inr (.inr (.inl ⟨rfl, .inl ⟨_, hdw⟩⟩)), dw, _, rfl, rfl, hdw, fun vw hvw => ?_⟩
            have s5 := Same.upd (o := viewO vw dw) hvw
            refine ⟨vw, dw, _, rfl, upd_same, s5 _ _ hdw, fun p6 hp6 => ?_⟩
            have s6 := Same.upd (o := .lst ((iK (wsI (at_ sc r).ways)).map (·.2))) hp6
            have hl6 := s6 _ _ (s5 _ _ hl4)
            have hd6 := s6 _ _ (s5 _ _ hd4)
            have hp6' := upd_same (H := upd H4 vw (viewO vw dw)) (a := p6) (o := .lst ((iK (wsI (at_ sc r).ways)).map (·.2)))
            have ew : (iK (wsI (at_ sc r).ways)).map (·.2) = (((at_ sc r).ways.map Prod.snd).map encO).map V.int := by
              unfold iK wsI
              rw [List.map_map, List.map_map, List.map_map, List.map_map]
              rfl
            have W2 := W.new hs ho hro hz (more := ((at_ sc r).ways.map Prod.snd).map encO) (by rw [nxt_on e4])
            have ls2 := W2.len hn
            have wl2 := W2.wl
            refine ⟨l, p6, _, _, rfl, rfl, hl6, hp6', ?_, ?_⟩
            · rw [ew, List.length_map, List.length_map]
              rw [List.length_append] at wl2
              exact Nat.le_of_lt (small (by omega))
            · refine ⟨_, ?_, seen ++ [encO (some r)], w0 ++ ((at_ sc r).ways.map Prod.snd).map encO, _, rfl, fun b' o' e => ?_, ?_, ?_, W2, rfl⟩
              · rw [List.length_append] at ls2
                simp only [List.length_append, List.length_cons, List.length_nil] at wl2 ⊢
                have l4 := (okP hs ho).l4
                simp only [List.length_map] at wl2 ⊢
                simp only [List.length_cons, List.length_nil] at ls2
                omega
              · rw [upd_ne (ne_of_none e hl0)]
                exact s6 _ _ (s5 _ _ (s4 _ _ (s3 _ _ e)))
              · rw [upd_ne nl]
                exact hd6
              · rw [upd_same, ew, ← List.map_append]
        · have e4 : endB sc p o = true := by simpa using e3
          have W2 := W.new hs ho hro hz (more := []) (by rw [nxt_end e4]; rfl)
          have ls2 := W2.len hn
          rw [List.append_nil] at W2
          refine ⟨_, ?_, seen ++ [encO o], w0, _, rfl, s3.trans s4, hd4, hl4, W2, rfl⟩
          simp only [List.length_append, List.length_cons, List.length_nil] at ls2 ⊢
          omega
      · have hz : z ∈ seen := by simpa using e2
        refine ⟨_, ?_, seen, w0, _, rfl, s2, hd2, hl2, W.old hz, rfl⟩
        simp only [List.length_append, List.length_cons, List.length_nil]
        omega
    · have ew : waiting = [] := by
        cases waiting with
        | nil => rfl
        | cons z w0 =>
          exfalso
          simp at e
      subst ew
      refine ⟨_, rfl, d, _, rfl, hd1, fun p6 hp6 => ?_⟩
      rw [seenK_fst]
      exact k _ p6 seen (s1.free hp6) (s1.trans (Same.upd hp6)) upd_same (W.done hs hq)
end
end Tk
end
section
set_option Elab.async false
set_option linter.all false
set_option maxRecDepth 100000
namespace L2
open PySem PySem.Spec PyProof.Rows
theorem for_enum {K : PySem.W.Frag} {a : Addr} {xs : List V} {g : TG} {tb : TS} {D : Ends} {σ : St} {H : Hp} (Pv : Nat → St → Hp → Prop) (h0 : Pv 0 σ H) (hl : ∀ i σ H, i ≤ xs.length → Pv i σ H → SqL K H a xs)
    (hs : ∀ (i : Nat) (x : V) σ H T, xs[i]? = some x → Pv i σ H → H T = none → g (.ref T) σ (upd H T (.tup [.int (i : Nat), x])) fun σ2 H2 => tb { D with nx := Pv (i + 1), ct := Pv (i + 1), bk := D.nx } σ2 H2) (hd : ∀ σ H, Pv xs.length σ H → D.nx σ H) :
    ∃ W : Nat → Nat → St → Hp → Prop, (∃ m, W 0 m σ H) ∧ ∀ i m σ H, W i m σ H →
      ((Ite K a).stop i H ∧ D.nx σ H) ∨ ((Ite K a).go i H ∧ ∃ N : St → Hp → Prop, (∀ σ' H', N σ' H' → ∃ m', m' < m ∧ W (i + 1) m' σ' H') ∧ ∀ x H', (Ite K a).yld i H x H' → g x σ H' fun σ2 H2 => tb { D with nx := N, ct := N, bk := D.nx } σ2 H2) := by
  refine ⟨fun i m σ H => m = xs.length - i ∧ i ≤ xs.length ∧ Pv i σ H, ⟨xs.length, by simp, Nat.zero_le _, h0⟩, ?_⟩
  rintro i m σ H ⟨rfl, hi, p⟩
  have q := hl i σ H hi p
  by_cases hlt : i < xs.length
  · refine .inr ⟨⟨xs, xs[i], q, by simp [hlt]⟩, Pv (i + 1), fun σ' H' p' => ⟨xs.length - (i + 1), by omega, rfl, hlt, p'⟩, fun x H' y => ?_⟩
    obtain ⟨T, z, rfl, hT, rfl, y⟩ := y
    exact hs i z σ H T (y xs q) p hT
  · have e : i = xs.length := by omega
    subst e
    exact .inl ⟨⟨xs, q, Nat.le_refl _⟩, hd σ H p⟩
end L2
namespace Tk
open PySem PySem.Spec PyProof.Rows L2
open Kh292 (Script State at_ takesPart okScript comesTo never)
def endZ (s : Script) (p : Nat) (z : Int) : Bool := decide (z = 255) || takesPart s p z.toNat
theorem endZ_enc {s : Script} (hn : s.places.length ≤ 32) {p : Nat} {o : Option Nat} (ho : okO s o) : endZ s p (encO o) = endB s p o := by
  cases o with
  | none => rfl
  | some q =>
    have : q < s.places.length := ho
    show (decide ((q : Int) = 255) || takesPart s p ((q : Int)).toNat) = takesPart s p q
    rw [decide_eq_false (by omega : ¬ (q : Int) = 255), Bool.false_or, Int.toNat_natCast]
theorem mem_ends {s : Script} (hs : okScript s = true) {p q : Nat} {ws : List Int} (W : WalkOk s p q ws) {z : Int} : z ∈ ws.filter (endZ s p) ↔ ∃ o, okO s o ∧ z = encO o ∧ Reach s p (some q) o ∧ endB s p o = true := by
  have hn := (ok_len hs).2.1
  rw [List.mem_filter]
  constructor
  · rintro ⟨h1, h2⟩
    obtain ⟨o, ho, rfl⟩ := W.sk z h1
    exact ⟨o, ho, rfl, (W.iff o ho).mp h1, by rw [← endZ_enc hn ho]; exact h2⟩
  · rintro ⟨o, ho, rfl, h1, h2⟩
    exact ⟨(W.iff o ho).mpr h1, by rw [endZ_enc hn ho]; exact h2⟩
theorem ends_nil {s : Script} (hs : okScript s = true) {p q : Nat} (hq : q < s.places.length) {ws : List Int} (W : WalkOk s p q ws) : decide ((ws.filter (endZ s p)).length = 0) = never s p q := by
  rw [Bool.eq_iff_iff, decide_eq_true_iff, never_iff hs hq, List.length_eq_zero_iff, List.eq_nil_iff_forall_not_mem]
  constructor
  · intro h
    refine ⟨fun r => h 255 ((mem_ends hs W).mpr ⟨none, trivial, rfl, r, rfl⟩), fun t ht tp r => h (t : Int) ((mem_ends hs W).mpr ⟨some t, ht, rfl, r, tp⟩)⟩
  · rintro ⟨h1, h2⟩ z hz
    obtain ⟨o, ho, rfl, r, e⟩ := (mem_ends hs W).mp hz
    cases o with
    | none => exact h1 r
    | some t => exact h2 t ho e r
def ringZ (s : Script) (p : Nat) : List Int := ((List.range s.places.length).filter (never s p)).map Int.ofNat
theorem lost_iff {s : Script} (hs : okScript s = true) {p q : Nat} {ws : List Int} (W : WalkOk s p q ws) : (ws.any fun z => decide (z ∈ ringZ s p)) = true ↔ ∃ r, Reach s p (some q) (some r) ∧ r < s.places.length ∧ never s p r = true := by
  have hn := (ok_len hs).2.1
  rw [List.any_eq_true]
  constructor
  · rintro ⟨z, hz, h⟩
    have h := of_decide_eq_true h
    unfold ringZ at h
    obtain ⟨r, hr, rfl⟩ := List.mem_map.mp h
    rw [List.mem_filter, List.mem_range] at hr
    exact ⟨r, (W.iff (some r) hr.1).mp hz, hr.1, hr.2⟩
  · rintro ⟨r, h1, h2, h3⟩
    refine ⟨(r : Int), (W.iff (some r) h2).mpr h1, decide_eq_true ?_⟩
    unfold ringZ
    exact List.mem_map.mpr ⟨r, List.mem_filter.mpr ⟨List.mem_range.mpr h2, h3⟩, rfl⟩
theorem one_ok {s : Script} {o : Option Nat} (h : okO s o) : ∀ x ∈ [o], okO s x := fun x hx => by rw [List.mem_singleton.mp hx]; exact h
theorem arrives {s : Script} (hs : okScript s = true) {p q : Nat} (hq : q < s.places.length) {ws ns : List Int} (W : WalkOk s p q ws)
    (hp : ns.Perm (onceI (ws.filter (endZ s p) ++ if (ws.any fun z => decide (z ∈ ringZ s p)) = true then [255] else []))) (hsr : ns.Pairwise (· ≤ ·)) : ns = stT (comesTo s p [some q]) := by
  have ok1 := one_ok (s := s) (o := some q) hq
  have gd := good_comes (c := p) hs ok1 (by simp)
  refine rise_eq (rise_of hp hsr (onceI_nd _)) (gd.rT hs) fun z => ?_
  rw [hp.mem_iff, onceI_mem, List.mem_append, mem_ends hs W, mem_stT]
  have hov : (comesTo s p [some q]).over = true ↔ Ov s p (some q) := by
    rw [over_iff hs ok1]
    simp
  have hpl : ∀ t, t ∈ (comesTo s p [some q]).places ↔ t < s.places.length ∧ takesPart s p t = true ∧ Reach s p (some q) (some t) := fun t => by
    rw [mem_places hs ok1]
    simp
  constructor
  · rintro (⟨o, ho, rfl, r, e⟩ | h)
    · cases o with
      | none => exact .inr ⟨hov.mpr (.inl r), rfl⟩
      | some t => exact .inl ⟨t, (hpl t).mpr ⟨ho, e, r⟩, rfl⟩
    · split at h
      · rename_i e
        rw [lost_iff hs W] at e
        obtain ⟨r, h1, h2, h3⟩ := e
        exact .inr ⟨hov.mpr (.inr ⟨r, h1, (never_iff hs h2).mp h3⟩), List.mem_singleton.mp h⟩
      · simp at h
  · rintro (⟨t, ht, rfl⟩ | ⟨ho, rfl⟩)
    · obtain ⟨h1, h2, h3⟩ := (hpl t).mp ht
      exact .inl ⟨some t, h1, rfl, h3, h2⟩
    · rcases hov.mp ho with r | ⟨r, h1, h2⟩
      · exact .inl ⟨none, trivial, rfl, r, rfl⟩
      · have hr : r < s.places.length := reach_ok hs (a := some q) hq h1
        refine .inr ?_
        rw [if_pos ((lost_iff hs W).mpr ⟨r, h1, hr, (never_iff hs hr).mpr h2⟩)]
        simp
def spEnds (c : Cs) : Sp := fun vs H Q _ => ∃ (p : Nat) (a l : Addr) (s : Script) (q : Nat) (ws : List Int), vs = [.int p, .ref a, .ref l] ∧ PlacesAt c H a s ∧ okScript s = true ∧ H l = some (.lst (ws.map V.int)) ∧ WalkOk s p q ws ∧
  ∀ H' m, H m = none → Same H H' → H' m = some (.lst ((ws.filter (endZ s p)).map V.int)) → Q (.ref m) H'
def ArrAt (H : Hp) (a : Addr) (s : Script) (p : Nat) : Prop := ∃ kvs : List (Key × V), H a = some (.dK kvs) ∧ ∀ o, okO s o → ∃ t, valV kvs (Sum.inl (encO o)) = some (.ref t) ∧ H t = some (.tup ((stT (comesTo s p [o])).map V.int))
theorem ArrAt.same {H H' : Hp} {a : Addr} {s : Script} {p : Nat} (x : ArrAt H a s p) (k : Same H H') : ArrAt H' a s p := let ⟨kvs, h1, h2⟩ := x; ⟨kvs, k _ _ h1, fun o ho => let ⟨t, a1, a2⟩ := h2 o ho; ⟨t, a1, k _ _ a2⟩⟩
def spArr (c : Cs) : Sp := fun vs H Q _ => ∃ (p : Nat) (a : Addr) (s : Script), vs = [.int p, .ref a] ∧ PlacesAt c H a s ∧ okScript s = true ∧ ∀ H' d, H d = none → Same H H' → ArrAt H' d s p → Q (.ref d) H'
theorem RowsAt.snoc {H H4 : Hp} {D b : Addr} {as : List Addr} {rows : List (List Int)} {r : List Int} (x : RowsAt H D as rows) (nD : D ∉ as) (s4 : Same H H4) (nb : b ≠ D) (hb : H4 b = some (.lst (r.map V.int))) :
    RowsAt (upd H4 D (.lst (as.map V.ref ++ [V.ref b]))) D (as ++ [b]) (rows ++ [r]) ∧ D ∉ as ++ [b] := by
  refine ⟨⟨by rw [upd_same, List.map_append]; rfl, by rw [List.length_append, List.length_append, x.len]; rfl, fun i y hy => ?_⟩, ?_⟩
  · by_cases h : i < as.length
    · rw [List.getElem?_append_left h] at hy
      obtain ⟨r', h1, h2⟩ := x.at_ i y hy
      refine ⟨r', by rw [List.getElem?_append_left (by rw [← x.len]; exact h)]; exact h1, ?_⟩
      rw [upd_ne (fun e => nD (by rw [← e]; exact List.mem_of_getElem? hy))]
      exact s4 _ _ h2
    · rw [List.getElem?_append_right (by omega)] at hy
      have e : i - as.length = 0 := by
        have := (List.getElem?_eq_some_iff.mp hy).1
        simp at this
        omega
      rw [e] at hy
      have e2 : b = y := by simpa using hy
      subst e2
      refine ⟨r, by rw [List.getElem?_append_right (by rw [← x.len]; omega), ← x.len, e]; rfl, ?_⟩
      rw [upd_ne nb]
      exact hb
  · rw [List.mem_append, List.mem_singleton]
    exact fun h => h.elim nD fun e => nb e.symm
section
variable {P : Program} {w : World} {K : PySem.W.Frag} {mg : Str → Option Value} {base : Heap} {c : Cs}
theorem sc_ends : FnScope ["party", "places", "walk", "at"] ["party", "places", "walk"] (defScope s_ends_of) := ⟨rfl, rfl, rfl, by decide +kernel, rfl, by decide +kernel, by decide +kernel⟩
theorem map_iV (l : List Int) (f : Int → Bool) : ((l.map V.int).filter fun v => f (iV v)).map id = (l.filter f).map V.int := by
  rw [List.map_id, List.filter_map]
  rfl
theorem ok_ends {f fe : Addr} {fd fde : FuncData} (F : Fun K "ends_of" "ends_of" s_ends_of f fd) (T : Txt K mg c) (GE : Fn P w K mg base "is_end" 1 ["party", "places", "at"] (spEnd c) fe fde) : FnOk P w K mg base (CXe P w) 2 f fd ["party", "places", "walk"] (spEnds c) := by
  refine F.okE sc_ends (fun vs H Q E h => ?_) (fun cdv A outer s H vs Q E hr h => ?_)
  · obtain ⟨p, a, l, sc, q, ws, rfl, _⟩ := h
    rfl
  · obtain ⟨p, a, l, sc, q, ws, rfl, hp, hs, hl, W, k⟩ := h
    have hn := (ok_len hs).2.1
    have nd := sc_ends.nd
    refine ⟨_, pss_one (ps_ret (pe_lc (own := [("at", 3)]) rfl nd (pi_list (pv 2)) (blkOk_by (N := ["party", "places", "walk", "at"]) (sc := defScope s_ends_of) (by decide +kernel)) (fun _ _ _ _ _ => pg_name (i := 3) nd rfl (Or.inl rfl))
      (fun _ _ _ _ _ => pts_one (pt_val (pe_call GE.ok hr rfl GE.mg GE.kp GE.bi .nil pass0E (pa_cons (pv 0) (pa_cons (pv 1) (pa_cons (pv 3) pa_nil)))))) (fun _ _ _ _ _ => pv 3))), ?_⟩
    refine ⟨_, rfl, l, rfl, ⟨_, SqL.of hl⟩, fun D hD => ?_⟩
    have wl := W.len
    refine lc_listF (fun v => endZ sc p (iV v)) id (SqL.of hl) hD (by rw [List.length_map]; exact small (by omega)) (fun i x H4 N M hx s4 hN hM => ?_) fun H4 s4 hD4 => ?_
    · rw [List.getElem?_map] at hx
      obtain ⟨z, hz, rfl⟩ := Option.map_eq_some_iff.mp hx
      obtain ⟨o, ho, rfl⟩ := W.sk z (List.mem_of_getElem? hz)
      refine ⟨rfl, _, rfl, _, rfl, _, rfl, p, a, sc, o, rfl, hp.same s4, ho, hn, fun H5 s5 => ⟨_, rfl, ?_⟩⟩
      have e : endZ sc p (iV (V.int (encO o))) = endB sc p o := endZ_enc hn ho
      refine iteB (fun e2 => ?_) fun e2 => ?_
      · exact ⟨_, rfl, hN (e.trans e2) H5 s5⟩
      · exact hM (e.trans e2) H5 s5
    · rw [map_iV] at hD4
      exact k _ D hD s4 hD4
end
end Tk
end
section
set_option Elab.async false
set_option linter.all false
set_option maxRecDepth 100000
namespace Tk
open PySem PySem.Spec PyProof.Rows L2
open Kh292 (Script State at_ takesPart okScript comesTo never)
section
variable {P : Program} {w : World} {K : PySem.W.Frag} {mg : Str → Option Value} {base : Heap} {c : Cs}
theorem RowsAt.get {H : Hp} {D : Addr} {as : List Addr} {rows : List (List Int)} (x : RowsAt H D as rows) {i : Nat} {r : List Int} (h : rows[i]? = some r) : ∃ b, as[i]? = some b ∧ H b = some (.lst (r.map V.int)) := by
  have lt : i < as.length := by
    rw [x.len]
    exact (List.getElem?_eq_some_iff.mp h).1
  obtain ⟨r', h1, h2⟩ := x.at_ i as[i] (List.getElem?_eq_getElem lt)
  rw [h] at h1
  cases h1
  exact ⟨_, List.getElem?_eq_getElem lt, h2⟩
theorem inV_ints (z : Int) (rs : List Int) : inV (.int z) (rs.map V.int) = decide (z ∈ rs) := by
  unfold inV
  rw [List.any_map, Bool.eq_iff_iff, List.any_eq_true, decide_eq_true_iff]
  constructor
  · rintro ⟨y, hy, e⟩
    have : y = z := eq_of_beq (show (y == z) = true from e)
    exact this ▸ hy
  · intro h
    exact ⟨z, h, show (z == z) = true from beq_self_eq_true z⟩
theorem flat_ints (rs : List Int) : (rs.map V.int).all flatV = true := by
  rw [List.all_map, List.all_eq_true]
  intro x _
  rfl
theorem atI_refs {as : List Addr} {i : Nat} {b : Addr} (h : as[i]? = some b) : atI (as.map V.ref) (i : Int) = some (.ref b) := atI_nat (by rw [List.getElem?_map, h]; rfl)
theorem sc_arr : FnScope ["party", "places", "walks", "ends", "rings", "arrivals", "start", "walk", "lost", "at"] ["party", "places"] (defScope s_arrivals_of) := ⟨rfl, rfl, rfl, by decide +kernel, rfl, by decide +kernel, by decide +kernel⟩
set_option maxHeartbeats 1000000 in
theorem ok_arr {f fw fe : Addr} {fd fdw fde : FuncData} (F : Fun K "arrivals_of" "arrivals_of" s_arrivals_of f fd) (T : Txt K mg c) (GW : Fn P w K mg base "walk_from" 2 ["party", "places", "start"] (spWalk c) fw fdw) (GE : Fn P w K mg base "ends_of" 2 ["party", "places", "walk"] (spEnds c) fe fde) :
    FnOk P w K mg base (CXe P w) 3 f fd ["party", "places"] (spArr c) := by
  refine F.okE sc_arr (fun vs H Q E h => ?_) (fun cdv A outer s H vs Q E hr h => ?_)
  · obtain ⟨p, a, sc, rfl, _⟩ := h
    rfl
  · obtain ⟨p, a, sc, rfl, hp, hs, k⟩ := h
    have hu := hu_of hr
    have nd := sc_arr.nd
    obtain ⟨n1, hn, _, _⟩ := ok_len hs
    refine ⟨_, pss_cons (ps_setLc (i := 2) (own := [("start", 6)]) rfl nd rfl rfl (sw_true rfl rfl rfl rfl) (pi_range1 rfl T.range (pa_cons (pe_callB call_len_seq rfl T.len PySem.boot_len (pa_cons (pv 1) pa_nil)) pa_nil))
        (blkOk_by (N := ["party", "places", "walks", "ends", "rings", "arrivals", "start", "walk", "lost", "at"]) (sc := defScope s_arrivals_of) (by decide +kernel)) (fun _ _ _ _ _ => pg_name (i := 6) nd rfl (Or.inl rfl)) (fun _ _ _ _ _ => pts_nil)
        (fun _ _ _ _ _ => pe_call GW.ok hr rfl GW.mg GW.kp GW.bi .nil pass0E (pa_cons (pv 0) (pa_cons (pv 1) (pa_cons (pv 6) pa_nil)))))
      (pss_cons (ps_set (i := 3) nd rfl (Or.inr rfl) (pe_lc (own := [("walk", 7)]) rfl nd (pi_list (pv 2))
        (blkOk_by (N := ["party", "places", "walks", "ends", "rings", "arrivals", "start", "walk", "lost", "at"]) (sc := defScope s_arrivals_of) (by decide +kernel)) (fun _ _ _ _ _ => pg_name (i := 7) nd rfl (Or.inl rfl)) (fun _ _ _ _ _ => pts_nil)
        (fun _ _ _ _ _ => pe_call GE.ok hr rfl GE.mg GE.kp GE.bi .nil pass0E (pa_cons (pv 0) (pa_cons (pv 1) (pa_cons (pv 7) pa_nil))))))
      (pss_cons (ps_set (i := 4) nd rfl (Or.inr rfl) (pe_lc (own := [("at", 9)]) rfl nd (pi_range1 rfl T.range (pa_cons (pe_callB call_len_seq rfl T.len PySem.boot_len (pa_cons (pv 1) pa_nil)) pa_nil))
        (blkOk_by (N := ["party", "places", "walks", "ends", "rings", "arrivals", "start", "walk", "lost", "at"]) (sc := defScope s_arrivals_of) (by decide +kernel)) (fun _ _ _ _ _ => pg_name (i := 9) nd rfl (Or.inl rfl))
        (fun _ _ _ _ _ => pts_one (pt_cmpR op_eq (pe_callB (call_lenK (K := K) rfl) rfl T.len PySem.boot_len (pa_cons (pe_ix (ix_listK (K := K) rfl) (pv 3) (pv 9) (fun _ _ => rfl)) pa_nil)) pe_int (nomark _)))
        (fun _ _ _ _ _ => pv 9)))
      (pss_cons (ps_set (i := 5) nd rfl (Or.inl rfl) (pe_disp (pps_cons (pe_gl rfl T.OVER) (pe_tup (pa_cons (pe_gl rfl T.OVER) pa_nil)) pps_nil) rfl rfl (by simp) (by decide)))
      (pss_cons (ps_for ownE rfl (pi_enum rfl T.enumerate (pa_cons (pv 2) pa_nil)) (pg_tup rfl (pgs_cons (pg_name (i := 6) nd rfl (Or.inl rfl)) (pgs_cons (pg_name (i := 7) nd rfl (Or.inl rfl)) pgs_nil)))
        (pss_cons (ps_set (i := 8) nd rfl (Or.inl rfl) (pe_ifExp (pt_val (pe_callB (cr_any rfl) rfl T.any boot_any5 (pa_cons (pe_lc (own := [("at", 9)]) rfl nd (pi_list (pv 7))
            (blkOk_by (N := ["party", "places", "walks", "ends", "rings", "arrivals", "start", "walk", "lost", "at"]) (sc := defScope s_arrivals_of) (by decide +kernel)) (fun _ _ _ _ _ => pg_name (i := 9) nd rfl (Or.inl rfl)) (fun _ _ _ _ _ => pts_nil)
            (fun _ _ _ _ _ => pe_cmpR (op_inK (K := K) rfl) (pv 9) (pv 4) (by with_unfolding_all rfl))) pa_nil))) (pe_lst (pa_cons (pe_gl rfl T.OVER) pa_nil)) (pe_lst pa_nil)))
        (pss_one (ps_dput hu (pv 5) (pv 6) (pe_callTy call_tuple_of rfl T.tuple boot_tuple5 (pa_cons (pe_callB (cr_sortedSet rfl) rfl T.sorted boot_sorted5 (pa_cons (pe_callTy (cr_set rfl) rfl T.set boot_set5 (pa_cons
          (pe_op op_cat (pe_ix ix_list (pv 3) (pv 6) (fun _ _ => rfl)) (pv 8)) pa_nil)) pa_nil)) pa_nil)) rfl))))
      (pss_one (ps_ret (pv 5))))))), ?_⟩
    obtain ⟨xs, hxs, hxl⟩ := hp.len
    refine ⟨_, rfl, a, xs, rfl, .inl (SqL.of hxs), (xs.length : Int), rfl, by omega, by omega, fun D1 hD1 => ?_⟩
    rw [hxl, Int.toNat_natCast]
    refine lc_range (fun i H' => i ≤ sc.places.length ∧ Same H H' ∧ ∃ as wss, RowsAt H' D1 as wss ∧ D1 ∉ as ∧ wss.length = i ∧ ∀ (j : Nat) ws, wss[j]? = some ws → WalkOk sc p j ws) ⟨Nat.zero_le _, Same.upd hD1, [], [], ⟨upd_same, rfl, fun i b h => by simp at h⟩, by simp, rfl, fun j ws h => by simp at h⟩ (fun i H1 hi h => ?_) fun H1 h => ?_
    · obtain ⟨_, s1, as, wss, R1, nD, hl, hW⟩ := h
      rw [Int.zero_add]
      refine ⟨rfl, ?_⟩
      refine ⟨_, rfl, _, rfl, _, rfl, p, a, sc, i, rfl, hp.same s1, hs, hi, fun H2 l ws hl0 s2 hl2 W => ?_⟩
      have nl : l ≠ D1 := (ne_of_none R1.lst hl0).symm
      obtain ⟨R2, nD2⟩ := R1.snoc nD s2 nl hl2
      refine ⟨_, s2 _ _ R1.lst, ?_, hi, fun b o e => ?_, as ++ [l], wss ++ [ws], R2, nD2, by rw [List.length_append, hl]; rfl, fun j ws' h' => ?_⟩
      · rw [List.length_map, R1.len, hl]
        exact small (by omega)
      · rw [upd_ne (ne_of_none e hD1)]
        exact s2 _ _ (s1 _ _ e)
      · by_cases hj : j < wss.length
        · rw [List.getElem?_append_left hj] at h'
          exact hW j ws' h'
        · rw [List.getElem?_append_right (by omega)] at h'
          have e : j - wss.length = 0 := by
            have := (List.getElem?_eq_some_iff.mp h').1
            simp at this
            omega
          rw [e] at h'
          have e2 : ws = ws' := by simpa using h'
          have e3 : j = i := by omega
          rw [← e2, e3]
          exact W
    obtain ⟨_, s1, as, wss, R1, nD1, hwl, hW⟩ := h
    refine ⟨_, rfl, D1, rfl, ⟨_, SqL.of R1.lst⟩, fun D2 hD2 => ?_⟩
    have asl : (as.map V.ref).length = sc.places.length := by rw [List.length_map, R1.len, hwl]
    refine lc_list (xs := as.map V.ref) (fun i H' => Same H1 H' ∧ ∃ es, RowsAt H' D2 es ((wss.take i).map fun ws => ws.filter (endZ sc p)) ∧ D2 ∉ es) ⟨Same.upd hD2, [], ⟨upd_same, rfl, fun i b h => by simp at h⟩, by simp⟩ (fun i H' _ h => SqL.of (h.1 _ _ R1.lst)) (fun i x H2 hx h => ?_) fun H2 h => ?_
    · obtain ⟨s2, es, R2, nD⟩ := h
      rw [List.getElem?_map] at hx
      obtain ⟨b, hb, rfl⟩ := Option.map_eq_some_iff.mp hx
      obtain ⟨ws, hws, hbw⟩ := R1.at_ i b hb
      refine ⟨rfl, ?_⟩
      refine ⟨_, rfl, _, rfl, _, rfl, p, a, b, sc, i, ws, rfl, (hp.same s1).same s2, hs, s2 _ _ hbw, hW i ws hws, fun H3 m hm0 s3 hm3 => ?_⟩
      have nm : m ≠ D2 := (ne_of_none R2.lst hm0).symm
      obtain ⟨R3, nD3⟩ := R2.snoc nD s3 nm hm3
      refine ⟨_, s3 _ _ R2.lst, ?_, fun b o e => ?_, es ++ [m], ?_, nD3⟩
      · rw [List.length_map, R2.len, List.length_map, List.length_take]
        exact small (by omega)
      · rw [upd_ne (ne_of_none e hD2)]
        exact s3 _ _ (s2 _ _ e)
      · rw [take_nx hws, List.map_append]
        exact R3
    obtain ⟨s2, es, R2, nD2⟩ := h
    rw [asl, List.take_of_length_le (by omega)] at R2
    have hp2 := (hp.same s1).same s2
    obtain ⟨xs2, hxs2, hxl2⟩ := hp2.len
    refine ⟨_, rfl, a, xs2, rfl, .inl (SqL.of hxs2), (xs2.length : Int), rfl, by omega, by omega, fun D3 hD3 => ?_⟩
    rw [hxl2, Int.toNat_natCast]
    refine lc_rangeF (fun i => never sc p i) (fun i => .int (i : Int)) hD3 (small (by omega)) (fun i H3 N M hi s3 hN hM => ?_) fun H3 s3 hD33 => ?_
    · rw [Int.zero_add]
      obtain ⟨ws, hws⟩ : ∃ ws, wss[i]? = some ws := ⟨_, List.getElem?_eq_getElem (by omega)⟩
      obtain ⟨b, hb, hbw⟩ := R2.get (i := i) (r := ws.filter (endZ sc p)) (by rw [List.getElem?_map, hws]; rfl)
      refine ⟨rfl, ?_⟩
      refine ⟨_, rfl, _, rfl, D2, _, _, _, rfl, rfl, SqL.of (s3 _ _ R2.lst), atI_refs hb, b, _, rfl, .inl (SqL.of (s3 _ _ hbw)), rfl, _, rfl, ?_⟩
      have e1 : decide (V.int (((ws.filter (endZ sc p)).map V.int).length : Int) = V.int 0) = never sc p i := by
        rw [← ends_nil hs hi (hW i ws hws), List.length_map, Bool.eq_iff_iff, decide_eq_true_iff, decide_eq_true_iff]
        exact ⟨fun h => by have := V.int.inj h; omega, fun h => by rw [h]; rfl⟩
      rw [e1]
      refine iteB (fun e => ?_) fun e => ?_
      · exact ⟨_, rfl, hN e H3 (Same.refl _)⟩
      · exact hM e H3 (Same.refl _)
    have hR3 : H3 D3 = some (.lst ((ringZ sc p).map V.int)) := by
      rw [hD33]
      unfold ringZ
      rw [List.map_map]
      rfl
    intro D4 hD4
    refine ⟨(by show 1 ≤ sizeLine; decide), fun t0 ht0 => ?_⟩
    have n04 : t0 ≠ D4 := by
      intro e
      subst e
      rw [upd_same] at ht0
      cases ht0
    have ht0' : H3 t0 = none := by
      rw [upd_ne n04] at ht0
      exact ht0
    refine ⟨by rw [upd_ne n04.symm, upd_same], [(Sum.inl 255, .ref t0)], rfl, (by show 1 ≤ 15; decide), ?_⟩
    have em : mergeK [] [((Sum.inl 255 : Key), V.ref t0)] = [(Sum.inl 255, .ref t0)] := rfl
    rw [em]
    have s4 : Same H3 (upd (upd (upd H3 D4 (.dK [])) t0 (.tup [.int 255])) D4 (.dK [(Sum.inl 255, .ref t0)])) := fun b o e => by
      rw [upd_ne (ne_of_none e hD4), upd_ne (ne_of_none e ht0'), upd_ne (ne_of_none e hD4)]
      exact e
    have h40 : (upd (upd (upd H3 D4 (.dK [])) t0 (.tup [.int 255])) D4 (.dK [(Sum.inl 255, .ref t0)])) t0 = some (.tup [.int 255]) := by rw [upd_ne n04, upd_same]
    have h4D := upd_same (H := upd (upd H3 D4 (.dK [])) t0 (.tup [.int 255])) (a := D4) (o := .dK [(Sum.inl 255, .ref t0)])
    generalize upd (upd (upd H3 D4 (.dK [])) t0 (.tup [.int 255])) D4 (.dK [(Sum.inl 255, .ref t0)]) = H4 at s4 h40 h4D ⊢
    have s14 : Same H1 H4 := (s2.trans s3).trans s4
    refine ⟨_, rfl, D1, _, rfl, SqL.of (s14 _ _ R1.lst), for_enum (K := K) (a := D1) (xs := as.map V.ref) (fun i σ H' => ∃ (v6 v7 v8 : Option V) (kvs : List (Key × V)), σ = [some (.int p), some (.ref a), some (.ref D1), some (.ref D2), some (.ref D3), some (.ref D4), v6, v7, v8, none] ∧ Same H3 H' ∧ H' D4 = some (.dK kvs) ∧ kvs.length ≤ i + 1 ∧
      ∀ o, okO sc o → (∀ q, o = some q → q < i) → ∃ t, valV kvs (Sum.inl (encO o)) = some (.ref t) ∧ H' t = some (.tup ((stT (comesTo sc p [o])).map V.int))) ⟨none, none, none, _, rfl, s4, h4D, (by show 1 ≤ 0 + 1; decide), ?_⟩ (fun i σ H' _ h => ?_) ?_ ?_⟩
    · intro o ho hlt
      cases o with
      | none =>
        refine ⟨t0, rfl, ?_⟩
        rw [comes_none hs]
        exact h40
      | some q => exact absurd (hlt q rfl) (Nat.not_lt_zero _)
    · obtain ⟨_, _, _, _, _, s5, _⟩ := h
      exact SqL.of (s5 _ _ (s3 _ _ (s2 _ _ R1.lst)))
    · rintro i x σ H5 T5 hx ⟨v6, v7, v8, kvs, rfl, s5, hd5, hkl, hkv⟩ hT5
      rw [List.getElem?_map] at hx
      obtain ⟨b, hb, rfl⟩ := Option.map_eq_some_iff.mp hx
      obtain ⟨ws, hws, hbw⟩ := R1.at_ i b hb
      have W := hW i ws hws
      have wl := W.len
      have hi : i < sc.places.length := by rw [← hwl]; exact (List.getElem?_eq_some_iff.mp hws).1
      obtain ⟨be, hbe, hbew⟩ := R2.get (i := i) (r := ws.filter (endZ sc p)) (by rw [List.getElem?_map, hws]; rfl)
      refine ⟨T5, _, rfl, SqT.of upd_same, rfl, _, _, rfl, _, _, rfl, rfl, ?_⟩
      have s6 := Same.upd (o := .tup [.int (i : Nat), .ref b]) hT5
      generalize upd H5 T5 (.tup [.int (i : Nat), .ref b]) = H6 at s6 ⊢
      have s36 := s5.trans s6
      have hb6 : H6 b = some (.lst (ws.map V.int)) := s36 _ _ (s3 _ _ (s2 _ _ hbw))
      have hr6 : H6 D3 = some (.lst ((ringZ sc p).map V.int)) := s36 _ _ hR3
      have he6 : H6 D2 = some (.lst (es.map V.ref)) := s36 _ _ (s3 _ _ R2.lst)
      have hbe6 : H6 be = some (.lst ((ws.filter (endZ sc p)).map V.int)) := s36 _ _ (s3 _ _ hbew)
      have hd6 := s6 _ _ hd5
      refine ⟨_, rfl, b, rfl, ⟨_, SqL.of hb6⟩, fun D7 hD7 => ?_⟩
      refine lc_listF (fun _ => true) (fun v => .bl (decide (iV v ∈ ringZ sc p))) (SqL.of hb6) hD7 (by rw [List.length_map]; exact small (by omega)) (fun j x H7 N M hx s7 hN hM => ?_) fun H7 s7 hD77 => ?_
      · rw [List.getElem?_map] at hx
        obtain ⟨z, hz, rfl⟩ := Option.map_eq_some_iff.mp hx
        refine ⟨rfl, ?_⟩
        refine ⟨_, rfl, _, rfl, D3, _, rfl, .inl (SqL.of (s7 _ _ hr6)), rfl, flat_ints _, ?_⟩
        have this : N (V.bl (decide (z ∈ ringZ sc p))) H7 := hN rfl H7 (Same.refl _)
        rw [if_neg (by decide), inV_ints]
        exact this
      rw [filt_all, List.map_map] at hD77
      refine ⟨D7, ws.map (fun z => decide (z ∈ ringZ sc p)), rfl, SqL.of (by rw [hD77, List.map_map]; rfl), _, rfl, ?_⟩
      have ea : (ws.map fun z => decide (z ∈ ringZ sc p)).any id = ws.any fun z => decide (z ∈ ringZ sc p) := by
        rw [List.any_map]
        rfl
      rw [ea]
      have rest : ∀ (lost : List Int) (q8 : Addr) (H8 : Hp), lost = (if (ws.any fun z => decide (z ∈ ringZ sc p)) = true then [255] else []) → Same H7 H8 → H8 q8 = some (.lst (lost.map V.int)) →
          sDPut (tVar 5) (tVar 6) (tCB (fun xs H Q => ∃ p ys, xs = [V.ref p] ∧ ((SqL K H p ys ∧ ∀ l, H l = none → Q (V.ref l) (upd H l (.tup ys))) ∨ (SqT K H p ys ∧ Q (V.ref p) H))) (tCons (tCB (rSortedSet (cxOf (CXe P w) P w K mg base ["party", "places", "walks", "ends", "rings", "arrivals", "start", "walk", "lost", "at"] "arrivals_of" (defScope s_arrivals_of) f cdv A outer s H E)) (tCons (tCB (rSet (cxOf (CXe P w) P w K mg base ["party", "places", "walks", "ends", "rings", "arrivals", "start", "walk", "lost", "at"] "arrivals_of" (defScope s_arrivals_of) f cdv A outer s H E)) (tCons (tOp rCat (tOp (rIxL K) (tVar 3) (tVar 6)) (tVar 8)) tNil)) tNil)) tNil))
            { nx := fun σ H' => ∃ (v6 v7 v8 : Option V) (kvs : List (Key × V)), σ = [some (.int p), some (.ref a), some (.ref D1), some (.ref D2), some (.ref D3), some (.ref D4), v6, v7, v8, none] ∧ Same H3 H' ∧ H' D4 = some (.dK kvs) ∧ kvs.length ≤ i + 1 + 1 ∧
              ∀ o, okO sc o → (∀ q, o = some q → q < i + 1) → ∃ t, valV kvs (Sum.inl (encO o)) = some (.ref t) ∧ H' t = some (.tup ((stT (comesTo sc p [o])).map V.int)), rt := Q }
            [some (.int p), some (.ref a), some (.ref D1), some (.ref D2), some (.ref D3), some (.ref D4), some (.int (i : Int)), some (.ref b), some (.ref q8), none] H8 := by
        intro lost q8 H8 el s8 hq8
        have s68 := s7.trans s8
        refine ⟨_, rfl, _, rfl, D2, _, _, _, rfl, rfl, SqL.of (s68 _ _ he6), atI_refs hbe, _, rfl, be, q8, _, _, rfl, rfl, s68 _ _ hbe6, hq8, ?_, fun q9 hq9 => ?_⟩
        · rw [List.length_map, List.length_map]
          have := List.length_filter_le (endZ sc p) ws
          have : lost.length ≤ 1 := by rw [el]; split <;> simp
          exact Nat.le_of_lt (small (by omega))
        rw [← List.map_append]
        have s9 := Same.upd (o := .lst ((ws.filter (endZ sc p) ++ lost).map V.int)) hq9
        have w9 := upd_same (H := H8) (a := q9) (o := .lst ((ws.filter (endZ sc p) ++ lost).map V.int))
        generalize upd H8 q9 (.lst ((ws.filter (endZ sc p) ++ lost).map V.int)) = H9 at s9 w9 ⊢
        refine ⟨q9, _, rfl, SqL.of w9, ?_, fun q10 hq10 => ⟨q10, _, rfl, upd_same, fun ns q11 hpm hsr hq11 => ?_⟩⟩
        · have := List.length_filter_le (endZ sc p) ws
          have : lost.length ≤ 1 := by rw [el]; split <;> simp
          rw [List.length_append]
          have : (40 : Nat) < scanBound := by decide
          omega
        rw [el] at hpm
        have en := arrives hs hi W hpm hsr
        subst en
        have s10 := Same.upd (o := setO P w q10 (onceI (ws.filter (endZ sc p) ++ lost))) hq10
        have s11 := Same.upd (H := upd H9 q10 (setO P w q10 (onceI (ws.filter (endZ sc p) ++ lost)))) (o := .lst ((stT (comesTo sc p [some i])).map V.int)) hq11
        refine ⟨q11, _, rfl, .inl ⟨SqL.of upd_same, fun q12 hq12 => ?_⟩⟩
        have s12 := Same.upd (H := upd (upd H9 q10 (setO P w q10 (onceI (ws.filter (endZ sc p) ++ lost)))) q11 (.lst ((stT (comesTo sc p [some i])).map V.int))) (o := .tup ((stT (comesTo sc p [some i])).map V.int)) hq12
        have hd12 := s12 _ _ (s11 _ _ (s10 _ _ (s9 _ _ (s68 _ _ hd6))))
        have w12 := upd_same (H := upd (upd H9 q10 (setO P w q10 (onceI (ws.filter (endZ sc p) ++ lost)))) q11 (.lst ((stT (comesTo sc p [some i])).map V.int))) (a := q12) (o := .tup ((stT (comesTo sc p [some i])).map V.int))
        have s512 := ((((s6.trans s68).trans s9).trans s10).trans s11).trans s12
        have s312 := ((((s36.trans s68).trans s9).trans s10).trans s11).trans s12
        refine ⟨_, rfl, _, rfl, D4, _, rfl, DPut.k (k := Sum.inl (i : Int)) hd12 (small (by omega)), ?_⟩
        refine ⟨_, _, _, putK kvs (Sum.inl (i : Int)) (.ref q12), rfl, fun b o e => ?_, upd_same, ?_, fun o ho hlt => ?_⟩
        · rw [upd_ne (ne_of_none e hD4)]
          exact s312 _ _ e
        · have := length_putK kvs (Sum.inl (i : Int)) (.ref q12)
          omega
        · rw [valV_put]
          by_cases eo : o = some i
          · subst eo
            refine ⟨q12, if_pos rfl, ?_⟩
            rw [upd_ne (ne_of w12 hd12 (by intro q; cases q))]
            exact w12
          · obtain ⟨t, h1, h2⟩ := hkv o ho fun q e => by
              have := hlt q e
              have : q ≠ i := fun e2 => eo (by rw [e, e2])
              omega
            have h3 := s512 _ _ h2
            refine ⟨t, ?_, ?_⟩
            · rw [if_neg (fun e => eo (encO_inj hn ho hi (by have := Sum.inl.inj e; exact this)))]
              exact h1
            · rw [upd_ne (ne_of h3 hd12 (by intro q; cases q))]
              exact h3
      refine iteB (fun e => ?_) fun e => ?_
      · refine ⟨(by show 1 ≤ sizeLine; decide), fun q8 hq8 => ?_⟩
        exact rest [255] q8 _ (by rw [if_pos e]) (Same.upd hq8) upd_same
      · refine ⟨Nat.zero_le _, fun q8 hq8 => ?_⟩
        exact rest [] q8 _ (by rw [e]; rfl) (Same.upd hq8) upd_same
    · rintro σ H5 ⟨v6, v7, v8, kvs, rfl, s5, hd5, hkl, hkv⟩
      rw [asl] at hkv
      refine ⟨_, rfl, k _ D4 ?_ (((s1.trans s2).trans s3).trans s5) ⟨kvs, hd5, fun o ho => hkv o ho fun q e => by subst e; exact ho⟩⟩
      exact ((s1.trans s2).trans s3).free hD4
end
end Tk
end
section
set_option linter.all false
namespace Tk
open Kh292
structure Fine (s : Script) (p : Nat) (x : State) : Prop where
  good : Good s x
  part : ∀ q ∈ x.places, takesPart s p q = true
theorem fine_comes {s : Script} (hs : okScript s = true) {p : Nat} {l : List (Option Nat)} (hl : ∀ x ∈ l, okO s x) (hne : l ≠ []) : Fine s p (comesTo s p l) :=
  ⟨good_comes hs hl hne, fun q h => (places_lt h).2⟩
theorem Fine.lt255 {s : Script} (hs : okScript s = true) {p : Nat} {x : State} (f : Fine s p x) : ∀ q ∈ x.places, q < 255 := fun q h => by
  have := f.good.lt q h
  have := (ok_len hs).2.1
  omega
def lineBS (s : Script) (q t : Nat) : Bool := decide ((at_ s q).from_ = (at_ s t).from_) && decide ((at_ s q).to_ = (at_ s t).to_)
def speaksB (s : Script) (p : Nat) (x : State) : Bool := match x.places with
  | [] => false
  | q :: _ => decide ((at_ s q).from_ = p) && x.places.all fun t => lineBS s q t && sameWords (wordsAt s q) (wordsAt s t)
def listensB (s : Script) (p : Nat) (x : State) : Bool := match x.places with
  | [] => false
  | q :: _ => decide ((at_ s q).to_ = p) && x.places.all fun t => lineBS s q t
theorem sameWords_comm (a b : List Nat) : sameWords a b = sameWords b a := by
  unfold sameWords
  exact Bool.and_comm _ _
theorem sameWords_refl (a : List Nat) : sameWords a a = true := by
  unfold sameWords
  rw [Bool.and_eq_true, List.all_eq_true]
  exact ⟨fun z hz => List.contains_iff_mem.mpr hz, fun z hz => List.contains_iff_mem.mpr hz⟩
theorem kind_cases {s : Script} (hs : okScript s = true) {p : Nat} {x : State} (f : Fine s p x) (hov : x.over = false) :
    (speaksB s p x = true → fault s p x = 0 ∧ kind s p x = 1) ∧ (speaksB s p x = false → listensB s p x = true → fault s p x = 0 ∧ kind s p x = 2) ∧ (speaksB s p x = false → listensB s p x = false → fault s p x ≠ 0) := by
  have hne : x.places ≠ [] := fun e => by
    have := f.good.some e
    rw [hov] at this
    cases this
  cases e : x.places with
  | nil => exact absurd e hne
  | cons q r =>
    have hq : q < s.places.length := f.good.lt q (by rw [e]; simp)
    have tq := f.part q (by rw [e]; simp)
    have okq := okP hs hq
    have tq' : (at_ s q).from_ = p ∨ (at_ s q).to_ = p := by
      unfold takesPart at tq
      simpa using tq
    have fe : fault s p x = if !((q :: r).all fun t => (at_ s t).from_ == p) && !((q :: r).all fun t => (at_ s t).to_ == p) then 2
        else if (at_ s q).from_ = p then (if r.all fun t => (at_ s t).to_ == (at_ s q).to_ && sameWords (wordsAt s t) (wordsAt s q) then 0 else 3)
        else if r.all fun t => (at_ s t).from_ == (at_ s q).from_ then 0 else 4 := by
      unfold fault
      rw [e, hov]
      rfl
    have ke : kind s p x = if (at_ s q).from_ = p then 1 else 2 := by
      unfold kind
      rw [e]
    have se : speaksB s p x = (decide ((at_ s q).from_ = p) && (q :: r).all fun t => lineBS s q t && sameWords (wordsAt s q) (wordsAt s t)) := by
      unfold speaksB
      rw [e]
    have le : listensB s p x = (decide ((at_ s q).to_ = p) && (q :: r).all fun t => lineBS s q t) := by
      unfold listensB
      rw [e]
    rw [fe, ke, se, le]
    refine ⟨fun h => ?_, fun h1 h2 => ?_, fun h1 h2 h0 => ?_⟩
    · rw [Bool.and_eq_true, decide_eq_true_eq, List.all_eq_true] at h
      obtain ⟨h1, h2⟩ := h
      have a1 : ((q :: r).all fun t => (at_ s t).from_ == p) = true := List.all_eq_true.mpr fun t ht => by
        have := h2 t ht
        simp only [lineBS, Bool.and_eq_true, decide_eq_true_eq] at this
        rw [beq_iff_eq, ← this.1.1]
        exact h1
      have a2 : (r.all fun t => (at_ s t).to_ == (at_ s q).to_ && sameWords (wordsAt s t) (wordsAt s q)) = true := List.all_eq_true.mpr fun t ht => by
        have := h2 t (List.mem_cons_of_mem _ ht)
        simp only [lineBS, Bool.and_eq_true, decide_eq_true_eq] at this
        rw [Bool.and_eq_true, beq_iff_eq, sameWords_comm]
        exact ⟨this.1.2.symm, this.2⟩
      rw [a1, a2, if_pos h1, if_pos h1]
      exact ⟨rfl, rfl⟩
    · rw [Bool.and_eq_true, decide_eq_true_eq, List.all_eq_true] at h2
      obtain ⟨h3, h4⟩ := h2
      have nf : ¬ (at_ s q).from_ = p := fun e => okq.ne (e.trans h3.symm)
      have a1 : ((q :: r).all fun t => (at_ s t).to_ == p) = true := List.all_eq_true.mpr fun t ht => by
        have := h4 t ht
        simp only [lineBS, Bool.and_eq_true, decide_eq_true_eq] at this
        rw [beq_iff_eq, ← this.2]
        exact h3
      have a2 : (r.all fun t => (at_ s t).from_ == (at_ s q).from_) = true := List.all_eq_true.mpr fun t ht => by
        have := h4 t (List.mem_cons_of_mem _ ht)
        simp only [lineBS, Bool.and_eq_true, decide_eq_true_eq] at this
        rw [beq_iff_eq]
        exact this.1.symm
      rw [a1, a2, if_neg nf, if_neg nf]
      simp
    · by_cases hf : (at_ s q).from_ = p
      · have nt : ¬ (at_ s q).to_ = p := fun e => okq.ne (hf.trans e.symm)
        have b1 : ((q :: r).all fun t => (at_ s t).to_ == p) = false := by
          rw [← Bool.not_eq_true, List.all_eq_true]
          intro h
          have := h q (by simp)
          rw [beq_iff_eq] at this
          exact nt this
        rw [b1, if_pos hf] at h0
        by_cases a1 : ((q :: r).all fun t => (at_ s t).from_ == p) = true
        · rw [a1] at h0
          by_cases a2 : (r.all fun t => (at_ s t).to_ == (at_ s q).to_ && sameWords (wordsAt s t) (wordsAt s q)) = true
          · rw [Bool.eq_false_iff] at h1
            apply h1
            rw [Bool.and_eq_true, decide_eq_true_eq, List.all_eq_true]
            refine ⟨hf, fun t ht => ?_⟩
            have c1 := List.all_eq_true.mp a1 t ht
            rw [beq_iff_eq] at c1
            simp only [lineBS, Bool.and_eq_true, decide_eq_true_eq]
            rcases List.mem_cons.mp ht with rfl | ht
            · exact ⟨⟨rfl, rfl⟩, sameWords_refl _⟩
            · have c2 := List.all_eq_true.mp a2 t ht
              rw [Bool.and_eq_true, beq_iff_eq] at c2
              exact ⟨⟨hf.trans c1.symm, c2.1.symm⟩, by rw [sameWords_comm]; exact c2.2⟩
          · rw [if_neg a2] at h0
            simp at h0
        · rw [Bool.not_eq_true] at a1
          rw [a1] at h0
          simp at h0
      · have ht : (at_ s q).to_ = p := tq'.resolve_left hf
        have b1 : ((q :: r).all fun t => (at_ s t).from_ == p) = false := by
          rw [← Bool.not_eq_true, List.all_eq_true]
          intro h
          have := h q (by simp)
          rw [beq_iff_eq] at this
          exact hf this
        rw [b1, if_neg hf] at h0
        by_cases a1 : ((q :: r).all fun t => (at_ s t).to_ == p) = true
        · rw [a1] at h0
          by_cases a2 : (r.all fun t => (at_ s t).from_ == (at_ s q).from_) = true
          · rw [Bool.eq_false_iff] at h2
            apply h2
            rw [Bool.and_eq_true, decide_eq_true_eq, List.all_eq_true]
            refine ⟨ht, fun t h => ?_⟩
            have c1 := List.all_eq_true.mp a1 t h
            rw [beq_iff_eq] at c1
            simp only [lineBS, Bool.and_eq_true, decide_eq_true_eq]
            rcases List.mem_cons.mp h with rfl | h
            · exact ⟨rfl, rfl⟩
            · have c2 := List.all_eq_true.mp a2 t h
              rw [beq_iff_eq] at c2
              exact ⟨c2.symm, ht.trans c1.symm⟩
          · rw [if_neg a2] at h0
            simp at h0
        · rw [Bool.not_eq_true] at a1
          rw [a1] at h0
          simp at h0
theorem fault_none {s : Script} {p : Nat} {x : State} (h : x.places = []) : fault s p x = 0 ∧ kind s p x = 0 ∧ other s p x = 0 ∧ words s x = [] := by
  unfold fault kind other words
  rw [h]
  exact ⟨rfl, rfl, rfl, by simp⟩
theorem fault_over {s : Script} {p : Nat} {x : State} (h : x.places ≠ []) (ho : x.over = true) : fault s p x ≠ 0 := by
  unfold fault
  cases e : x.places with
  | nil => exact absurd e h
  | cons q r =>
    rw [ho]
    simp
theorem mem_words {s : Script} (hs : okScript s = true) {p : Nat} {x : State} (f : Fine s p x) {w : Nat} : w ∈ words s x ↔ ∃ q ∈ x.places, w ∈ wordsAt s q := by
  unfold words
  rw [List.mem_filter, List.mem_range, List.any_eq_true]
  constructor
  · rintro ⟨_, q, hq, h⟩
    exact ⟨q, hq, List.contains_iff_mem.mp h⟩
  · rintro ⟨q, hq, h⟩
    refine ⟨?_, q, hq, List.contains_iff_mem.mpr h⟩
    unfold wordsAt at h
    obtain ⟨v, hv, rfl⟩ := List.mem_map.mp h
    exact (okP hs (f.good.lt q hq)).wd v hv
theorem words_rise (s : Script) (x : State) : ((words s x).map Int.ofNat).Pairwise (· < ·) := by
  unfold words
  exact List.pairwise_map.mpr ((List.Pairwise.filter _ List.pairwise_lt_range).imp fun h => by simp; omega)
theorem words_made {s : Script} (hs : okScript s = true) {p : Nat} {x : State} (f : Fine s p x) {ns ks : List Int} (hk : ∀ z, z ∈ ks ↔ ∃ q ∈ x.places, ∃ w ∈ wordsAt s q, z = (w : Int)) (nd : ks.Nodup) (hp : ns.Perm ks) (hsr : ns.Pairwise (· ≤ ·)) : ns = (words s x).map Int.ofNat := by
  refine rise_eq (rise_of hp hsr nd) (words_rise s x) fun z => ?_
  rw [hp.mem_iff, hk, List.mem_map]
  constructor
  · rintro ⟨q, hq, w, hw, rfl⟩
    exact ⟨w, (mem_words hs f).mpr ⟨q, hq, hw⟩, rfl⟩
  · rintro ⟨w, hw, rfl⟩
    obtain ⟨q, hq, h⟩ := (mem_words hs f).mp hw
    exact ⟨q, hq, w, h, rfl⟩
def nextsOf (s : Script) (x : State) (w : Nat) : List (Option Nat) := (x.places.flatMap fun q => (at_ s q).ways.filter fun v => v.1 == w).map Prod.snd
theorem behind_eq (s : Script) (p : Nat) (x : State) (w : Nat) : behind s p x w = comesTo s p (nextsOf s x w) := rfl
theorem mem_nexts {s : Script} {x : State} {w : Nat} {o : Option Nat} : o ∈ nextsOf s x w ↔ ∃ q ∈ x.places, (w, o) ∈ (at_ s q).ways := by
  unfold nextsOf
  rw [List.mem_map]
  constructor
  · rintro ⟨v, hv, rfl⟩
    obtain ⟨q, hq, h⟩ := List.mem_flatMap.mp hv
    rw [List.mem_filter, beq_iff_eq] at h
    obtain ⟨h1, rfl⟩ := h
    exact ⟨q, hq, h1⟩
  · rintro ⟨q, hq, h⟩
    exact ⟨(w, o), List.mem_flatMap.mpr ⟨q, hq, List.mem_filter.mpr ⟨h, by simp⟩⟩, rfl⟩
theorem nexts_ok {s : Script} (hs : okScript s = true) {p : Nat} {x : State} (f : Fine s p x) (w : Nat) : ∀ o ∈ nextsOf s x w, okO s o := fun o ho => by
  obtain ⟨q, hq, h⟩ := mem_nexts.mp ho
  cases o with
  | none => trivial
  | some r => exact (okP hs (f.good.lt q hq)).nx _ h r rfl
theorem nexts_ne {s : Script} (hs : okScript s = true) {p : Nat} {x : State} (f : Fine s p x) {w : Nat} (h : w ∈ words s x) : nextsOf s x w ≠ [] := by
  obtain ⟨q, hq, hw⟩ := (mem_words hs f).mp h
  unfold wordsAt at hw
  obtain ⟨v, hv, rfl⟩ := List.mem_map.mp hw
  intro e
  have : v.2 ∈ nextsOf s x v.1 := mem_nexts.mpr ⟨q, hq, hv⟩
  rw [e] at this
  simp at this
theorem fine_behind {s : Script} (hs : okScript s = true) {p : Nat} {x : State} (f : Fine s p x) {w : Nat} (h : w ∈ words s x) : Fine s p (behind s p x w) := fine_comes hs (nexts_ok hs f w) (nexts_ne hs f h)
theorem behind_made {s : Script} (hs : okScript s = true) {p : Nat} {x : State} (f : Fine s p x) {w : Nat} {ns ks : List Int} (hk : ∀ z, z ∈ ks ↔ ∃ o ∈ nextsOf s x w, z ∈ stT (comesTo s p [o])) (nd : ks.Nodup) (hp : ns.Perm ks) (hsr : ns.Pairwise (· ≤ ·)) : ns = stT (behind s p x w) := by
  refine rise_eq (rise_of hp hsr nd) (stT_rise (places_rise _ _ _) fun q h => ?_) fun z => ?_
  · have := (places_lt h).1
    have := (ok_len hs).2.1
    omega
  · rw [hp.mem_iff, hk, behind_eq, mem_comes hs (nexts_ok hs f w)]
end Tk
end
section
set_option Elab.async false
set_option linter.all false
set_option maxRecDepth 100000
namespace L2
open PySem PySem.Spec PyProof.Rows
def rSetP (P : Program) (w : World) (K : PySem.W.Frag) : List V → Hp → VK → Prop := fun xs H Q => ∃ (a : Addr) (ns : List Int), xs = [.ref a] ∧ SqL K H a (ns.map V.int) ∧ ns.length + 1 < scanBound ∧ ∀ p, H p = none → Q (.ref p) (upd H p (setO P w p (onceI ns)))
theorem cr_setP {X : Cx} {P : Program} {w : World} {K : PySem.W.Frag} (h1 : X.prog = P) (h2 : X.w = w) (h3 : X.K = K) (hc : X.calm = true) : CallR X (.type "set") (rSetP P w K) := by
  subst h1 h2 h3
  exact cr_set hc
def rSortedSetP (P : Program) (w : World) : List V → Hp → VK → Prop := fun xs H Q => ∃ (a : Addr) (ks : List Int), xs = [.ref a] ∧ H a = some (setO P w a ks) ∧ ∀ (ns : List Int) (p : Addr), ns.Perm ks → ns.Pairwise (· ≤ ·) → H p = none → Q (.ref p) (upd H p (.lst (ns.map V.int)))
theorem cr_sortedSetP {X : Cx} {P : Program} {w : World} (h1 : X.prog = P) (h2 : X.w = w) (hc : X.calm = true) : CallR X (.builtin "sorted") (rSortedSetP P w) := by
  subst h1 h2
  exact cr_sortedSet hc
theorem lc_listI {K : PySem.W.Frag} {a : Addr} {xs ys : List V} {g : TG} {tt : TT} {te : TE} {vs : List Nat} {σ : St} {H1 : Hp} {D : Addr} {Qd : Hp → Prop} (hS : SqL K H1 a xs) (hD : H1 D = none) (hlen : xs.length < sizeLine) (hy : ys.length = xs.length)
    (hs : ∀ (i : Nat) (x y : V) (H : Hp) (N : VK) (M : Hp → Prop), xs[i]? = some x → ys[i]? = some y → Same H1 H → (∀ H4, Same H H4 → N y H4) →
      g x (wipe σ vs) H fun σ2 H2 => wipe σ2 vs = wipe σ vs ∧ tt σ2 H2 fun b H3 => if b = true then te σ2 H3 N else M H3)
    (hd : ∀ H, Same H1 H → H D = some (.lst ys) → Qd H) :
    ∃ W : Nat → Nat → Hp → Prop, (∃ m, W 0 m (upd H1 D (.lst []))) ∧ ∀ i m H, W i m H →
      ((Itl K a).stop i H ∧ Qd H) ∨ ((Itl K a).go i H ∧ ∃ Nx : Hp → Prop, (∀ H', Nx H' → ∃ m', m' < m ∧ W (i + 1) m' H') ∧ ∀ x H', (Itl K a).yld i H x H' → g x (wipe σ vs) H' fun σ2 H2 => wipe σ2 vs = wipe σ vs ∧ tt σ2 H2 fun b H3 =>
        if b = true then te σ2 H3 fun y H4 => ∃ acc, H4 D = some (.lst acc) ∧ acc.length < sizeLine ∧ Nx (upd H4 D (.lst (acc ++ [y]))) else Nx H3) := by
  refine lc_list (fun i H => Same H1 H ∧ H D = some (.lst (ys.take i))) ⟨Same.upd hD, upd_same⟩ (fun i H _ h => h.1.seq hS) (fun i x H hx h => ?_) fun H h => hd H h.1 (by have := h.2; rwa [← hy, List.take_length] at this)
  have lt := (List.getElem?_eq_some_iff.mp hx).1
  have hyi : ys[i]? = some ys[i] := List.getElem?_eq_getElem (by omega)
  refine hs i x _ H _ _ hx hyi h.1 fun H4 s4 => ?_
  refine ⟨_, s4 _ _ h.2, ?_, fun b o e => ?_, ?_⟩
  · rw [List.length_take]
    exact Nat.lt_of_le_of_lt (Nat.min_le_right _ _) (by omega)
  · rw [upd_ne (ne_of_none e hD)]
    exact s4 _ _ (h.1 _ _ e)
  · rw [upd_same, take_nx hyi]
theorem lc_tupI {K : PySem.W.Frag} {a : Addr} {xs ys : List V} {g : TG} {tt : TT} {te : TE} {vs : List Nat} {σ : St} {H1 : Hp} {D : Addr} {Qd : Hp → Prop} (hS : SqT K H1 a xs) (hD : H1 D = none) (hlen : xs.length < sizeLine) (hy : ys.length = xs.length)
    (hs : ∀ (i : Nat) (x y : V) (H : Hp) (N : VK) (M : Hp → Prop), xs[i]? = some x → ys[i]? = some y → Same H1 H → (∀ H4, Same H H4 → N y H4) →
      g x (wipe σ vs) H fun σ2 H2 => wipe σ2 vs = wipe σ vs ∧ tt σ2 H2 fun b H3 => if b = true then te σ2 H3 N else M H3)
    (hd : ∀ H, Same H1 H → H D = some (.lst ys) → Qd H) :
    ∃ W : Nat → Nat → Hp → Prop, (∃ m, W 0 m (upd H1 D (.lst []))) ∧ ∀ i m H, W i m H →
      ((Itt K a).stop i H ∧ Qd H) ∨ ((Itt K a).go i H ∧ ∃ Nx : Hp → Prop, (∀ H', Nx H' → ∃ m', m' < m ∧ W (i + 1) m' H') ∧ ∀ x H', (Itt K a).yld i H x H' → g x (wipe σ vs) H' fun σ2 H2 => wipe σ2 vs = wipe σ vs ∧ tt σ2 H2 fun b H3 =>
        if b = true then te σ2 H3 fun y H4 => ∃ acc, H4 D = some (.lst acc) ∧ acc.length < sizeLine ∧ Nx (upd H4 D (.lst (acc ++ [y]))) else Nx H3) := by
  refine lc_tup (fun i H => Same H1 H ∧ H D = some (.lst (ys.take i))) ⟨Same.upd hD, upd_same⟩ (fun i H _ h => h.1.tup hS) (fun i x H hx h => ?_) fun H h => hd H h.1 (by have := h.2; rwa [← hy, List.take_length] at this)
  have lt := (List.getElem?_eq_some_iff.mp hx).1
  have hyi : ys[i]? = some ys[i] := List.getElem?_eq_getElem (by omega)
  refine hs i x _ H _ _ hx hyi h.1 fun H4 s4 => ?_
  refine ⟨_, s4 _ _ h.2, ?_, fun b o e => ?_, ?_⟩
  · rw [List.length_take]
    exact Nat.lt_of_le_of_lt (Nat.min_le_right _ _) (by omega)
  · rw [upd_ne (ne_of_none e hD)]
    exact s4 _ _ (h.1 _ _ e)
  · rw [upd_same, take_nx hyi]
end L2
namespace Tk
open PySem PySem.Spec PyProof.Rows L2
open Kh292 (Script State at_ takesPart okScript comesTo never)
def paF (p : Int) (pl ar st nu rw : Addr) : List (Str × V) := [("party", .int p), ("places", .ref pl), ("arrivals", .ref ar), ("states", .ref st), ("numbers", .ref nu), ("rows", .ref rw)]
theorem paF1 {p : Int} {pl ar st nu rw : Addr} : (paF p pl ar st nu rw).lookup ("party" : Str) = some (.int p) := by rfl
theorem paF2 {p : Int} {pl ar st nu rw : Addr} : (paF p pl ar st nu rw).lookup ("places" : Str) = some (.ref pl) := by rfl
theorem paF3 {p : Int} {pl ar st nu rw : Addr} : (paF p pl ar st nu rw).lookup ("arrivals" : Str) = some (.ref ar) := by rfl
theorem paF4 {p : Int} {pl ar st nu rw : Addr} : (paF p pl ar st nu rw).lookup ("states" : Str) = some (.ref st) := by rfl
theorem paF5 {p : Int} {pl ar st nu rw : Addr} : (paF p pl ar st nu rw).lookup ("numbers" : Str) = some (.ref nu) := by rfl
theorem paF6 {p : Int} {pl ar st nu rw : Addr} : (paF p pl ar st nu rw).lookup ("rows" : Str) = some (.ref rw) := by rfl
structure PartC (c : Cs) (H : Hp) (a : Addr) (s : Script) (p : Nat) (pl ar st nu rw : Addr) : Prop where
  ins : ∃ dx, H a = some (.ins c.pa dx (paF p pl ar st nu rw))
  pls : PlacesAt c H pl s
  arr : ArrAt H ar s p
def TupAt (H : Hp) (t : Addr) (x : State) : Prop := H t = some (.tup ((stT x).map V.int))
def spKind (c : Cs) : Sp := fun vs H Q E => ∃ (a t : Addr) (s : Script) (p : Nat) (pl ar st nu rw : Addr) (x : State), vs = [.ref a, .ref t] ∧ PartC c H a s p pl ar st nu rw ∧ okScript s = true ∧ TupAt H t x ∧ Fine s p x ∧
  (Kh292.fault s p x ≠ 0 → ∀ H', Same H H' → E (.ref c.un) none H') ∧ (Kh292.fault s p x = 0 → ∀ H', Same H H' → Q (.int (Kh292.kind s p x : Nat)) H')
def spWords (c : Cs) : Sp := fun vs H Q _ => ∃ (a t : Addr) (s : Script) (p : Nat) (pl ar st nu rw : Addr) (x : State), vs = [.ref a, .ref t] ∧ PartC c H a s p pl ar st nu rw ∧ okScript s = true ∧ TupAt H t x ∧ Fine s p x ∧ x.over = false ∧
  ∀ H' l, H l = none → Same H H' → H' l = some (.lst (((Kh292.words s x).map Int.ofNat).map V.int)) → Q (.ref l) H'
def spBehind (c : Cs) : Sp := fun vs H Q _ => ∃ (a t : Addr) (s : Script) (p : Nat) (pl ar st nu rw : Addr) (x : State) (wd : Nat), vs = [.ref a, .ref t, .int wd] ∧ PartC c H a s p pl ar st nu rw ∧ okScript s = true ∧ TupAt H t x ∧ Fine s p x ∧ x.over = false ∧
  ∀ H' l, H l = none → Same H H' → TupAt H' l (Kh292.behind s p x wd) → Q (.ref l) H'
theorem stT_plain {x : State} (h : x.over = false) : stT x = x.places.map Int.ofNat := by
  unfold stT
  rw [h]
  simp
section
variable {P : Program} {w : World} {K : PySem.W.Frag} {mg : Str → Option Value} {base : Heap} {c : Cs}
theorem ite3 {c : Prop} [Decidable c] {A B : Prop} (h1 : c → A) (h2 : ¬ c → B) : if decide c = true then A else B := iteB (fun e => h1 (of_decide_eq_true e)) fun e => h2 (of_decide_eq_false e)
theorem sc_kind : FnScope ["self", "state", "here", "at", "place"] ["self", "state"] (defScope s_Part_kind_of) := ⟨rfl, rfl, rfl, by decide +kernel, rfl, by decide +kernel, by decide +kernel⟩
set_option maxHeartbeats 1000000 in
theorem ok_kind {f fl fs : Addr} {fd fdl fds : FuncData} (F : Fun K "kind_of" "Part.kind_of" s_Part_kind_of f fd) (T : Txt K mg c) (GL : Fn P w K mg base "is_same_line" 1 ["one", "another"] (spLine c) fl fdl) (GS : Fn P w K mg base "is_same_speech" 2 ["one", "another"] (spSpeech c) fs fds) :
    FnOk P w K mg base (CXe P w) 3 f fd ["self", "state"] (spKind c) := by
  refine F.okE sc_kind (fun vs H Q E h => ?_) (fun cdv A outer s H vs Q E hr h => ?_)
  · obtain ⟨a, t, sc, p, pl, ar, st, nu, rw, x, rfl, _⟩ := h
    rfl
  · obtain ⟨a, t, sc, p, pl, ar, st, nu, rw, x, rfl, C, hs, ht, fx, kE, kQ⟩ := h
    have hr1 : Room 1 _ := hr.mono (by decide)
    have nd := sc_kind.nd
    have hn := (ok_len hs).2.1
    refine ⟨_, pss_cons (ps_if (pt_cmpR (op_eqD hr.units) (pv 1) (pe_tup (pa_cons (pe_gl rfl T.OVER) pa_nil)) (nomark _)) (pss_one (ps_ret (pe_gl rfl T.NOTHING))) pss_nil)
      (pss_cons (ps_if (pt_cmpR op_in_seq (pe_gl rfl T.OVER) (pv 1) (by with_unfolding_all rfl)) (pss_one (ps_raise T.unx rfl)) pss_nil)
      (pss_cons (ps_set (i := 2) nd rfl (Or.inr rfl) (pe_lc (own := [("at", 3)]) rfl nd (pi_tup (pv 1)) (blkOk_by (N := ["self", "state", "here", "at", "place"]) (sc := defScope s_Part_kind_of) (by decide +kernel)) (fun _ _ _ _ _ => pg_name (i := 3) nd rfl (Or.inl rfl)) (fun _ _ _ _ _ => pts_nil)
        (fun _ _ _ _ _ => pe_ix (ix_listK (K := K) rfl) (pe_fldK (K := K) rfl (pv 0) rfl) (pv 3) (fun _ _ => rfl))))
      (pss_cons (ps_if (PW.pt (pw_and (pt_cmpR op_eq (pe_fld (pe_ix ix_list (pv 2) pe_int (fun _ _ => rfl)) rfl) (pe_fld (pv 0) rfl) (nomark _)) (pw_and1 (pt_val (pe_callB (cr_all rfl) rfl T.all boot_all5 (pa_cons
          (pe_lc (own := [("place", 4)]) rfl nd (pi_list (pv 2)) (blkOk_by (N := ["self", "state", "here", "at", "place"]) (sc := defScope s_Part_kind_of) (by decide +kernel)) (fun _ _ _ _ _ => pg_name (i := 4) nd rfl (Or.inl rfl)) (fun _ _ _ _ _ => pts_nil)
            (fun _ _ _ _ _ => pe_call GS.ok hr rfl GS.mg GS.kp GS.bi .nil pass0E (pa_cons (pe_ix (ix_listK (K := K) rfl) (pv 2) pe_int (fun _ _ => rfl)) (pa_cons (pv 4) pa_nil)))) pa_nil)))))) (pss_one (ps_ret (pe_gl rfl T.SPEAKS))) pss_nil)
      (pss_cons (ps_if (PW.pt (pw_and (pt_cmpR op_eq (pe_fld (pe_ix ix_list (pv 2) pe_int (fun _ _ => rfl)) rfl) (pe_fld (pv 0) rfl) (nomark _)) (pw_and1 (pt_val (pe_callB (cr_all rfl) rfl T.all boot_all5 (pa_cons
          (pe_lc (own := [("place", 4)]) rfl nd (pi_list (pv 2)) (blkOk_by (N := ["self", "state", "here", "at", "place"]) (sc := defScope s_Part_kind_of) (by decide +kernel)) (fun _ _ _ _ _ => pg_name (i := 4) nd rfl (Or.inl rfl)) (fun _ _ _ _ _ => pts_nil)
            (fun _ _ _ _ _ => pe_call GL.ok hr1 rfl GL.mg GL.kp GL.bi .nil pass0E (pa_cons (pe_ix (ix_listK (K := K) rfl) (pv 2) pe_int (fun _ _ => rfl)) (pa_cons (pv 4) pa_nil)))) pa_nil)))))) (pss_one (ps_ret (pe_gl rfl T.LISTENS))) pss_nil)
      (pss_one (ps_raise T.unx rfl)))))), ?_⟩
    obtain ⟨dx, hins⟩ := C.ins
    refine ⟨_, rfl, (by show 1 ≤ sizeLine; decide), fun t1 ht1 => ?_⟩
    have s1 := Same.upd (o := .tup [.int 255]) ht1
    have w1 := upd_same (H := H) (a := t1) (o := .tup [.int 255])
    generalize upd H t1 (.tup [.int 255]) = H1 at s1 w1 ⊢
    refine ⟨.tuple ((stT x).map PyData.int), .tuple (([255] : List Int).map PyData.int), .tup (SqT.of (s1 _ _ ht)) (dpAll_ints _), .tup (SqT.of w1) (dpAll_ints [255]), shaped_tuple _, shaped_tuple [255], _, rfl, ?_⟩
    have ee : PyData.eqv (.tuple ((stT x).map PyData.int)) (.tuple (([255] : List Int).map PyData.int)) = decide (stT x = [255]) := eqv_ints _ _
    rw [ee]
    have pl255 : stT x = [255] ↔ x.places = [] := by
      constructor
      · intro h
        cases e : x.places with
        | nil => rfl
        | cons q r =>
          exfalso
          have := fx.lt255 hs q (by rw [e]; simp)
          unfold stT at h
          rw [e] at h
          have h := (List.cons.inj h).1
          have : (q : Int) = 255 := h
          omega
      · intro h
        unfold stT
        rw [h, fx.good.some h]
        rfl
    refine ite3 (fun e => ?_) fun e => ?_
    · obtain ⟨f0, k0, _⟩ := fault_none (s := sc) (p := p) (pl255.mp e)
      have := kQ f0 H1 s1
      rw [k0] at this
      exact this
    refine ⟨_, rfl, t, _, rfl, .inr (SqT.of (s1 _ _ ht)), rfl, flat_ints _, _, rfl, ?_⟩
    rw [if_neg (by decide), inV_ints]
    refine ite3 (fun e2 => ?_) fun e2 => ?_
    · refine kE (fault_over (fun h => e (pl255.mpr h)) ?_) H1 s1
      rcases mem_stT.mp e2 with ⟨q, hq, h⟩ | ⟨h, _⟩
      · have := fx.lt255 hs q hq
        omega
      · exact h
    have hov : x.over = false := by
      cases h : x.over with
      | false => rfl
      | true => exact absurd (mem_stT.mpr (.inr ⟨h, rfl⟩)) e2
    have hst := stT_plain hov
    obtain ⟨as, ha1, ha2, ha3⟩ := id (C.pls.same s1)
    have lt : ∀ q ∈ x.places, q < sc.places.length := fx.good.lt
    refine ⟨_, rfl, t, rfl, ⟨_, SqT.of (s1 _ _ ht)⟩, fun D2 hD2 => ?_⟩
    have xl : x.places.length ≤ 32 := by
      have ndx : x.places.Nodup := fx.good.rise.imp fun h => Nat.ne_of_lt h
      have := List.Nodup.length_le_of_subset ndx (l₂ := List.range sc.places.length) fun q hq => List.mem_range.mpr (lt q hq)
      rw [List.length_range] at this
      omega
    refine lc_tupI (ys := x.places.map fun q => V.ref (as.getD q 0)) (SqT.of (s1 _ _ ht)) hD2 (by rw [List.length_map, hst, List.length_map]; exact small (by omega)) (by rw [List.length_map, List.length_map, hst, List.length_map]) (fun i v y H2 N M hx hy s2 hN => ?_) fun H2 s2 hD22 => ?_
    · rw [hst, List.getElem?_map, List.getElem?_map] at hx
      rw [List.getElem?_map] at hy
      cases eq : x.places[i]? with
      | none =>
        rw [eq] at hx
        cases hx
      | some q =>
        rw [eq] at hx hy
        have ex : V.int (q : Int) = v := Option.some.inj hx
        have ey : V.ref (as.getD q 0) = y := Option.some.inj hy
        subst ex ey
        have ltq : q < as.length := by
          rw [ha2]
          exact lt q (List.mem_of_getElem? eq)
        refine ⟨rfl, ?_⟩
        refine ⟨_, rfl, a, c.pa, dx, _, _, rfl, s2 _ _ (s1 _ _ hins), T.pac, T.pa2, paF2, _, rfl, pl, _, _, _, rfl, rfl, SqL.of (s2 _ _ ha1), atI_refs (b := as.getD q 0) (by rw [List.getD_eq_getElem?_getD, List.getElem?_eq_getElem ltq]; rfl), ?_⟩
        exact hN H2 (Same.refl _)
    have plc : ∀ q ∈ x.places, PlaceAt c H2 (as.getD q 0) (at_ sc q) := fun q hq => by
      have ltq : q < as.length := by
        rw [ha2]
        exact lt q hq
      exact (ha3 q _ (by rw [List.getD_eq_getElem?_getD, List.getElem?_eq_getElem ltq]; rfl)).same s2
    have hins2 := s2 _ _ (s1 _ _ hins)
    obtain ⟨q0, r0, e0⟩ : ∃ q0 r0, x.places = q0 :: r0 := by
      cases h : x.places with
      | nil => exact absurd (pl255.mpr h) e
      | cons q r => exact ⟨q, r, rfl⟩
    have hq0 : q0 ∈ x.places := by
      rw [e0]
      simp
    have at0 : ∀ {z : Int}, z = 0 → atI (x.places.map fun q => V.ref (as.getD q 0)) z = some (V.ref (as.getD q0 0)) := fun {z} hz => by
      subst hz
      exact atI_nat (j := 0) (by rw [e0]; rfl)
    have p0 := plc q0 hq0
    obtain ⟨dx0, d0, h0, hd0⟩ := id p0
    obtain ⟨kc1, kc2, kc3⟩ := kind_cases hs fx hov
    have okq : ∀ q ∈ x.places, OkP sc.p sc.places.length (at_ sc q) := fun q hq => okP hs (lt q hq)
    have s12 := s1.trans s2
    have speak : speaksB sc p x = (decide ((at_ sc q0).from_ = p) && (x.places.map fun q => lineB (at_ sc q0) (at_ sc q) && wordsB (at_ sc q0) (at_ sc q)).all id) := by
      unfold speaksB
      rw [List.all_map, e0]
      rfl
    have listen : listensB sc p x = (decide ((at_ sc q0).to_ = p) && (x.places.map fun q => lineB (at_ sc q0) (at_ sc q)).all id) := by
      unfold listensB
      rw [List.all_map, e0]
      rfl
    have rest : ∀ H3, Same H2 H3 → speaksB sc p x = false → (tSeq (tIfS (tAnd (tTest (tOp rEq (tFld K (tOp (rIxL K) (tVar 2) (tC (.int 0))) "listener") (tFld K (tVar 0) "party"))) (tB (tCB (rAll K) (tCons (tLc (iList K (tVar 2)) (gName 4) tYes (tCall (spLine c) [] E0 (tCons (tOp (rIxL K) (tVar 2) (tC (.int 0))) (tCons (tVar 4) tNil))) [4]) tNil)))) (tRet (tC (.int 2))) tNext) (fun _ _ H => E (.ref c.un) none H)) { nx := fun _ H' => Q .non H', rt := Q }
        [some (.ref a), some (.ref t), some (.ref D2), none, none] H3 := by
      intro H3 s3 hsp
      have s13 := s12.trans s3
      refine ⟨_, rfl, D2, _, _, _, rfl, rfl, SqL.of (s3 _ _ hD22), at0 rfl, _, c.pl, dx0, _, _, rfl, s3 _ _ h0, T.plc, T.pl2, plF2 _ _ _, _, rfl, a, c.pa, dx, _, _, rfl, s3 _ _ hins2, T.pac, T.pa1, paF1, rfl, _, rfl, ?_⟩
      rw [dec_nat]
      refine iteB (fun e5 => ?_) fun e5 => ?_
      · refine ⟨_, rfl, D2, rfl, ⟨_, SqL.of (s3 _ _ hD22)⟩, fun D4 hD4 => ?_⟩
        refine lc_listI (ys := (x.places.map fun q => lineB (at_ sc q0) (at_ sc q)).map V.bl) (SqL.of (s3 _ _ hD22)) hD4 (by rw [List.length_map]; exact small (by omega)) (by rw [List.length_map, List.length_map, List.length_map]) (fun i v y H4 N M hx hy s4 hN => ?_) fun H4 s4 hD44 => ?_
        · rw [List.getElem?_map] at hx
          rw [List.getElem?_map, List.getElem?_map] at hy
          cases eq : x.places[i]? with
          | none =>
            rw [eq] at hx
            cases hx
          | some q =>
            rw [eq] at hx hy
            have ex := Option.some.inj hx
            have ey := Option.some.inj hy
            subst ex ey
            refine ⟨rfl, ?_⟩
            refine ⟨_, rfl, D2, _, _, _, rfl, rfl, SqL.of (s4 _ _ (s3 _ _ hD22)), at0 rfl, _, rfl, _, _, _, _, rfl, (p0.same s3).same s4, ((plc q (List.mem_of_getElem? eq)).same s3).same s4, hN H4 (Same.refl _)⟩
        · refine ⟨D4, _, rfl, SqL.of hD44, _, rfl, ?_⟩
          rw [e5, Bool.true_and] at listen
          rw [← listen]
          refine iteB (fun e6 => ?_) fun e6 => ?_
          · obtain ⟨f0, k2⟩ := kc2 hsp e6
            have := kQ f0 H4 (s13.trans s4)
            rw [k2] at this
            exact this
          · exact kE (kc3 hsp e6) H4 (s13.trans s4)
      · rw [e5, Bool.false_and] at listen
        exact kE (kc3 hsp listen) H3 s13
    refine ⟨_, rfl, D2, _, _, _, rfl, rfl, SqL.of hD22, at0 rfl, _, c.pl, dx0, _, _, rfl, h0, T.plc, T.pl1, plF1 _ _ _, _, rfl, a, c.pa, dx, _, _, rfl, hins2, T.pac, T.pa1, paF1, rfl, _, rfl, ?_⟩
    rw [dec_nat]
    refine iteB (fun e5 => ?_) fun e5 => ?_
    · refine ⟨_, rfl, D2, rfl, ⟨_, SqL.of hD22⟩, fun D4 hD4 => ?_⟩
      refine lc_listI (ys := (x.places.map fun q => lineB (at_ sc q0) (at_ sc q) && wordsB (at_ sc q0) (at_ sc q)).map V.bl) (SqL.of hD22) hD4 (by rw [List.length_map]; exact small (by omega)) (by rw [List.length_map, List.length_map, List.length_map]) (fun i v y H4 N M hx hy s4 hN => ?_) fun H4 s4 hD44 => ?_
      · rw [List.getElem?_map] at hx
        rw [List.getElem?_map, List.getElem?_map] at hy
        cases eq : x.places[i]? with
        | none =>
          rw [eq] at hx
          cases hx
        | some q =>
          rw [eq] at hx hy
          have ex := Option.some.inj hx
          have ey := Option.some.inj hy
          subst ex ey
          have mq := List.mem_of_getElem? eq
          refine ⟨rfl, ?_⟩
          refine ⟨_, rfl, D2, _, _, _, rfl, rfl, SqL.of (s4 _ _ hD22), at0 rfl, _, rfl, _, _, _, _, rfl, p0.same s4, (plc q mq).same s4, (okq q0 hq0).nd, (okq q mq).nd, (okq q0 hq0).l4, (okq q mq).l4, hN⟩
      · refine ⟨D4, _, rfl, SqL.of hD44, _, rfl, ?_⟩
        rw [e5, Bool.true_and] at speak
        rw [← speak]
        refine iteB (fun e6 => ?_) fun e6 => ?_
        · obtain ⟨f0, k1⟩ := kc1 e6
          have := kQ f0 H4 (s12.trans s4)
          rw [k1] at this
          exact this
        · exact rest H4 s4 e6
    · rw [e5, Bool.false_and] at speak
      exact rest H2 (Same.refl _) speak
end
end Tk
end
section
set_option Elab.async false
set_option linter.all false
set_option maxRecDepth 100000
namespace Tk
open PySem PySem.Spec PyProof.Rows L2
open Kh292 (Script State at_ takesPart okScript comesTo never wordsAt)
theorem flat_len {α : Type} (f : α → List Int) (k : Nat) : ∀ l : List α, (∀ x ∈ l, (f x).length ≤ k) → (l.flatMap f).length ≤ k * l.length
  | [], _ => by simp
  | x :: l, h => by
    rw [List.flatMap_cons, List.length_append, List.length_cons]
    have := flat_len f k l fun y hy => h y (List.mem_cons_of_mem _ hy)
    have := h x (by simp)
    rw [Nat.mul_succ]
    omega
theorem flat_snoc {α β : Type} (f : α → List β) {l : List α} {i : Nat} {x : α} (h : l[i]? = some x) : (l.take (i + 1)).flatMap f = (l.take i).flatMap f ++ f x := by
  rw [take_nx h, List.flatMap_append, List.flatMap_cons, List.flatMap_nil, List.append_nil]
theorem Fine.len {s : Script} (hs : okScript s = true) {p : Nat} {x : State} (f : Fine s p x) : x.places.length ≤ 32 := by
  have ndx : x.places.Nodup := f.good.rise.imp fun h => Nat.ne_of_lt h
  have := List.Nodup.length_le_of_subset ndx (l₂ := List.range s.places.length) fun q hq => List.mem_range.mpr (f.good.lt q hq)
  rw [List.length_range] at this
  have := (ok_len hs).2.1
  omega
theorem stT_len {s : Script} (hs : okScript s = true) {p : Nat} {x : State} (f : Fine s p x) : (stT x).length ≤ 33 := by
  have := f.len hs
  unfold stT
  rw [List.length_append, List.length_map]
  have : (if x.over = true then [(255 : Int)] else []).length ≤ 1 := by split <;> simp
  omega
section
variable {P : Program} {w : World} {K : PySem.W.Frag} {mg : Str → Option Value} {base : Heap} {c : Cs}
theorem sc_wordsP : FnScope ["self", "state", "words", "at"] ["self", "state"] (defScope s_Part_words_of) := ⟨rfl, rfl, rfl, by decide +kernel, rfl, by decide +kernel, by decide +kernel⟩
theorem ok_wordsP {f : Addr} {fd : FuncData} (F : Fun K "words_of" "Part.words_of" s_Part_words_of f fd) (T : Txt K mg c) : FnOk P w K mg base (CXe P w) 1 f fd ["self", "state"] (spWords c) := by
  refine F.okE sc_wordsP (fun vs H Q E h => ?_) (fun cdv A outer s H vs Q E hr h => ?_)
  · obtain ⟨a, t, sc, p, pl, ar, st, nu, rw, x, rfl, _⟩ := h
    rfl
  · obtain ⟨a, t, sc, p, pl, ar, st, nu, rw, x, rfl, C, hs, ht, fx, hov, k⟩ := h
    have nd := sc_wordsP.nd
    obtain ⟨dx, hins⟩ := C.ins
    have xl := fx.len hs
    have ht : H t = some (.tup ((x.places.map Int.ofNat).map V.int)) := by
      have h : H t = some (.tup ((stT x).map V.int)) := ht
      rw [stT_plain hov] at h
      exact h
    refine ⟨_, pss_cons (ps_set (i := 2) nd rfl (Or.inl rfl) (pe_lst pa_nil)) (pss_cons (ps_for ownE rfl (pi_tup (pv 1)) (pg_name (i := 3) nd rfl (Or.inl rfl))
        (pss_one (ps_expr (pe_bm PySem.F.plainAttrs_list PySem.F.slot_list_extend PySem.F.type_list_extend mt_extend (pv 2) (pa_cons (pe_callTy (cr_listD rfl) rfl T.list boot_list5 (pa_cons (pe_fld (pe_ix ix_list (pe_fld (pv 0) rfl) (pv 3) (fun _ _ => rfl)) rfl) pa_nil)) pa_nil)))))
      (pss_one (ps_ret (pe_callB (cr_sortedSetP (P := P) (w := w) rfl rfl rfl) rfl T.sorted boot_sorted5 (pa_cons (pe_callTy (cr_setP (P := P) (w := w) (K := K) rfl rfl rfl rfl) rfl T.set boot_set5 (pa_cons (pv 2) pa_nil)) pa_nil))))), ?_⟩
    refine ⟨Nat.zero_le _, fun W hW => ?_⟩
    have s0 : Same H (upd H W (.lst [])) := Same.upd hW
    have fl : ∀ i, ((x.places.take i).flatMap fun q => (wordsAt sc q).map Int.ofNat).length ≤ 128 := fun i => by
      have := flat_len (fun q => (wordsAt sc q).map Int.ofNat) 4 (x.places.take i) fun q hq => by
        rw [List.length_map]
        unfold wordsAt
        rw [List.length_map]
        exact (okP hs (fx.good.lt q (List.mem_of_mem_take hq))).l4
      rw [List.length_take] at this
      omega
    refine ⟨_, rfl, t, rfl, ⟨_, SqT.of (s0 _ _ ht)⟩, for_tup (K := K) (a := t) (xs := (x.places.map Int.ofNat).map V.int) (fun i σ H' => ∃ v : Option V, σ = [some (.ref a), some (.ref t), some (.ref W), v] ∧ Same H H' ∧ H' W = some (.lst (((x.places.take i).flatMap fun q => (wordsAt sc q).map Int.ofNat).map V.int)))
      ⟨none, rfl, s0, upd_same⟩ (fun i σ H' _ ⟨_, _, s1, _⟩ => SqT.of (s1 _ _ ht)) ?_ ?_⟩
    · rintro i y σ H1 hi ⟨v, rfl, s1, hw1⟩
      rw [List.getElem?_map, List.getElem?_map] at hi
      cases eq : x.places[i]? with
      | none =>
        rw [eq] at hi
        cases hi
      | some q =>
        rw [eq] at hi
        have ex : V.int (q : Int) = y := Option.some.inj hi
        subst ex
        have lq := fx.good.lt q (List.mem_of_getElem? eq)
        obtain ⟨xs, b, h1, h2, dy, d, hb, hd⟩ := (C.pls.same s1).get lq
        refine ⟨_, rfl, .inl ⟨rfl, _, SqL.of hw1⟩, ?_⟩
        refine ⟨_, rfl, a, c.pa, dx, _, _, rfl, s1 _ _ hins, T.pac, T.pa2, paF2, _, rfl, pl, _, _, _, rfl, rfl, SqL.of h1, h2, b, c.pl, dy, _, _, rfl, hb, T.plc, T.pl3, plF3 _ _ _, d, _, rfl, hd, fun p2 hp2 => ?_⟩
        rw [wsI_fst]
        have s2 := Same.upd (o := .lst ((((at_ sc q).ways.map Prod.fst).map Int.ofNat).map V.int)) hp2
        have f1 := fl (i + 1)
        rw [flat_snoc _ eq, List.length_append] at f1
        refine ⟨W, p2, _, _, rfl, rfl, s2 _ _ hw1, upd_same, ?_, ?_⟩
        · rw [List.length_map, List.length_map]
          have : ((wordsAt sc q).map Int.ofNat).length = (((at_ sc q).ways.map Prod.fst).map Int.ofNat).length := rfl
          exact Nat.le_of_lt (small (by omega))
        · refine ⟨_, rfl, fun b' o e => ?_, ?_⟩
          · rw [upd_ne (ne_of_none e hW)]
            exact s2 _ _ (s1 _ _ e)
          · rw [upd_same, flat_snoc _ eq, List.map_append]
            rfl
    · rintro σ H1 ⟨v, rfl, s1, hw1⟩
      rw [List.length_map, List.length_map, List.take_length] at hw1
      have f1 := fl x.places.length
      rw [List.take_length] at f1
      refine ⟨_, rfl, W, _, rfl, SqL.of hw1, ?_, fun p2 hp2 => ⟨p2, _, rfl, upd_same, fun ns p3 hpm hsr hp3 => ?_⟩⟩
      · have : (1000 : Nat) < scanBound := by decide
        omega
      have s2 := Same.upd (H := H1) (o := setO P w p2 (onceI (x.places.flatMap fun q => (wordsAt sc q).map Int.ofNat))) hp2
      have s3 := Same.upd (o := .lst (ns.map V.int)) hp3
      have en := words_made hs fx (ks := onceI (x.places.flatMap fun q => (wordsAt sc q).map Int.ofNat)) (fun z => by
        rw [onceI_mem, List.mem_flatMap]
        constructor
        · rintro ⟨q, hq, h⟩
          obtain ⟨wd, hw, rfl⟩ := List.mem_map.mp h
          exact ⟨q, hq, wd, hw, rfl⟩
        · rintro ⟨q, hq, wd, hw, rfl⟩
          exact ⟨q, hq, List.mem_map.mpr ⟨wd, hw, rfl⟩⟩) (onceI_nd _) hpm hsr
      subst en
      exact k _ p3 ((s1.trans s2).free hp3) ((s1.trans s2).trans s3) upd_same
def lookW (ws : List (Nat × Option Nat)) (wd : Nat) : Option (Option Nat) := (ws.find? fun v => v.1 == wd).map Prod.snd
theorem valV_ws : ∀ (ws : List (Nat × Option Nat)) (wd : Nat), valV (iK (wsI ws)) (Sum.inl (wd : Int)) = (lookW ws wd).map fun o => V.int (encO o)
  | [], wd => rfl
  | v :: ws, wd => by
    show valV ((Sum.inl (v.1 : Int), V.int (encO v.2)) :: iK (wsI ws)) (Sum.inl (wd : Int)) = _
    by_cases h : v.1 = wd
    · rw [valV_pos (by rw [h])]
      unfold lookW
      rw [List.find?_cons, show (v.1 == wd) = true by rw [h]; simp]
      rfl
    · rw [valV_neg (by intro q; have := Sum.inl.inj q; exact h (by omega)), valV_ws ws wd]
      unfold lookW
      rw [List.find?_cons, show (v.1 == wd) = false by simpa using h]
theorem lookW_iff {ws : List (Nat × Option Nat)} (nd : (ws.map Prod.fst).Nodup) {wd : Nat} {o : Option Nat} : lookW ws wd = some o ↔ (wd, o) ∈ ws := by
  induction ws with
  | nil => simp [lookW]
  | cons v ws ih =>
    rw [List.map_cons, List.nodup_cons] at nd
    unfold lookW at ih ⊢
    rw [List.find?_cons]
    by_cases h : v.1 = wd
    · rw [show (v.1 == wd) = true by rw [h]; simp]
      show some v.2 = some o ↔ _
      constructor
      · intro e
        have : v = (wd, o) := by rw [← h, ← Option.some.inj e]
        rw [this]
        simp
      · intro hm
        rcases List.mem_cons.mp hm with e | e
        · rw [← e]
        · exact absurd (List.mem_map.mpr ⟨_, e, rfl⟩) (h ▸ nd.1)
    · rw [show (v.1 == wd) = false by simpa using h]
      show Option.map Prod.snd (List.find? (fun v => v.1 == wd) ws) = some o ↔ _
      rw [ih nd.2, List.mem_cons]
      exact ⟨.inr, fun q => q.elim (fun e => absurd (by rw [← e]) h) id⟩
def fromQ (s : Script) (p wd q : Nat) : List Int := match lookW (at_ s q).ways wd with
  | some o => stT (comesTo s p [o])
  | none => []
theorem mem_from {s : Script} (hs : okScript s = true) {p : Nat} {x : State} (f : Fine s p x) {wd : Nat} {z : Int} : z ∈ x.places.flatMap (fromQ s p wd) ↔ ∃ o ∈ nextsOf s x wd, z ∈ stT (comesTo s p [o]) := by
  rw [List.mem_flatMap]
  constructor
  · rintro ⟨q, hq, h⟩
    unfold fromQ at h
    split at h
    · rename_i o e
      exact ⟨o, mem_nexts.mpr ⟨q, hq, (lookW_iff (okP hs (f.good.lt q hq)).nd).mp e⟩, h⟩
    · simp at h
  · rintro ⟨o, ho, h⟩
    obtain ⟨q, hq, hw⟩ := mem_nexts.mp ho
    refine ⟨q, hq, ?_⟩
    unfold fromQ
    rw [(lookW_iff (okP hs (f.good.lt q hq)).nd).mpr hw]
    exact h
theorem sc_behind : FnScope ["self", "state", "word", "found", "at", "ways"] ["self", "state", "word"] (defScope s_Part_state_behind) := ⟨rfl, rfl, rfl, by decide +kernel, rfl, by decide +kernel, by decide +kernel⟩
theorem ok_behind {f : Addr} {fd : FuncData} (F : Fun K "state_behind" "Part.state_behind" s_Part_state_behind f fd) (T : Txt K mg c) : FnOk P w K mg base (CXe P w) 1 f fd ["self", "state", "word"] (spBehind c) := by
  refine F.okE sc_behind (fun vs H Q E h => ?_) (fun cdv A outer s H vs Q E hr h => ?_)
  · obtain ⟨a, t, sc, p, pl, ar, st, nu, rw, x, wd, rfl, _⟩ := h
    rfl
  · obtain ⟨a, t, sc, p, pl, ar, st, nu, rw, x, wd, rfl, C, hs, ht, fx, hov, k⟩ := h
    have nd := sc_behind.nd
    have hu := hu_of hr
    obtain ⟨dx, hins⟩ := C.ins
    have xl := fx.len hs
    have ht : H t = some (.tup ((x.places.map Int.ofNat).map V.int)) := by
      have h : H t = some (.tup ((stT x).map V.int)) := ht
      rw [stT_plain hov] at h
      exact h
    refine ⟨_, pss_cons (ps_set (i := 3) nd rfl (Or.inl rfl) (pe_lst pa_nil)) (pss_cons (ps_for ownE rfl (pi_tup (pv 1)) (pg_name (i := 4) nd rfl (Or.inl rfl))
        (pss_cons (ps_set (i := 5) nd rfl (Or.inl rfl) (pe_fld (pe_ix ix_list (pe_fld (pv 0) rfl) (pv 4) (fun _ _ => rfl)) rfl))
        (pss_one (ps_if (pt_cmp (pc_din hu (pv 2) (pv 5))) (pss_one (ps_expr (pe_bm PySem.F.plainAttrs_list PySem.F.slot_list_extend PySem.F.type_list_extend mt_extendT (pv 3) (pa_cons (pe_dget hu (pe_fld (pv 0) rfl) (pe_dget hu (pv 5) (pv 2) (fun _ _ => rfl)) (fun _ _ => rfl)) pa_nil)))) pss_nil))))
      (pss_one (ps_ret (pe_callTy call_tuple_of rfl T.tuple boot_tuple5 (pa_cons (pe_callB (cr_sortedSetP (P := P) (w := w) rfl rfl rfl) rfl T.sorted boot_sorted5 (pa_cons (pe_callTy (cr_setP (P := P) (w := w) (K := K) rfl rfl rfl rfl) rfl T.set boot_set5 (pa_cons (pv 3) pa_nil)) pa_nil)) pa_nil))))), ?_⟩
    refine ⟨Nat.zero_le _, fun W hW => ?_⟩
    have s0 : Same H (upd H W (.lst [])) := Same.upd hW
    have f33 : ∀ q ∈ x.places, (fromQ sc p wd q).length ≤ 33 := fun q hq => by
      unfold fromQ
      split
      · rename_i o e
        have hw := (lookW_iff (okP hs (fx.good.lt q hq)).nd).mp e
        exact stT_len hs (fine_comes hs (one_ok (by
          cases o with
          | none => trivial
          | some r => exact (okP hs (fx.good.lt q hq)).nx _ hw r rfl)) (by simp))
      · simp
    have fl : ∀ i, ((x.places.take i).flatMap (fromQ sc p wd)).length ≤ 1056 := fun i => by
      have := flat_len (fromQ sc p wd) 33 (x.places.take i) fun q hq => f33 q (List.mem_of_mem_take hq)
      rw [List.length_take] at this
      omega
    refine ⟨_, rfl, t, rfl, ⟨_, SqT.of (s0 _ _ ht)⟩, for_tup (K := K) (a := t) (xs := (x.places.map Int.ofNat).map V.int) (fun i σ H' => ∃ v v2 : Option V, σ = [some (.ref a), some (.ref t), some (.int wd), some (.ref W), v, v2] ∧ Same H H' ∧ H' W = some (.lst (((x.places.take i).flatMap (fromQ sc p wd)).map V.int)))
      ⟨none, none, rfl, s0, upd_same⟩ (fun i σ H' _ ⟨_, _, _, s1, _⟩ => SqT.of (s1 _ _ ht)) ?_ ?_⟩
    · rintro i y σ H1 hi ⟨v, v2, rfl, s1, hw1⟩
      rw [List.getElem?_map, List.getElem?_map] at hi
      cases eq : x.places[i]? with
      | none =>
        rw [eq] at hi
        cases hi
      | some q =>
        rw [eq] at hi
        have ex : V.int (q : Int) = y := Option.some.inj hi
        subst ex
        have mq := List.mem_of_getElem? eq
        have lq := fx.good.lt q mq
        obtain ⟨xs, b, h1, h2, dy, d, hb, hd⟩ := (C.pls.same s1).get lq
        refine ⟨_, rfl, a, c.pa, dx, _, _, rfl, s1 _ _ hins, T.pac, T.pa2, paF2, _, rfl, pl, _, _, _, rfl, rfl, SqL.of h1, h2, b, c.pl, dy, _, _, rfl, hb, T.plc, T.pl3, plF3 _ _ _, ?_⟩
        refine ⟨_, rfl, _, rfl, d, _, rfl, DGet.k (k := Sum.inl (wd : Int)) hd, _, rfl, ?_⟩
        rw [valV_ws]
        cases el : lookW (at_ sc q).ways wd with
        | none =>
          refine iteF ?_
          refine ⟨_, _, rfl, s1, ?_⟩
          rw [flat_snoc _ eq]
          unfold fromQ
          rw [el, List.append_nil]
          exact hw1
        | some o =>
          have hwo := (lookW_iff (okP hs lq).nd).mp el
          have ho : okO sc o := by
            cases o with
            | none => trivial
            | some r => exact (okP hs lq).nx _ hwo r rfl
          obtain ⟨kvs, ha1, ha2⟩ := C.arr.same s1
          obtain ⟨tt, hv, htt⟩ := ha2 o ho
          have eq2 : fromQ sc p wd q = stT (comesTo sc p [o]) := by
            unfold fromQ
            rw [el]
          refine iteT ?_
          refine ⟨_, rfl, .inl ⟨rfl, _, SqL.of hw1⟩, ?_⟩
          refine ⟨_, rfl, a, c.pa, dx, _, _, rfl, s1 _ _ hins, T.pac, T.pa3, paF3, _, rfl, _, rfl, d, V.int (encO o), rfl, ?_, ?_⟩
          · have := DGet.k (k := Sum.inl (wd : Int)) hd
            rw [valV_ws, el] at this
            exact this
          refine ⟨ar, .ref tt, rfl, ?_, ?_⟩
          · have := DGet.k (k := Sum.inl (encO o)) ha1
            rw [hv] at this
            exact this
          have f1 := fl (i + 1)
          rw [flat_snoc _ eq, List.length_append, eq2] at f1
          refine ⟨W, tt, _, _, rfl, rfl, hw1, SqT.of htt, ?_, ?_⟩
          · rw [List.length_map, List.length_map]
            exact Nat.le_of_lt (small (by omega))
          · refine ⟨_, _, rfl, fun b' o' e => ?_, ?_⟩
            · rw [upd_ne (ne_of_none e hW)]
              exact s1 _ _ e
            · rw [upd_same, flat_snoc _ eq, eq2, List.map_append]
    · rintro σ H1 ⟨v, v2, rfl, s1, hw1⟩
      rw [List.length_map, List.length_map, List.take_length] at hw1
      have f1 := fl x.places.length
      rw [List.take_length] at f1
      refine ⟨_, rfl, W, _, rfl, SqL.of hw1, ?_, fun p2 hp2 => ⟨p2, _, rfl, upd_same, fun ns p3 hpm hsr hp3 => ?_⟩⟩
      · have : (2000 : Nat) < scanBound := by decide
        omega
      have s2 := Same.upd (H := H1) (o := setO P w p2 (onceI (x.places.flatMap (fromQ sc p wd)))) hp2
      have s3 := Same.upd (o := .lst (ns.map V.int)) hp3
      have en := behind_made hs fx (w := wd) (ks := onceI (x.places.flatMap (fromQ sc p wd))) (fun z => by rw [onceI_mem, mem_from hs fx]) (onceI_nd _) hpm hsr
      subst en
      refine ⟨p3, _, rfl, .inl ⟨SqL.of upd_same, fun p4 hp4 => ?_⟩⟩
      exact k _ p4 (((s1.trans s2).trans s3).free hp4) (((s1.trans s2).trans s3).trans (Same.upd hp4)) upd_same
end
end Tk
end
section
set_option Elab.async false
set_option linter.all false
set_option maxRecDepth 100000
namespace Tk
open PySem PySem.Spec PyProof.Rows L2
open Kh292 (Script State at_ takesPart okScript comesTo never wordsAt)
def keyT (x : State) : List Key := (stT x).map Sum.inl
theorem keyT_V (x : State) : (keyT x).map kV = (stT x).map V.int := by
  unfold keyT
  rw [List.map_map]
  rfl
def numLk : Nat → List State → List (List Key × V)
  | _, [] => []
  | k, x :: l => (keyT x, V.int (k : Nat)) :: numLk (k + 1) l
def numL (l : List State) : List (List Key × V) := numLk 0 l
theorem numLk_snoc : ∀ (l : List State) (k : Nat) (y : State), numLk k (l ++ [y]) = numLk k l ++ [(keyT y, V.int ((k + l.length : Nat) : Int))]
  | [], k, y => rfl
  | x :: l, k, y => by
    show (keyT x, V.int (k : Nat)) :: numLk (k + 1) (l ++ [y]) = _
    rw [numLk_snoc l (k + 1) y, List.length_cons, show k + 1 + l.length = k + (l.length + 1) by omega]
    rfl
theorem numLk_len : ∀ (l : List State) (k : Nat), (numLk k l).length = l.length
  | [], _ => rfl
  | x :: l, k => by
    show (numLk (k + 1) l).length + 1 = _
    rw [numLk_len l (k + 1)]
    rfl
theorem keyT_inj {s : Script} (hs : okScript s = true) {p : Nat} {x y : State} (fx : Fine s p x) (fy : Fine s p y) (h : keyT x = keyT y) : x = y := by
  refine stT_inj (fx.lt255 hs) (fy.lt255 hs) ?_
  unfold keyT at h
  exact (List.map_inj_right fun a b e => Sum.inl.inj e).mp h
theorem numLk_none {s : Script} (hs : okScript s = true) {p : Nat} : ∀ (l : List State) (k : Nat) {y : State}, (∀ x ∈ l, Fine s p x) → Fine s p y → y ∉ l → valV (numLk k l) (keyT y) = none
  | [], _, _, _, _, _ => rfl
  | x :: l, k, y, hl, fy, h => by
    rw [List.mem_cons, not_or] at h
    show valV ((keyT x, V.int (k : Nat)) :: numLk (k + 1) l) (keyT y) = none
    rw [valV_neg (fun e => h.1 (keyT_inj hs (hl x (by simp)) fy e).symm)]
    exact numLk_none hs l (k + 1) (fun z hz => hl z (List.mem_cons_of_mem _ hz)) fy h.2
theorem numLk_some {s : Script} (hs : okScript s = true) {p : Nat} : ∀ (l : List State) (k i : Nat) {y : State}, (∀ x ∈ l, Fine s p x) → l.Nodup → l[i]? = some y → valV (numLk k l) (keyT y) = some (V.int ((k + i : Nat) : Int))
  | [], _, i, _, _, _, h => by simp at h
  | x :: l, k, i, y, hl, nd, h => by
    rw [List.nodup_cons] at nd
    show valV ((keyT x, V.int (k : Nat)) :: numLk (k + 1) l) (keyT y) = _
    cases i with
    | zero =>
      have e : x = y := by simpa using h
      subst e
      exact valV_pos rfl
    | succ i =>
      have h' : l[i]? = some y := by simpa using h
      have my := List.mem_of_getElem? h'
      rw [valV_neg (fun e => nd.1 (by rw [keyT_inj hs (hl x (by simp)) (hl y (List.mem_cons_of_mem _ my)) e]; exact my))]
      rw [numLk_some hs l (k + 1) i (fun z hz => hl z (List.mem_cons_of_mem _ hz)) nd.2 h', show k + 1 + i = k + (i + 1) by omega]
structure RD where
  kind : Nat
  other : Nat
  ws : List (Nat × Nat)
def rdK (ws : List (Nat × Nat)) : List (Int × V) := ws.map fun w => ((w.1 : Int), V.int (w.2 : Int))
def RowAt (c : Cs) (H : Hp) (r : Addr) (rd : RD) : Prop := ∃ dx d, H r = some (.ins c.ro dx (roF rd.kind rd.other d)) ∧ H d = some (.dK (iK (rdK rd.ws)))
structure RowOk (s : Script) (p : Nat) (l : List State) (x : State) (rd : RD) : Prop where
  kind : rd.kind = Kh292.kind s p x
  other : rd.other = Kh292.other s p x
  words : rd.ws.map Prod.fst = Kh292.words s x
  next : ∀ w ∈ rd.ws, l[w.2]? = some (Kh292.behind s p x w.1)
def RwsAt (c : Cs) (H : Hp) (a : Addr) (rds : List RD) : Prop := ∃ rs : List Addr, H a = some (.lst (rs.map V.ref)) ∧ rs.length = rds.length ∧ ∀ (i : Nat) (r : Addr), rs[i]? = some r → ∃ rd, rds[i]? = some rd ∧ RowAt c H r rd
def StsAt (H : Hp) (a : Addr) (l : List State) : Prop := ∃ ts : List Addr, H a = some (.lst (ts.map V.ref)) ∧ ts.length = l.length ∧ ∀ (i : Nat) (t : Addr), ts[i]? = some t → ∃ x, l[i]? = some x ∧ TupAt H t x
structure PartAt (c : Cs) (H0 H : Hp) (a : Addr) (s : Script) (p : Nat) (pl ar st nu rw : Addr) (l : List State) (rds : List RD) : Prop where
  same : Same H0 H
  na : H0 a = none
  ns : H0 st = none
  nn : H0 nu = none
  nr : H0 rw = none
  con : PartC c H a s p pl ar st nu rw
  ne : st ≠ rw
  npl : pl ≠ st
  npr : pl ≠ rw
  pl0 : PlacesAt c H0 pl s
  sts : StsAt H st l
  nus : H nu = some (.dT (numL l))
  fine : ∀ x ∈ l, Fine s p x
  nd : l.Nodup
  rws : RwsAt c H rw rds
def But2 (x y : Addr) (H H' : Hp) : Prop := ∀ b o, H b = some o → b ≠ x → b ≠ y → H' b = some o
def spNumber (c : Cs) : Sp := fun vs H Q E => ∃ (a t : Addr) (H0 : Hp) (s : Script) (p : Nat) (pl ar st nu rw : Addr) (l : List State) (rds : List RD) (y : State), vs = [.ref a, .ref t] ∧ PartAt c H0 H a s p pl ar st nu rw l rds ∧ okScript s = true ∧ TupAt H t y ∧ Fine s p y ∧ l.length ≤ 64 ∧
  (∀ i : Nat, l[i]? = some y → Q (.int (i : Int)) H) ∧ (y ∉ l → l.length = 64 → E (.ref c.tm) none H) ∧ (y ∉ l → l.length < 64 → ∀ H', PartAt c H0 H' a s p pl ar st nu rw (l ++ [y]) rds → But2 st nu H H' → Q (.int (l.length : Int)) H')
section
variable {P : Program} {w : World} {K : PySem.W.Frag} {mg : Str → Option Value} {base : Heap} {c : Cs}
theorem PlaceAt.but {x y : Addr} {H H' : Hp} {a : Addr} {z : Pc} (h : PlaceAt c H a z) (k : But2 x y H H') (hx : ∀ C dx fs, H x ≠ some (.ins C dx fs)) (hy : ∀ C dx fs, H y ≠ some (.ins C dx fs)) (hx2 : ∀ kvs, H x ≠ some (.dK kvs)) (hy2 : ∀ kvs, H y ≠ some (.dK kvs)) : PlaceAt c H' a z := by
  obtain ⟨dx, d, h1, h2⟩ := h
  exact ⟨dx, d, k _ _ h1 (fun e => hx _ _ _ (e ▸ h1)) (fun e => hy _ _ _ (e ▸ h1)), k _ _ h2 (fun e => hx2 _ (e ▸ h2)) (fun e => hy2 _ (e ▸ h2))⟩
structure Odd (H : Hp) (x : Addr) : Prop where
  i : ∀ C dx fs, H x ≠ some (.ins C dx fs)
  d : ∀ kvs, H x ≠ some (.dK kvs)
  t : ∀ ys, H x ≠ some (.tup ys)
theorem Odd.lst {H : Hp} {x : Addr} {xs : List V} (h : H x = some (.lst xs)) : Odd H x := ⟨fun _ _ _ e => (by rw [h] at e; cases e), fun _ e => (by rw [h] at e; cases e), fun _ e => (by rw [h] at e; cases e)⟩
theorem Odd.dT {H : Hp} {x : Addr} {kvs : List (List Key × V)} (h : H x = some (.dT kvs)) : Odd H x := ⟨fun _ _ _ e => (by rw [h] at e; cases e), fun _ e => (by rw [h] at e; cases e), fun _ e => (by rw [h] at e; cases e)⟩
theorem PartC.but {x y : Addr} {H H' : Hp} {a : Addr} {s : Script} {p : Nat} {pl ar st nu rw : Addr} (C : PartC c H a s p pl ar st nu rw) (k : But2 x y H H') (ox : Odd H x) (oy : Odd H y) (nx : pl ≠ x) (ny : pl ≠ y) : PartC c H' a s p pl ar st nu rw := by
  refine ⟨?_, ?_, ?_⟩
  · obtain ⟨dx, h⟩ := C.ins
    exact ⟨dx, k _ _ h (fun e => ox.i _ _ _ (e ▸ h)) (fun e => oy.i _ _ _ (e ▸ h))⟩
  · obtain ⟨as, h1, h2, h3⟩ := C.pls
    exact ⟨as, k _ _ h1 nx ny, h2, fun i b e => (h3 i b e).but k ox.i oy.i ox.d oy.d⟩
  · obtain ⟨kvs, h1, h2⟩ := C.arr
    exact ⟨kvs, k _ _ h1 (fun e => ox.d _ (e ▸ h1)) (fun e => oy.d _ (e ▸ h1)), fun o ho => let ⟨t, a1, a2⟩ := h2 o ho; ⟨t, a1, k _ _ a2 (fun e => ox.t _ (e ▸ a2)) (fun e => oy.t _ (e ▸ a2))⟩⟩
theorem RowAt.but {x y : Addr} {H H' : Hp} {r : Addr} {rd : RD} (h : RowAt c H r rd) (k : But2 x y H H') (ox : Odd H x) (oy : Odd H y) : RowAt c H' r rd := by
  obtain ⟨dx, d, h1, h2⟩ := h
  exact ⟨dx, d, k _ _ h1 (fun e => ox.i _ _ _ (e ▸ h1)) (fun e => oy.i _ _ _ (e ▸ h1)), k _ _ h2 (fun e => ox.d _ (e ▸ h2)) (fun e => oy.d _ (e ▸ h2))⟩
theorem RwsAt.but {x y : Addr} {H H' : Hp} {a : Addr} {rds : List RD} (h : RwsAt c H a rds) (k : But2 x y H H') (ox : Odd H x) (oy : Odd H y) (nx : a ≠ x) (ny : a ≠ y) : RwsAt c H' a rds := by
  obtain ⟨rs, h1, h2, h3⟩ := h
  exact ⟨rs, k _ _ h1 nx ny, h2, fun i r e => let ⟨rd, a1, a2⟩ := h3 i r e; ⟨rd, a1, a2.but k ox oy⟩⟩
theorem StsAt.get {H : Hp} {a : Addr} {l : List State} (h : StsAt H a l) {i : Nat} {x : State} (e : l[i]? = some x) : ∃ (xs : List V) (t : Addr), H a = some (.lst xs) ∧ atI xs (i : Int) = some (.ref t) ∧ TupAt H t x := by
  obtain ⟨ts, h1, h2, h3⟩ := h
  have lt : i < ts.length := by
    rw [h2]
    exact (List.getElem?_eq_some_iff.mp e).1
  obtain ⟨x', a1, a2⟩ := h3 i ts[i] (List.getElem?_eq_getElem lt)
  rw [e] at a1
  cases a1
  exact ⟨_, ts[i], h1, atI_refs (List.getElem?_eq_getElem lt), a2⟩
theorem sc_number : FnScope ["self", "state"] ["self", "state"] (defScope s_Part_number_of) := ⟨rfl, rfl, rfl, by decide +kernel, rfl, by decide +kernel, by decide +kernel⟩
theorem ok_number {f : Addr} {fd : FuncData} (F : Fun K "number_of" "Part.number_of" s_Part_number_of f fd) (T : Txt K mg c) : FnOk P w K mg base (CXe P w) 1 f fd ["self", "state"] (spNumber c) := by
  refine F.okE sc_number (fun vs H Q E h => ?_) (fun cdv A outer s H vs Q E hr h => ?_)
  · obtain ⟨a, t, H0, sc, p, pl, ar, st, nu, rw, l, rds, y, rfl, _⟩ := h
    rfl
  · obtain ⟨a, t, H0, sc, p, pl, ar, st, nu, rw, l, rds, y, rfl, PA, hs, ht, fy, l64, k1, k2, k3⟩ := h
    have hu := hu_of hr
    obtain ⟨dx, hins⟩ := PA.con.ins
    obtain ⟨ts, ht1, ht2, ht3⟩ := id PA.sts
    have ht' : H t = some (.tup ((keyT y).map kV)) := by
      rw [keyT_V]
      exact ht
    refine ⟨_, pss_cons (ps_if (pt_cmp (pc_dnotin hu (pv 1) (pe_fld (pv 0) rfl)))
        (pss_cons (ps_if (pt_cmpR op_eq (pe_callB call_len_seq rfl T.len PySem.boot_len (pa_cons (pe_fld (pv 0) rfl) pa_nil)) (pe_gl rfl T.MOSTS) (nomark _)) (pss_one (ps_raise T.tmx rfl)) pss_nil)
        (pss_cons (ps_dput hu (pe_fld (pv 0) rfl) (pv 1) (pe_callB call_len_seq rfl T.len PySem.boot_len (pa_cons (pe_fld (pv 0) rfl) pa_nil)) rfl)
        (pss_one (ps_expr (pe_bm PySem.F.plainAttrs_list PySem.F.slot_list_append PySem.F.type_list_append mt_append (pe_fld (pv 0) rfl) (pa_cons (pv 1) pa_nil)))))) pss_nil)
      (pss_one (ps_ret (pe_dget hu (pe_fld (pv 0) rfl) (pv 1) (fun _ _ => rfl)))), ?_⟩
    refine ⟨_, rfl, _, rfl, a, c.pa, dx, _, _, rfl, hins, T.pac, T.pa5, paF5, nu, _, rfl, DGet.t PA.nus ht', _, rfl, ?_⟩
    by_cases hy : y ∈ l
    · obtain ⟨i, hi⟩ := List.mem_iff_getElem?.mp hy
      have hv := numLk_some hs l 0 i PA.fine PA.nd hi
      rw [Nat.zero_add] at hv
      rw [show valV (numL l) (keyT y) = some (V.int (i : Int)) from hv]
      refine iteF ?_
      refine ⟨_, rfl, a, c.pa, dx, _, _, rfl, hins, T.pac, T.pa5, paF5, _, rfl, nu, V.int (i : Int), rfl, ?_, k1 i hi⟩
      have := DGet.t PA.nus ht'
      rw [show valV (numL l) (keyT y) = some (V.int (i : Int)) from hv] at this
      exact this
    · have hv : valV (numL l) (keyT y) = none := numLk_none hs l 0 PA.fine fy hy
      rw [hv]
      refine iteT ?_
      refine ⟨_, rfl, a, c.pa, dx, _, _, rfl, hins, T.pac, T.pa4, paF4, st, _, rfl, .inl (SqL.of ht1), rfl, _, rfl, ?_⟩
      rw [List.length_map, ht2]
      refine ite3 (fun e => ?_) fun e => ?_
      · have e64 : l.length = 64 := by
          have := V.int.inj e
          omega
        exact k2 hy e64
      have lt : l.length < 64 := by
        have : l.length ≠ 64 := fun q => e (by rw [q]; rfl)
        omega
      refine ⟨_, rfl, a, c.pa, dx, _, _, rfl, hins, T.pac, T.pa4, paF4, st, _, rfl, .inl (SqL.of ht1), ?_⟩
      rw [List.length_map, ht2]
      refine ⟨_, rfl, a, c.pa, dx, _, _, rfl, hins, T.pac, T.pa5, paF5, _, rfl, nu, _, rfl, DPut.t PA.nus ht' (by rw [show (numL l).length = l.length from numLk_len l 0]; exact small (by omega)), ?_⟩
      have ep : putK (numL l) (keyT y) (V.int (l.length : Int)) = numL (l ++ [y]) := by
        rw [putK_new _ hv]
        show _ = numLk 0 (l ++ [y])
        rw [numLk_snoc, Nat.zero_add]
        rfl
      rw [ep]
      have nsn : st ≠ nu := ne_of ht1 PA.nus (by intro q; cases q)
      have b1 : But2 st nu H (upd H nu (.dT (numL (l ++ [y])))) := fun b o e _ h2 => by rw [upd_ne h2]; exact e
      have hst1 : (upd H nu (.dT (numL (l ++ [y])))) st = some (.lst (ts.map V.ref)) := by
        rw [upd_ne nsn]
        exact ht1
      have hins1 : (upd H nu (.dT (numL (l ++ [y])))) a = some (.ins c.pa dx (paF p pl ar st nu rw)) := by
        rw [upd_ne (ne_of hins PA.nus (by intro q; cases q))]
        exact hins
      have hnu1 := upd_same (H := H) (a := nu) (o := .dT (numL (l ++ [y])))
      generalize upd H nu (.dT (numL (l ++ [y]))) = H1 at b1 hst1 hins1 hnu1 ⊢
      refine ⟨_, rfl, a, c.pa, dx, _, _, rfl, hins1, T.pac, T.pa4, paF4, .inl ⟨rfl, _, SqL.of hst1⟩, _, rfl, st, _, _, rfl, rfl, hst1, (by rw [List.length_map, ht2]; exact small (by omega)), ?_⟩
      have b2 : But2 st nu H (upd H1 st (.lst (ts.map V.ref ++ [.ref t]))) := fun b o e h1 h2 => by rw [upd_ne h1]; exact b1 b o e h1 h2
      have hst2 := upd_same (H := H1) (a := st) (o := .lst (ts.map V.ref ++ [.ref t]))
      have hnu2 : (upd H1 st (.lst (ts.map V.ref ++ [.ref t]))) nu = some (.dT (numL (l ++ [y]))) := by
        rw [upd_ne nsn.symm]
        exact hnu1
      have hins2 : (upd H1 st (.lst (ts.map V.ref ++ [.ref t]))) a = some (.ins c.pa dx (paF p pl ar st nu rw)) := by
        rw [upd_ne (ne_of hins1 hst1 (by intro q; cases q))]
        exact hins1
      generalize upd H1 st (.lst (ts.map V.ref ++ [.ref t])) = H2 at b2 hst2 hnu2 hins2 ⊢
      have os := Odd.lst ht1
      have on := Odd.dT PA.nus
      have tb : ∀ z x, TupAt H z x → TupAt H2 z x := fun z x h => b2 _ _ h (fun e => os.t _ (e ▸ h)) (fun e => on.t _ (e ▸ h))
      have ht2' : H2 t = some (.tup ((keyT y).map kV)) := b2 _ _ ht' (fun e => os.t _ (e ▸ ht')) (fun e => on.t _ (e ▸ ht'))
      have npn : pl ≠ nu := by
        obtain ⟨as, hp1, _⟩ := PA.con.pls
        exact ne_of hp1 PA.nus (by intro q; cases q)
      have nrn : rw ≠ nu := by
        obtain ⟨rs, hp1, _⟩ := PA.rws
        exact ne_of hp1 PA.nus (by intro q; cases q)
      have PA2 : PartAt c H0 H2 a sc p pl ar st nu rw (l ++ [y]) rds := by
        refine ⟨fun b o e => b2 b o (PA.same b o e) (fun q => ?_) (fun q => ?_), PA.na, PA.ns, PA.nn, PA.nr, PA.con.but b2 os on PA.npl npn, PA.ne, PA.npl, PA.npr, PA.pl0, ⟨ts ++ [t], by rw [hst2, List.map_append]; rfl, by rw [List.length_append, List.length_append, ht2]; rfl, fun i z hz => ?_⟩, hnu2, fun x hx => ?_, ?_, PA.rws.but b2 os on PA.ne.symm nrn⟩
        · rw [q, PA.ns] at e
          cases e
        · rw [q, PA.nn] at e
          cases e
        · by_cases hi : i < ts.length
          · rw [List.getElem?_append_left hi] at hz
            obtain ⟨x, a1, a2⟩ := ht3 i z hz
            exact ⟨x, by rw [List.getElem?_append_left (by rw [← ht2]; exact hi)]; exact a1, tb _ _ a2⟩
          · rw [List.getElem?_append_right (by omega)] at hz
            have e : i - ts.length = 0 := by
              have := (List.getElem?_eq_some_iff.mp hz).1
              simp at this
              omega
            rw [e] at hz
            have e2 : t = z := by simpa using hz
            subst e2
            exact ⟨y, by rw [List.getElem?_append_right (by rw [← ht2]; omega), ← ht2, e]; rfl, tb _ _ ht⟩
        · rcases List.mem_append.mp hx with h | h
          · exact PA.fine x h
          · rw [List.mem_singleton.mp h]
            exact fy
        · rw [List.nodup_append]
          exact ⟨PA.nd, by simp, fun u hu v hv e => hy (by rw [← List.mem_singleton.mp hv, ← e]; exact hu)⟩
      refine ⟨_, rfl, a, c.pa, dx, _, _, rfl, hins2, T.pac, T.pa5, paF5, _, rfl, nu, V.int (l.length : Int), rfl, ?_, k3 hy lt H2 PA2 b2⟩
      have := DGet.t hnu2 ht2'
      rw [show valV (numL (l ++ [y])) (keyT y) = some (V.int (l.length : Int)) from by
        have := numLk_some hs (l ++ [y]) 0 l.length (y := y) PA2.fine PA2.nd (by simp)
        rw [Nat.zero_add] at this
        exact this] at this
      exact this
end
end Tk
end
section
set_option Elab.async false
set_option linter.all false
set_option maxRecDepth 100000
namespace Tk
open PySem PySem.Spec PyProof.Rows L2
open Kh292 (Script State at_ takesPart okScript comesTo never wordsAt)
theorem add_append (s : Script) (p : Nat) (x : State) : ∀ (a b : List Nat) (l : List State), Kh292.add s p x (a ++ b) l = (Kh292.add s p x a l).bind (Kh292.add s p x b)
  | [], b, l => rfl
  | w :: a, b, l => by
    show Kh292.add s p x (w :: (a ++ b)) l = (Kh292.add s p x (w :: a) l).bind _
    unfold Kh292.add
    dsimp only
    split
    · exact add_append s p x a b l
    · split
      · rfl
      · exact add_append s p x a b _
theorem add_one (s : Script) (p : Nat) (x : State) (w : Nat) (l : List State) : Kh292.add s p x [w] l = if l.contains (Kh292.behind s p x w) then some l else if 64 ≤ l.length then none else some (l ++ [Kh292.behind s p x w]) := by
  unfold Kh292.add
  dsimp only
  split
  · rfl
  · split
    · rfl
    · rfl
def spRow (c : Cs) : Sp := fun vs H Q E => ∃ (a t : Addr) (H0 : Hp) (s : Script) (p : Nat) (pl ar st nu rw : Addr) (l : List State) (rds : List RD) (x : State), vs = [.ref a, .ref t] ∧ PartAt c H0 H a s p pl ar st nu rw l rds ∧ okScript s = true ∧ TupAt H t x ∧ Fine s p x ∧ l.length ≤ 64 ∧
  (Kh292.fault s p x ≠ 0 → ∀ H', Same H0 H' → E (.ref c.un) none H') ∧
  (Kh292.fault s p x = 0 → 16 < (Kh292.words s x).length → ∀ H', Same H0 H' → E (.ref c.tm) none H') ∧
  (Kh292.fault s p x = 0 → (Kh292.words s x).length ≤ 16 → Kh292.add s p x (Kh292.words s x) l = none → ∀ H', Same H0 H' → E (.ref c.tm) none H') ∧
  (Kh292.fault s p x = 0 → (Kh292.words s x).length ≤ 16 → ∀ m, Kh292.add s p x (Kh292.words s x) l = some m → ∀ H' r rd, PartAt c H0 H' a s p pl ar st nu rw m rds → RowAt c H' r rd → RowOk s p m x rd → m.length ≤ 64 → (∀ (j : Nat) y, l[j]? = some y → m[j]? = some y) → Q (.ref r) H')
theorem StsAt.same {H H' : Hp} {a : Addr} {l : List State} (h : StsAt H a l) (k : Same H H') : StsAt H' a l := let ⟨ts, h1, h2, h3⟩ := h; ⟨ts, k _ _ h1, h2, fun i t e => let ⟨x, a1, a2⟩ := h3 i t e; ⟨x, a1, k _ _ a2⟩⟩
section
variable {P : Program} {w : World} {K : PySem.W.Frag} {mg : Str → Option Value} {base : Heap} {c : Cs}
theorem PartAt.re {H0 Hb H' : Hp} {a : Addr} {s : Script} {p : Nat} {pl ar st nu rw : Addr} {l l' : List State} {rds : List RD} (x : PartAt c H0 Hb a s p pl ar st nu rw l rds) (k : But2 st nu Hb H') (sts : StsAt H' st l') (nus : H' nu = some (.dT (numL l'))) (fine : ∀ x ∈ l', Fine s p x) (nd : l'.Nodup) : PartAt c H0 H' a s p pl ar st nu rw l' rds := by
  obtain ⟨ts, ht1, _⟩ := x.sts
  have os := Odd.lst ht1
  have on := Odd.dT x.nus
  have npn : pl ≠ nu := by
    obtain ⟨as, hp1, _⟩ := x.con.pls
    exact ne_of hp1 x.nus (by intro q; cases q)
  have nrn : rw ≠ nu := by
    obtain ⟨rs, hp1, _⟩ := x.rws
    exact ne_of hp1 x.nus (by intro q; cases q)
  refine ⟨fun b o e => k b o (x.same b o e) (fun q => ?_) (fun q => ?_), x.na, x.ns, x.nn, x.nr, x.con.but k os on x.npl npn, x.ne, x.npl, x.npr, x.pl0, sts, nus, fine, nd, x.rws.but k os on x.ne.symm nrn⟩
  · rw [q, x.ns] at e
    cases e
  · rw [q, x.nn] at e
    cases e
theorem PartAt.on {H0 H H' : Hp} {a : Addr} {s : Script} {p : Nat} {pl ar st nu rw : Addr} {l : List State} {rds : List RD} (x : PartAt c H0 H a s p pl ar st nu rw l rds) (k : Same H H') : PartAt c H0 H' a s p pl ar st nu rw l rds :=
  x.re (fun b o e _ _ => k b o e) (x.sts.same k) (k _ _ x.nus) x.fine x.nd
theorem rdK_fst (ws : List (Nat × Nat)) : (rdK ws).map (·.1) = (ws.map Prod.fst).map Int.ofNat := by
  unfold rdK
  rw [List.map_map, List.map_map]
  rfl
theorem words_nd (s : Script) (x : State) : (Kh292.words s x).Nodup := by
  unfold Kh292.words
  exact List.Pairwise.filter _ List.nodup_range
theorem sc_row : FnScope ["self", "state", "kind", "words", "behind", "word", "first"] ["self", "state"] (defScope s_Part_row_of) := ⟨rfl, rfl, rfl, by decide +kernel, rfl, by decide +kernel, by decide +kernel⟩
set_option maxHeartbeats 1000000 in
theorem ok_row {f fk fw fb fn fr : Addr} {fd fdk fdw fdb fdn fdr : FuncData} (F : Fun K "row_of" "Part.row_of" s_Part_row_of f fd) (T : Txt K mg c) (GK : Me P w K mg base c.pa "kind_of" 3 ["self", "state"] (spKind c) fk fdk) (GW : Me P w K mg base c.pa "words_of" 1 ["self", "state"] (spWords c) fw fdw)
    (GB : Me P w K mg base c.pa "state_behind" 1 ["self", "state", "word"] (spBehind c) fb fdb) (GN : Me P w K mg base c.pa "number_of" 1 ["self", "state"] (spNumber c) fn fdn) (GR : Mr P w K mg base "Row" c.ro 1 ["self", "kind", "other", "behind"] (spRowInit c) fr fdr) :
    FnOk P w K mg base (CXe P w) 4 f fd ["self", "state"] (spRow c) := by
  refine F.okE sc_row (fun vs H Q E h => ?_) (fun cdv A outer s H vs Q E hr h => ?_)
  · obtain ⟨a, t, H0, sc, p, pl, ar, st, nu, rw, l, rds, x, rfl, _⟩ := h
    rfl
  · obtain ⟨a, t, H0, sc, p, pl, ar, st, nu, rw, l, rds, x, rfl, PA, hs, ht, fx, l64, kf, kw, ka, kq⟩ := h
    have hu := hu_of hr
    have nd := sc_row.nd
    have hr1 : Room 1 _ := hr.mono (by decide)
    have hr2 : Room 2 _ := hr.mono (by decide)
    obtain ⟨dx, hins⟩ := PA.con.ins
    refine ⟨_, pss_cons (ps_set (i := 2) nd rfl (Or.inl rfl) (pe_meth (pv 0) T.pac GK.me GK.ok hr GK.bi .nil passE' (pa_cons (pv 1) pa_nil)))
      (pss_cons (ps_if (pt_cmpR op_eq (pv 2) (pe_gl rfl T.NOTHING) (nomark _)) (pss_one (ps_ret (pe_make GR.mkk GR.ok hr2 rfl GR.mg GR.bi .nil pass0E (pa_cons (pe_gl rfl T.NOTHING) (pa_cons pe_int (pa_cons pe_dnewK pa_nil)))))) pss_nil)
      (pss_cons (ps_set (i := 3) nd rfl (Or.inl rfl) (pe_meth (pv 0) T.pac GW.me GW.ok hr1 GW.bi .nil pass0E (pa_cons (pv 1) pa_nil)))
      (pss_cons (ps_if (pt_cmpR op_gt (pe_callB call_len_seq rfl T.len PySem.boot_len (pa_cons (pv 3) pa_nil)) (pe_gl rfl T.MOSTW) (nomark _)) (pss_one (ps_raise T.tmx rfl)) pss_nil)
      (pss_cons (ps_set (i := 4) nd rfl (Or.inl rfl) pe_dnewK)
      (pss_cons (ps_for ownE rfl (pi_list (pv 3)) (pg_name (i := 5) nd rfl (Or.inl rfl))
        (pss_one (ps_dput hu (pv 4) (pv 5) (pe_meth (pv 0) T.pac GN.me GN.ok hr1 GN.bi .nil passE' (pa_cons (pe_meth (pv 0) T.pac GB.me GB.ok hr1 GB.bi .nil pass0E (pa_cons (pv 1) (pa_cons (pv 5) pa_nil))) pa_nil)) rfl)))
      (pss_cons (ps_set (i := 6) nd rfl (Or.inl rfl) (pe_ix ix_list (pe_fld (pv 0) rfl) (pe_ix ix_tup (pv 1) pe_int (fun _ _ => rfl)) (fun _ _ => rfl)))
      (pss_one (ps_ret (pe_make GR.mkk GR.ok hr2 rfl GR.mg GR.bi .nil pass0E (pa_cons (pv 2) (pa_cons (pe_ifExp (pt_cmpR op_eq (pv 2) (pe_gl rfl T.SPEAKS) (nomark _)) (pe_fld (pv 6) rfl) (pe_fld (pv 6) rfl)) (pa_cons (pv 4) pa_nil)))))))))))), ?_⟩
    refine ⟨_, rfl, a, dx, _, rfl, hins, rfl, _, rfl, a, t, sc, p, pl, ar, st, nu, rw, x, rfl, PA.con, hs, ht, fx, fun hf H1 s1 => kf hf H1 (PA.same.trans s1), fun hf H1 s1 => ?_⟩
    have PA1 := PA.on s1
    have ht1 : TupAt H1 t x := s1 _ _ ht
    have hins1 := s1 _ _ hins
    refine ⟨_, rfl, rfl, _, rfl, ?_⟩
    have ek : decide (V.int ((Kh292.kind sc p x : Nat) : Int) = V.int 0) = decide (x.places = []) := by
      rw [Bool.eq_iff_iff, decide_eq_true_iff, decide_eq_true_iff]
      unfold Kh292.kind
      cases e : x.places with
      | nil => exact ⟨fun _ => rfl, fun _ => rfl⟩
      | cons q r =>
        constructor
        · intro h
          have h := V.int.inj h
          dsimp only at h
          split at h <;> simp at h
        · intro h
          cases h
    rw [ek]
    refine ite3 (fun e => ?_) fun e => ?_
    · obtain ⟨f0, k0, o0, w0⟩ := fault_none (s := sc) (p := p) e
      intro d hd r dr hr0 hdr ner
      have hrd : d ≠ r := (ne_of_none (upd_same (H := H1) (a := d) (o := .dK [])) hr0)
      refine ⟨r, dr, d, 0, 0, rfl, upd_same, fun H3 hr3 b3 => ⟨rfl, ?_⟩⟩
      have s2 : Same H1 (upd H1 d (.dK [])) := Same.upd hd
      have s3 : Same (upd H1 d (.dK [])) H3 := Same.made hr0 hdr b3
      refine kq hf (by rw [w0]; exact Nat.zero_le _) l (by rw [w0]; rfl) H3 r ⟨0, 0, []⟩ ((PA1.on s2).on s3) ⟨dr, d, hr3, s3 _ _ upd_same⟩ ⟨by rw [k0], by rw [o0], by rw [w0]; rfl, fun w hw => by simp at hw⟩ l64 fun j y h => h
    have hov : x.over = false := by
      cases h : x.over with
      | false => rfl
      | true => exact absurd hf (fault_over e h)
    refine ⟨_, rfl, a, dx, _, rfl, hins1, rfl, _, rfl, a, t, sc, p, pl, ar, st, nu, rw, x, rfl, PA1.con, hs, ht1, fx, hov, fun H2 WL hWL s2 hWL2 => ?_⟩
    have PA2 := PA1.on s2
    have nWs : WL ≠ st := by
      obtain ⟨ts, q1, _⟩ := PA1.sts
      exact (ne_of_none q1 hWL).symm
    refine ⟨_, rfl, WL, _, rfl, .inl (SqL.of hWL2), _, _, rfl, rfl, _, rfl, ?_⟩
    rw [List.length_map, List.length_map]
    refine ite3 (fun e2 => ?_) fun e2 => ?_
    · exact kw hf (by omega) H2 PA2.same
    have w16 : (Kh292.words sc x).length ≤ 16 := by omega
    intro bd hbd
    have sb : Same H2 (upd H2 bd (.dK [])) := Same.upd hbd
    have PAb := PA2.on sb
    have nbs : bd ≠ st := by
      obtain ⟨ts, q1, _⟩ := PA2.sts
      exact (ne_of_none q1 hbd).symm
    have nbn : bd ≠ nu := (ne_of_none PA2.nus hbd).symm
    have nbW : bd ≠ WL := (ne_of_none hWL2 hbd).symm
    have nbt : bd ≠ t := (ne_of_none (s2 _ _ ht1) hbd).symm
    have nWn : WL ≠ nu := ne_of hWL2 PA2.nus (by intro q; cases q)
    have nts : t ≠ st := by
      obtain ⟨ts, q1, _⟩ := PA2.sts
      exact ne_of (show H2 t = some _ from s2 _ _ ht1) q1 (by intro q; cases q)
    have ntn : t ≠ nu := ne_of (show H2 t = some _ from s2 _ _ ht1) PA2.nus (by intro q; cases q)
    let wsI' : List Int := (Kh292.words sc x).map Int.ofNat
    refine ⟨_, rfl, WL, rfl, ⟨_, SqL.of (sb _ _ hWL2)⟩, for_list (K := K) (a := WL) (xs := ((Kh292.words sc x).map Int.ofNat).map V.int) (fun i σ H' => ∃ (v : Option V) (l' : List State) (ws : List (Nat × Nat)), σ = [some (.ref a), some (.ref t), some (.int (Kh292.kind sc p x : Nat)), some (.ref WL), some (.ref bd), v, none] ∧
      But2 st nu H2 H' ∧ StsAt H' st l' ∧ H' nu = some (.dT (numL l')) ∧ (∀ y ∈ l', Fine sc p y) ∧ l'.Nodup ∧ H' bd = some (.dK (iK (rdK ws))) ∧ Kh292.add sc p x ((Kh292.words sc x).take i) l = some l' ∧ ws.map Prod.fst = (Kh292.words sc x).take i ∧ (∀ z ∈ ws, l'[z.2]? = some (Kh292.behind sc p x z.1)) ∧ l'.length ≤ 64 ∧ (∀ (j : Nat) y, l[j]? = some y → l'[j]? = some y)) ⟨none, l, [], rfl, fun b o e _ _ => sb _ _ e, PAb.sts, PAb.nus, PA.fine, PA.nd, upd_same, rfl, rfl, fun z hz => by simp at hz, l64, fun j y h => h⟩ (fun i σ H' _ h => ?_) ?_ ?_⟩
    · obtain ⟨_, _, _, _, b2, _⟩ := h
      exact SqL.of (b2 _ _ hWL2 nWs nWn)
    · rintro i y σ H3 hi ⟨v, l', ws, rfl, b2, sts, nus, fine, ndl, hbd3, hadd, hws, hnx, l64', hpre⟩
      rw [List.getElem?_map, List.getElem?_map] at hi
      cases eq : (Kh292.words sc x)[i]? with
      | none =>
        rw [eq] at hi
        cases hi
      | some wd =>
        rw [eq] at hi
        have ex : V.int (wd : Int) = y := Option.some.inj hi
        subst ex
        have PA3 : PartAt c H0 H3 a sc p pl ar st nu rw l' rds := PA2.re b2 sts nus fine ndl
        obtain ⟨dx3, hins3⟩ := PA3.con.ins
        have ht3 : TupAt H3 t x := b2 _ _ (s2 _ _ ht1) nts ntn
        have mw := List.mem_of_getElem? eq
        refine ⟨_, rfl, a, dx3, _, rfl, hins3, rfl, ?_⟩
        refine ⟨_, rfl, a, dx3, _, rfl, hins3, rfl, _, rfl, _, rfl, a, t, sc, p, pl, ar, st, nu, rw, x, wd, rfl, PA3.con, hs, ht3, fx, hov, fun H4 t4 ht40 s4 ht4 => ?_⟩
        have PA4 := PA3.on s4
        have fy := fine_behind hs fx mw
        have wnotin : wd ∉ ws.map Prod.fst := by
          rw [hws]
          intro hm
          obtain ⟨j, hj⟩ := List.mem_iff_getElem?.mp hm
          have lt : j < i := by
            have := (List.getElem?_eq_some_iff.mp hj).1
            rw [List.length_take] at this
            omega
          rw [List.getElem?_take_of_lt lt] at hj
          have := nd_ix (words_nd sc x) hj eq
          omega
        have ep : ∀ j : Nat, putK (iK (rdK ws)) (Sum.inl (wd : Int)) (V.int (j : Int)) = iK (rdK (ws ++ [(wd, j)])) := fun j => by
          rw [putK_inl _ (by
            rw [rdK_fst]
            intro hm
            obtain ⟨z, hz, e⟩ := List.mem_map.mp hm
            exact wnotin (Int.ofNat.inj e ▸ hz))]
          unfold rdK
          rw [List.map_append]
          rfl
        have wlen : (iK (rdK ws)).length < sizeLine := by
          rw [iK_len]
          have : ws.length = min i (Kh292.words sc x).length := by
            have := congrArg List.length hws
            rw [List.length_map, List.length_take] at this
            exact this
          unfold rdK
          rw [List.length_map]
          exact small (by omega)
        have hsnoc : Kh292.add sc p x ((Kh292.words sc x).take (i + 1)) l = Kh292.add sc p x [wd] l' := by
          rw [take_nx eq, add_append, hadd]
          rfl
        refine ⟨a, t4, H0, sc, p, pl, ar, st, nu, rw, l', rds, _, rfl, PA4, hs, ht4, fy, l64', fun j hj => ?_, fun hn h64 => ?_, fun hn h64 H5 PA5 b5 => ?_⟩
        · have hbd4 := s4 _ _ hbd3
          refine ⟨_, rfl, _, rfl, bd, _, rfl, DPut.k (k := Sum.inl (wd : Int)) hbd4 wlen, ?_⟩
          rw [ep j]
          refine ⟨_, l', ws ++ [(wd, j)], rfl, fun b o e h1 h2 => ?_, ?_, ?_, fine, ndl, upd_same, ?_, ?_, ?_, l64', hpre⟩
          · rw [upd_ne (ne_of_none e hbd)]
            exact s4 _ _ (b2 _ _ e h1 h2)
          · obtain ⟨ts, q1, q2, q3⟩ := PA4.sts
            exact ⟨ts, by rw [upd_ne nbs.symm]; exact q1, q2, fun i' t' e => let ⟨x', a1, a2⟩ := q3 i' t' e; ⟨x', a1, by show upd H4 bd _ t' = _; rw [upd_ne (ne_of (show H4 t' = some _ from a2) hbd4 (by intro q; cases q))]; exact a2⟩⟩
          · rw [upd_ne nbn.symm]
            exact PA4.nus
          · rw [hsnoc, add_one, if_pos (List.contains_iff_mem.mpr (List.mem_of_getElem? hj))]
          · rw [List.map_append, hws, take_nx eq]
            rfl
          · intro z hz
            rcases List.mem_append.mp hz with h | h
            · exact hnx z h
            · rw [List.mem_singleton.mp h]
              exact hj
        · have hnone : Kh292.add sc p x (Kh292.words sc x) l = none := by
            rw [← List.take_append_drop (i + 1) (Kh292.words sc x), add_append, hsnoc, add_one, if_neg (by rw [List.contains_iff_mem]; exact hn), if_pos (by omega)]
            rfl
          exact ka hf w16 hnone H4 PA4.same
        · have hbd5 : H5 bd = some (.dK (iK (rdK ws))) := b5 _ _ (s4 _ _ hbd3) nbs nbn
          refine ⟨_, rfl, _, rfl, bd, _, rfl, DPut.k (k := Sum.inl (wd : Int)) hbd5 wlen, ?_⟩
          rw [ep l'.length]
          refine ⟨_, l' ++ [Kh292.behind sc p x wd], ws ++ [(wd, l'.length)], rfl, fun b o e h1 h2 => ?_, ?_, ?_, PA5.fine, PA5.nd, upd_same, ?_, ?_, ?_, ?_, ?_⟩
          · rw [upd_ne (ne_of_none e hbd)]
            exact b5 _ _ (s4 _ _ (b2 _ _ e h1 h2)) h1 h2
          · obtain ⟨ts, q1, q2, q3⟩ := PA5.sts
            exact ⟨ts, by rw [upd_ne nbs.symm]; exact q1, q2, fun i' t' e => let ⟨x', a1, a2⟩ := q3 i' t' e; ⟨x', a1, by show upd H5 bd _ t' = _; rw [upd_ne (ne_of (show H5 t' = some _ from a2) hbd5 (by intro q; cases q))]; exact a2⟩⟩
          · rw [upd_ne nbn.symm]
            exact PA5.nus
          · rw [hsnoc, add_one, if_neg (by rw [List.contains_iff_mem]; exact hn), if_neg (by omega)]
          · rw [List.map_append, hws, take_nx eq]
            rfl
          · intro z hz
            rcases List.mem_append.mp hz with h | h
            · have := hnx z h
              rw [List.getElem?_append_left (List.getElem?_eq_some_iff.mp this).1]
              exact this
            · rw [List.mem_singleton.mp h]
              simp
          · rw [List.length_append]
            show l'.length + 1 ≤ 64
            omega
          · intro j y h
            have := hpre j y h
            rw [List.getElem?_append_left (List.getElem?_eq_some_iff.mp this).1]
            exact this
    · rintro σ H3 ⟨v, l', ws, rfl, b2, sts, nus, fine, ndl, hbd3, hadd, hws, hnx, l64', hpre⟩
      rw [List.length_map, List.length_map, List.take_length] at hadd hws
      have PA3 : PartAt c H0 H3 a sc p pl ar st nu rw l' rds := PA2.re b2 sts nus fine ndl
      obtain ⟨dx3, hins3⟩ := PA3.con.ins
      have ht3 : TupAt H3 t x := b2 _ _ (s2 _ _ ht1) nts ntn
      obtain ⟨q0, r0, e0⟩ : ∃ q0 r0, x.places = q0 :: r0 := by
        cases h : x.places with
        | nil => exact absurd h e
        | cons q r => exact ⟨q, r, rfl⟩
      have hq0 : q0 ∈ x.places := by
        rw [e0]
        simp
      obtain ⟨xs, b, h1, h2, dy, d, hb, hd⟩ := PA3.con.pls.get (fx.good.lt q0 hq0)
      have ht3' : H3 t = some (.tup ((stT x).map V.int)) := ht3
      have at0 : ∀ {z : Int}, z = 0 → atI ((stT x).map V.int) z = some (V.int (q0 : Int)) := fun {z} hz => by
        subst hz
        rw [stT_plain hov, e0]
        exact atI_nat (j := 0) rfl
      refine ⟨_, rfl, a, c.pa, dx3, _, _, rfl, hins3, T.pac, T.pa2, paF2, _, rfl, t, _, _, _, rfl, rfl, SqT.of ht3', at0 rfl, pl, _, _, _, rfl, rfl, SqL.of h1, h2, ?_⟩
      have fin : ∀ oth : Nat, oth = Kh292.other sc p x → ∀ r dr : Addr, H3 r = none → H3 dr = none → dr ≠ r → spRowInit c [.ref r, .int (Kh292.kind sc p x : Nat), .int (oth : Int), .ref bd] (upd (upd H3 dr (.own r)) r (.ins c.ro dr [])) (fun v H2 => v = .non ∧ Q (.ref r) H2) E0 := by
        intro oth eo r dr hr0 hdr ner
        refine ⟨r, dr, bd, _, _, rfl, upd_same, fun H4 hr4 b4 => ⟨rfl, ?_⟩⟩
        have s4 : Same H3 H4 := Same.made hr0 hdr b4
        exact kq hf w16 l' hadd H4 r ⟨Kh292.kind sc p x, oth, ws⟩ (PA3.on s4) ⟨dr, bd, hr4, s4 _ _ hbd3⟩ ⟨rfl, eo, hws, hnx⟩ l64' hpre
      refine ⟨_, rfl, _, rfl, rfl, _, rfl, ?_⟩
      have ko : Kh292.kind sc p x = if (at_ sc q0).from_ = p then 1 else 2 := by
        unfold Kh292.kind
        rw [e0]
      have oo : Kh292.other sc p x = if (at_ sc q0).from_ = p then (at_ sc q0).to_ else (at_ sc q0).from_ := by
        unfold Kh292.other
        rw [e0]
      refine ite3 (fun e5 => ?_) fun e5 => ?_
      · refine ⟨_, rfl, b, c.pl, dy, _, _, rfl, hb, T.plc, T.pl2, plF2 _ _ _, _, rfl, ?_⟩
        refine fin _ ?_
        rw [oo]
        have : Kh292.kind sc p x = 1 := by
          have := V.int.inj e5
          omega
        rw [ko] at this
        split at this
        · rename_i h
          rw [if_pos h]
        · cases this
      · refine ⟨_, rfl, b, c.pl, dy, _, _, rfl, hb, T.plc, T.pl1, plF1 _ _ _, _, rfl, ?_⟩
        refine fin _ ?_
        rw [oo]
        have : Kh292.kind sc p x ≠ 1 := fun h => e5 (by rw [h]; rfl)
        rw [ko] at this
        split at this
        · exact absurd rfl this
        · rename_i h
          rw [if_neg h]
end
end Tk
end
section
set_option Elab.async false
set_option linter.all false
set_option maxRecDepth 100000
namespace Tk
open PySem PySem.Spec PyProof.Rows L2
open Kh292 (Script State at_ takesPart okScript comesTo never wordsAt)
structure RowsOk (s : Script) (p : Nat) (l : List State) (rds : List RD) : Prop where
  len : rds.length = l.length
  at_ : ∀ (i : Nat) x, l[i]? = some x → ∃ rd, rds[i]? = some rd ∧ RowOk s p l x rd
  fine : ∀ x ∈ l, Fine s p x
def spPartInit (c : Cs) : Sp := fun vs H Q _ => ∃ (a dx pl : Addr) (H0 : Hp) (s : Script) (p : Nat), vs = [.ref a, .int p, .ref pl] ∧ H a = some (.ins c.pa dx []) ∧ Same H0 H ∧ H0 a = none ∧ PlacesAt c H0 pl s ∧ okScript s = true ∧
  ∀ H' ar st nu rw, PartAt c H0 H' a s p pl ar st nu rw [] [] → Q .non H'
def spFind (c : Cs) : Sp := fun vs H Q E => ∃ (a : Addr) (H0 : Hp) (s : Script) (p : Nat) (pl ar st nu rw : Addr), vs = [.ref a] ∧ PartAt c H0 H a s p pl ar st nu rw [] [] ∧ okScript s = true ∧
  (∀ y, Kh292.statesOf s p = .unclear y → ∀ H', Same H0 H' → E (.ref c.un) none H') ∧ (Kh292.statesOf s p = .many → ∀ H', Same H0 H' → E (.ref c.tm) none H') ∧
  (∀ l, Kh292.statesOf s p = .states l → ∀ H' rds, PartAt c H0 H' a s p pl ar st nu rw l rds → RowsOk s p l rds → l[0]? = some (Kh292.first s p) → Q .non H')
def spRowsOf (c : Cs) : Sp := fun vs H Q E => ∃ (pl : Addr) (s : Script) (p : Nat), vs = [.int p, .ref pl] ∧ PlacesAt c H pl s ∧ okScript s = true ∧
  (∀ y, Kh292.statesOf s p = .unclear y → ∀ H', Same H H' → E (.ref c.un) none H') ∧ (Kh292.statesOf s p = .many → ∀ H', Same H H' → E (.ref c.tm) none H') ∧
  (∀ l, Kh292.statesOf s p = .states l → ∀ H' rw rds, Same H H' → H rw = none → RwsAt c H' rw rds → RowsOk s p l rds → l[0]? = some (Kh292.first s p) → Q (.ref rw) H')
def AllAt (c : Cs) (H0 H : Hp) (D : Addr) (s : Script) : Prop := ∃ as : List Addr, H D = some (.lst (as.map V.ref)) ∧ as.length = s.p ∧ ∀ (i : Nat) (b : Addr), as[i]? = some b → H0 b = none ∧ ∃ l rds, Kh292.statesOf s i = .states l ∧ RwsAt c H b rds ∧ RowsOk s i l rds ∧ l[0]? = some (Kh292.first s i)
def spAll (c : Cs) : Sp := fun vs H Q E => ∃ (pl : Addr) (s : Script), vs = [.int (s.p : Int), .ref pl] ∧ PlacesAt c H pl s ∧ okScript s = true ∧
  (∀ i y, Kh292.check s = some (i, .unclear y) → ∀ H', Same H H' → E (.ref c.un) none H') ∧ (∀ i, Kh292.check s = some (i, .many) → ∀ H', Same H H' → E (.ref c.tm) none H') ∧
  (Kh292.check s = none → ∀ H' D, Same H H' → H D = none → AllAt c H H' D s → Q (.ref D) H')
theorem RwsAt.same {c : Cs} {H H' : Hp} {a : Addr} {rds : List RD} (h : RwsAt c H a rds) (k : Same H H') : RwsAt c H' a rds :=
  let ⟨rs, h1, h2, h3⟩ := h
  ⟨rs, k _ _ h1, h2, fun i r e => let ⟨rd, a1, dx, d, a2, a3⟩ := h3 i r e; ⟨rd, a1, dx, d, k _ _ a2, k _ _ a3⟩⟩
theorem RowOk.mono {s : Script} {p : Nat} {l m : List State} {x : State} {rd : RD} (h : RowOk s p l x rd) (k : ∀ (j : Nat) y, l[j]? = some y → m[j]? = some y) : RowOk s p m x rd :=
  ⟨h.kind, h.other, h.words, fun w hw => k _ _ (h.next w hw)⟩
theorem check_at {s : Script} {i : Nat} (hi : i < s.p) (h1 : ∀ j, j < i → ∃ l, Kh292.statesOf s j = .states l) (h2 : ∀ l, Kh292.statesOf s i ≠ .states l) : Kh292.check s = some (i, Kh292.statesOf s i) := by
  unfold Kh292.check
  rw [List.find?_map, Option.map_eq_some_iff]
  refine ⟨i, ?_, rfl⟩
  rw [List.find?_eq_some_iff_append]
  refine ⟨?_, List.range i, (List.range (s.p - i - 1)).map (· + (i + 1)), ?_, fun j hj => ?_⟩
  · show (match Kh292.statesOf s i with | .states _ => false | _ => true) = true
    cases e : Kh292.statesOf s i with
    | states l => exact absurd e (h2 l)
    | unclear w => rfl
    | many => rfl
  · have e : s.p = i + (1 + (s.p - i - 1)) := by omega
    rw [show List.range s.p = List.range (i + (1 + (s.p - i - 1))) by rw [← e], List.range_add, List.range_add]
    simp only [List.map_append, List.map_map]
    congr 1
    show _ = [i] ++ _
    congr 1
    refine List.map_congr_left fun a _ => ?_
    show i + (1 + a) = a + (i + 1)
    omega
  · obtain ⟨l, e⟩ := h1 j (List.mem_range.mp hj)
    show (!(match Kh292.statesOf s j with | .states _ => false | _ => true)) = true
    rw [e]
    rfl
theorem check_none {s : Script} (h1 : ∀ j, j < s.p → ∃ l, Kh292.statesOf s j = .states l) : Kh292.check s = none := by
  unfold Kh292.check
  rw [List.find?_eq_none]
  intro x hx
  obtain ⟨j, hj, rfl⟩ := List.mem_map.mp hx
  obtain ⟨l, e⟩ := h1 j (List.mem_range.mp hj)
  show ¬ (match Kh292.statesOf s j with | .states _ => false | _ => true) = true
  rw [e]
  exact Bool.false_ne_true
section
variable {P : Program} {w : World} {K : PySem.W.Frag} {mg : Str → Option Value} {base : Heap} {c : Cs}
theorem sc_partI : FnScope ["self", "party", "places"] ["self", "party", "places"] (defScope s_Part_init) := ⟨rfl, rfl, rfl, by decide +kernel, rfl, by decide +kernel, by decide +kernel⟩
theorem ok_partI {f fa : Addr} {fd fda : FuncData} (F : Fun K "__init__" "Part.__init__" s_Part_init f fd) (T : Txt K mg c) (GA : Fn P w K mg base "arrivals_of" 3 ["party", "places"] (spArr c) fa fda) : FnOk P w K mg base (CXe P w) 4 f fd ["self", "party", "places"] (spPartInit c) := by
  refine F.okE sc_partI (fun vs H Q E h => ?_) (fun cdv A outer s H vs Q E hr h => ?_)
  · obtain ⟨a, dx, pl, H0, sc, p, rfl, _⟩ := h
    rfl
  · obtain ⟨a, dx, pl, H0, sc, p, rfl, ha, s0, ha0, hp, hs, k⟩ := h
    refine ⟨_, pss_cons (ps_fld (pv 0) (pv 1) rfl) (pss_cons (ps_fld (pv 0) (pv 2) rfl) (pss_cons (ps_fld (pv 0) (pe_call GA.ok hr rfl GA.mg GA.kp GA.bi .nil pass0E (pa_cons (pv 1) (pa_cons (pv 2) pa_nil))) rfl)
      (pss_cons (ps_fld (pv 0) (pe_lst pa_nil) rfl) (pss_cons (ps_fld (pv 0) pe_dnewT rfl) (pss_one (ps_fld (pv 0) (pe_lst pa_nil) rfl)))))), ?_⟩
    refine ⟨_, rfl, _, rfl, a, c.pa, dx, [], rfl, ha, T.pac, T.pa1, (by show 0 < 1000; decide), ?_⟩
    refine ⟨_, rfl, _, rfl, a, c.pa, dx, _, rfl, upd_same, T.pac, T.pa2, (by show 1 < 1000; decide), ?_⟩
    rw [upd_upd]
    have s1 : Same H0 (upd H a (.ins c.pa dx (putF "places" (.ref pl) (putF "party" (.int p) [])))) := fun b o e => by rw [upd_ne (ne_of_none e ha0)]; exact s0 _ _ e
    have a1 := upd_same (H := H) (a := a) (o := .ins c.pa dx (putF "places" (.ref pl) (putF "party" (.int p) [])))
    generalize upd H a (.ins c.pa dx (putF "places" (.ref pl) (putF "party" (.int p) []))) = H1 at s1 a1 ⊢
    refine ⟨_, rfl, _, rfl, p, pl, sc, rfl, hp.same s1, hs, fun H2 ar har s2 A2 => ?_⟩
    have a2 := s2 _ _ a1
    refine ⟨_, rfl, a, c.pa, dx, _, rfl, a2, T.pac, T.pa3, (by show 2 < 1000; decide), ?_⟩
    have b3 : But a H2 (upd H2 a (.ins c.pa dx (putF "arrivals" (.ref ar) (putF "places" (.ref pl) (putF "party" (.int p) []))))) := upd_but
    have a3 := upd_same (H := H2) (a := a) (o := .ins c.pa dx (putF "arrivals" (.ref ar) (putF "places" (.ref pl) (putF "party" (.int p) []))))
    have s3 : Same H0 (upd H2 a (.ins c.pa dx (putF "arrivals" (.ref ar) (putF "places" (.ref pl) (putF "party" (.int p) []))))) := fun b o e => by rw [upd_ne (ne_of_none e ha0)]; exact s2 _ _ (s1 _ _ e)
    have A3 : ArrAt (upd H2 a (.ins c.pa dx (putF "arrivals" (.ref ar) (putF "places" (.ref pl) (putF "party" (.int p) []))))) ar sc p := by
      obtain ⟨kvs, q1, q2⟩ := A2
      exact ⟨kvs, b3 _ _ q1 (ne_of q1 a2 (by intro q; cases q)), fun o ho => let ⟨t, z1, z2⟩ := q2 o ho; ⟨t, z1, b3 _ _ z2 (ne_of z2 a2 (by intro q; cases q))⟩⟩
    generalize upd H2 a (.ins c.pa dx (putF "arrivals" (.ref ar) (putF "places" (.ref pl) (putF "party" (.int p) [])))) = H3 at a3 s3 A3 ⊢
    clear b3
    refine ⟨Nat.zero_le _, fun st hst => ?_⟩
    have s4 := Same.upd (o := .lst []) hst
    have w4 := upd_same (H := H3) (a := st) (o := .lst [])
    refine ⟨_, rfl, a, c.pa, dx, _, rfl, s4 _ _ a3, T.pac, T.pa4, (by show 3 < 1000; decide), ?_⟩
    have nas : a ≠ st := ne_of_none a3 hst
    have b4 : But a H3 (upd (upd H3 st (.lst [])) a (.ins c.pa dx (putF "states" (.ref st) (putF "arrivals" (.ref ar) (putF "places" (.ref pl) (putF "party" (.int p) [])))))) := (But.of s4).trans upd_but
    have a4 := upd_same (H := upd H3 st (.lst [])) (a := a) (o := .ins c.pa dx (putF "states" (.ref st) (putF "arrivals" (.ref ar) (putF "places" (.ref pl) (putF "party" (.int p) [])))))
    have w4' : (upd (upd H3 st (.lst [])) a (.ins c.pa dx (putF "states" (.ref st) (putF "arrivals" (.ref ar) (putF "places" (.ref pl) (putF "party" (.int p) [])))))) st = some (.lst []) := by rw [upd_ne nas.symm]; exact w4
    generalize upd (upd H3 st (.lst [])) a (.ins c.pa dx (putF "states" (.ref st) (putF "arrivals" (.ref ar) (putF "places" (.ref pl) (putF "party" (.int p) []))))) = H4 at b4 a4 w4' ⊢
    intro nu hnu
    have s5 := Same.upd (o := .dT []) hnu
    have w5 := upd_same (H := H4) (a := nu) (o := .dT [])
    refine ⟨_, rfl, a, c.pa, dx, _, rfl, s5 _ _ a4, T.pac, T.pa5, (by show 4 < 1000; decide), ?_⟩
    have nan : a ≠ nu := ne_of_none a4 hnu
    have b5 : But a H4 (upd (upd H4 nu (.dT [])) a (.ins c.pa dx (putF "numbers" (.ref nu) (putF "states" (.ref st) (putF "arrivals" (.ref ar) (putF "places" (.ref pl) (putF "party" (.int p) []))))))) := (But.of s5).trans upd_but
    have a5 := upd_same (H := upd H4 nu (.dT [])) (a := a) (o := .ins c.pa dx (putF "numbers" (.ref nu) (putF "states" (.ref st) (putF "arrivals" (.ref ar) (putF "places" (.ref pl) (putF "party" (.int p) []))))))
    have w5' : (upd (upd H4 nu (.dT [])) a (.ins c.pa dx (putF "numbers" (.ref nu) (putF "states" (.ref st) (putF "arrivals" (.ref ar) (putF "places" (.ref pl) (putF "party" (.int p) []))))))) nu = some (.dT []) := by rw [upd_ne nan.symm]; exact w5
    generalize upd (upd H4 nu (.dT [])) a (.ins c.pa dx (putF "numbers" (.ref nu) (putF "states" (.ref st) (putF "arrivals" (.ref ar) (putF "places" (.ref pl) (putF "party" (.int p) [])))))) = H5 at b5 a5 w5' ⊢
    refine ⟨Nat.zero_le _, fun rw hrw => ?_⟩
    have s6 := Same.upd (o := .lst []) hrw
    have w6 := upd_same (H := H5) (a := rw) (o := .lst [])
    refine ⟨_, rfl, a, c.pa, dx, _, rfl, s6 _ _ a5, T.pac, T.pa6, (by show 5 < 1000; decide), ?_⟩
    have nar : a ≠ rw := ne_of_none a5 hrw
    have b6 : But a H5 (upd (upd H5 rw (.lst [])) a (.ins c.pa dx (putF "rows" (.ref rw) (putF "numbers" (.ref nu) (putF "states" (.ref st) (putF "arrivals" (.ref ar) (putF "places" (.ref pl) (putF "party" (.int p) [])))))))) := (But.of s6).trans upd_but
    have a6 := upd_same (H := upd H5 rw (.lst [])) (a := a) (o := .ins c.pa dx (putF "rows" (.ref rw) (putF "numbers" (.ref nu) (putF "states" (.ref st) (putF "arrivals" (.ref ar) (putF "places" (.ref pl) (putF "party" (.int p) [])))))))
    have w6' : (upd (upd H5 rw (.lst [])) a (.ins c.pa dx (putF "rows" (.ref rw) (putF "numbers" (.ref nu) (putF "states" (.ref st) (putF "arrivals" (.ref ar) (putF "places" (.ref pl) (putF "party" (.int p) [])))))))) rw = some (.lst []) := by rw [upd_ne nar.symm]; exact w6
    generalize upd (upd H5 rw (.lst [])) a (.ins c.pa dx (putF "rows" (.ref rw) (putF "numbers" (.ref nu) (putF "states" (.ref st) (putF "arrivals" (.ref ar) (putF "places" (.ref pl) (putF "party" (.int p) []))))))) = H6 at b6 a6 w6' ⊢
    have st6 : H6 st = some (.lst []) := b6 _ _ (b5 _ _ w4' nas.symm) nas.symm
    have nu6 : H6 nu = some (.dT []) := b6 _ _ w5' nan.symm
    have b36 : But a H3 H6 := (b4.trans b5).trans b6
    have s06 : Same H0 H6 := fun b o e => b36 _ _ (s3 _ _ e) (ne_of_none e ha0)
    have f3 : ∀ z, H3 z = none → H0 z = none := fun z h => s3.free h
    have f45 : ∀ z, H4 z = none → z ≠ a → H3 z = none := fun z h hz => by
      cases e : H3 z with
      | none => rfl
      | some o => rw [b4 _ _ e hz] at h; cases h
    have f56 : ∀ z, H5 z = none → z ≠ a → H4 z = none := fun z h hz => by
      cases e : H4 z with
      | none => rfl
      | some o => rw [b5 _ _ e hz] at h; cases h
    have pl3 := (hp.same s3).len
    obtain ⟨xs, px, _⟩ := pl3
    have npa : pl ≠ a := ne_of px a3 (by intro q; cases q)
    refine k H6 ar st nu rw ⟨s06, ha0, f3 _ hst, f3 _ (f45 _ hnu nan.symm), f3 _ (f45 _ (f56 _ hrw nar.symm) nar.symm), ⟨⟨dx, a6⟩, hp.same s06, ?_⟩, ?_, ?_, ?_, hp, ⟨[], st6, rfl, fun i t h => by simp at h⟩, nu6, fun x h => by simp at h, List.nodup_nil, ⟨[], w6', rfl, fun i t h => by simp at h⟩⟩
    · obtain ⟨kvs, q1, q2⟩ := A3
      exact ⟨kvs, b36 _ _ q1 (ne_of q1 a3 (by intro q; cases q)), fun o ho => let ⟨t, z1, z2⟩ := q2 o ho; ⟨t, z1, b36 _ _ z2 (ne_of z2 a3 (by intro q; cases q))⟩⟩
    · exact ne_of_none (b5 _ _ w4' nas.symm) hrw
    · exact ne_of_none px hst
    · exact ne_of_none (b5 _ _ (b4 _ _ px npa) npa) hrw
end
end Tk
end
section
set_option Elab.async false
set_option linter.all false
set_option maxRecDepth 100000
namespace Tk
open PySem PySem.Spec PyProof.Rows L2
open Kh292 (Script State at_ takesPart okScript comesTo never wordsAt)
theorem find_next {s : Script} {p f i : Nat} {l : List State} {x : State} (h : l[i]? = some x) : Kh292.find s p (f + 1) i l = if Kh292.fault s p x ≠ 0 then .unclear (Kh292.fault s p x) else if 16 < (Kh292.words s x).length then .many else match Kh292.add s p x (Kh292.words s x) l with
    | none => .many
    | some m => Kh292.find s p f (i + 1) m := by
  rw [Kh292.find, h]
  rfl
theorem find_end {s : Script} {p f i : Nat} {l : List State} (h : l[i]? = none) : Kh292.find s p (f + 1) i l = .states l := by
  rw [Kh292.find, h]
section
variable {P : Program} {w : World} {K : PySem.W.Frag} {mg : Str → Option Value} {base : Heap} {c : Cs}
theorem PartAt.rowsUp {H0 H : Hp} {a : Addr} {s : Script} {p : Nat} {pl ar st nu rw r : Addr} {l : List State} {rds : List RD} {rd : RD} (x : PartAt c H0 H a s p pl ar st nu rw l rds) (hr : RowAt c H r rd) {rs : List Addr} (h1 : H rw = some (.lst (rs.map V.ref))) (h2 : rs.length = rds.length) (h3 : ∀ (i : Nat) (r : Addr), rs[i]? = some r → ∃ rd, rds[i]? = some rd ∧ RowAt c H r rd) :
    PartAt c H0 (upd H rw (.lst (rs.map V.ref ++ [.ref r]))) a s p pl ar st nu rw l (rds ++ [rd]) := by
  have k : But2 rw rw H (upd H rw (.lst (rs.map V.ref ++ [.ref r]))) := fun b o e h _ => by rw [upd_ne h]; exact e
  have os := Odd.lst h1
  have nrn : nu ≠ rw := (ne_of h1 x.nus (by intro q; cases q)).symm
  refine ⟨fun b o e => k b o (x.same b o e) (fun q => ?_) (fun q => ?_), x.na, x.ns, x.nn, x.nr, x.con.but k os os x.npr x.npr, x.ne, x.npl, x.npr, x.pl0, ?_, ?_, x.fine, x.nd, ⟨rs ++ [r], by rw [upd_same, List.map_append]; rfl, by rw [List.length_append, List.length_append, h2]; rfl, fun i z hz => ?_⟩⟩
  · rw [q, x.nr] at e
    cases e
  · rw [q, x.nr] at e
    cases e
  · obtain ⟨ts, q1, q2, q3⟩ := x.sts
    exact ⟨ts, k _ _ q1 x.ne x.ne, q2, fun i t e => let ⟨y, a1, a2⟩ := q3 i t e; ⟨y, a1, k _ _ a2 (fun e => os.t _ (e ▸ a2)) (fun e => os.t _ (e ▸ a2))⟩⟩
  · exact k _ _ x.nus nrn nrn
  · by_cases hi : i < rs.length
    · rw [List.getElem?_append_left hi] at hz
      obtain ⟨rd', a1, a2⟩ := h3 i z hz
      exact ⟨rd', by rw [List.getElem?_append_left (by rw [← h2]; exact hi)]; exact a1, a2.but k os os⟩
    · rw [List.getElem?_append_right (by omega)] at hz
      have e : i - rs.length = 0 := by
        have := (List.getElem?_eq_some_iff.mp hz).1
        simp at this
        omega
      rw [e] at hz
      have e2 : r = z := by simpa using hz
      subst e2
      exact ⟨rd, by rw [List.getElem?_append_right (by rw [← h2]; omega), ← h2, e]; rfl, hr.but k os os⟩
theorem sc_find : FnScope ["self"] ["self"] (defScope s_Part_find_rows) := ⟨rfl, rfl, rfl, by decide +kernel, rfl, by decide +kernel, by decide +kernel⟩
theorem ok_find {f fn fr : Addr} {fd fdn fdr : FuncData} (F : Fun K "find_rows" "Part.find_rows" s_Part_find_rows f fd) (T : Txt K mg c) (GN : Me P w K mg base c.pa "number_of" 1 ["self", "state"] (spNumber c) fn fdn) (GR : Me P w K mg base c.pa "row_of" 4 ["self", "state"] (spRow c) fr fdr) :
    FnOk P w K mg base (CXe P w) 5 f fd ["self"] (spFind c) := by
  refine F.okE sc_find (fun vs H Q E h => ?_) (fun cdv A outer s H vs Q E hr h => ?_)
  · obtain ⟨a, H0, sc, p, pl, ar, st, nu, rw, rfl, _⟩ := h
    rfl
  · obtain ⟨a, H0, sc, p, pl, ar, st, nu, rw, rfl, PA, hs, ku, km, kq⟩ := h
    have hu := hu_of hr
    have hr1 : Room 1 _ := hr.mono (by decide)
    obtain ⟨n1, hn, _, _⟩ := ok_len hs
    obtain ⟨dx, hins⟩ := PA.con.ins
    refine ⟨_, pss_cons (ps_expr (pe_meth (pv 0) T.pac GN.me GN.ok hr1 GN.bi .nil passE' (pa_cons (pe_dget hu (pe_fld (pv 0) rfl) pe_int (fun _ _ => rfl)) pa_nil)))
      (pss_one (ps_while ownE (pt_cmpR op_lt (pe_callB call_len_seq rfl T.len PySem.boot_len (pa_cons (pe_fld (pv 0) rfl) pa_nil)) (pe_callB call_len_seq rfl T.len PySem.boot_len (pa_cons (pe_fld (pv 0) rfl) pa_nil)) (nomark _))
        (pss_one (ps_expr (pe_bm PySem.F.plainAttrs_list PySem.F.slot_list_append PySem.F.type_list_append mt_append (pe_fld (pv 0) rfl) (pa_cons (pe_meth (pv 0) T.pac GR.me GR.ok hr GR.bi .nil passE' (pa_cons (pe_ix ix_list (pe_fld (pv 0) rfl) (pe_callB call_len_seq rfl T.len PySem.boot_len (pa_cons (pe_fld (pv 0) rfl) pa_nil)) (fun _ _ => rfl)) pa_nil)) pa_nil)))))), ?_⟩
    obtain ⟨kvs, ha1, ha2⟩ := PA.con.arr
    obtain ⟨t0, hv, ht0⟩ := ha2 (some 0) (show 0 < sc.places.length by omega)
    have f0 : Fine sc p (Kh292.first sc p) := fine_comes hs (one_ok (show 0 < sc.places.length by omega)) (by simp)
    refine ⟨_, rfl, a, dx, _, rfl, hins, rfl, ?_⟩
    refine ⟨_, rfl, a, c.pa, dx, _, _, rfl, hins, T.pac, T.pa3, paF3, ar, .ref t0, rfl, ?_, ?_⟩
    · have := DGet.k (k := Sum.inl (0 : Int)) ha1
      rw [show valV kvs (Sum.inl (0 : Int)) = some (V.ref t0) from hv] at this
      exact this
    refine ⟨a, t0, H0, sc, p, pl, ar, st, nu, rw, [], [], Kh292.first sc p, rfl, PA, hs, ht0, f0, Nat.zero_le _, fun i h => by simp at h, fun _ h => by simp at h, fun _ _ H1 PA1 b1 => ?_⟩
    refine ⟨fun m σ H' => ∃ (l : List State) (rds : List RD), σ = [some (.ref a)] ∧ PartAt c H0 H' a sc p pl ar st nu rw l rds ∧ rds.length ≤ l.length ∧ l.length ≤ 64 ∧ Kh292.find sc p (65 - rds.length) rds.length l = Kh292.statesOf sc p ∧ (∀ (i : Nat) rd, rds[i]? = some rd → ∃ x, l[i]? = some x ∧ RowOk sc p l x rd) ∧ l[0]? = some (Kh292.first sc p) ∧ m = 65 - rds.length, ⟨_, [Kh292.first sc p], [], rfl, PA1, Nat.zero_le _, by show 1 ≤ 64; decide, rfl, fun i rd h => by simp at h, rfl, rfl⟩, ?_⟩
    rintro m σ H2 ⟨l, rds, rfl, PA2, hle, l64, hfind, hok, hfirst, rfl⟩
    obtain ⟨dx2, hins2⟩ := PA2.con.ins
    obtain ⟨rs, hr2, hr3, hr4⟩ := id PA2.rws
    obtain ⟨ts, hs2, hs3, hs4⟩ := id PA2.sts
    refine ⟨_, rfl, a, c.pa, dx2, _, _, rfl, hins2, T.pac, T.pa6, paF6, rw, _, rfl, .inl (SqL.of hr2), _, rfl, a, c.pa, dx2, _, _, rfl, hins2, T.pac, T.pa4, paF4, st, _, rfl, .inl (SqL.of hs2), _, _, rfl, rfl, _, rfl, ?_⟩
    rw [List.length_map, List.length_map, hr3, hs3]
    refine ite3 (fun e => ?_) fun e => ?_
    · have lt : rds.length < l.length := by omega
      obtain ⟨x, hx⟩ : ∃ x, l[rds.length]? = some x := ⟨_, List.getElem?_eq_getElem lt⟩
      obtain ⟨xs, t, hxs, hat, ht⟩ := PA2.sts.get hx
      have fx := PA2.fine x (List.mem_of_getElem? hx)
      have hat' : atI xs ((rs.map V.ref).length : Int) = some (.ref t) := by
        rw [List.length_map, hr3]
        exact hat
      have ef : 65 - rds.length = (64 - rds.length) + 1 := by omega
      rw [ef, find_next hx] at hfind
      refine ⟨fun σ' H' => ∃ m', m' < 65 - rds.length ∧ ∃ (l : List State) (rds : List RD), σ' = [some (.ref a)] ∧ PartAt c H0 H' a sc p pl ar st nu rw l rds ∧ rds.length ≤ l.length ∧ l.length ≤ 64 ∧ Kh292.find sc p (65 - rds.length) rds.length l = Kh292.statesOf sc p ∧ (∀ (i : Nat) rd, rds[i]? = some rd → ∃ x, l[i]? = some x ∧ RowOk sc p l x rd) ∧ l[0]? = some (Kh292.first sc p) ∧ m' = 65 - rds.length, fun σ' H' h => h, ?_⟩
      refine ⟨_, rfl, a, c.pa, dx2, _, _, rfl, hins2, T.pac, T.pa6, paF6, .inl ⟨rfl, _, SqL.of hr2⟩, ?_⟩
      refine ⟨_, rfl, a, dx2, _, rfl, hins2, rfl, ?_⟩
      refine ⟨_, rfl, a, c.pa, dx2, _, _, rfl, hins2, T.pac, T.pa4, paF4, _, rfl, a, c.pa, dx2, _, _, rfl, hins2, T.pac, T.pa6, paF6, rw, _, rfl, .inl (SqL.of hr2), st, _, _, _, rfl, rfl, SqL.of hxs, hat', ?_⟩
      refine ⟨a, t, H0, sc, p, pl, ar, st, nu, rw, l, rds, x, rfl, PA2, hs, ht, fx, l64, fun hf H3 s3 => ?_, fun hf hw H3 s3 => ?_, fun hf hw ha H3 s3 => ?_, fun hf hw m ha H3 r rd PA3 hrow hrok m64 hpre => ?_⟩
      · rw [if_pos hf] at hfind
        exact ku _ hfind.symm H3 s3
      · rw [if_neg (by rw [hf]; simp), if_pos hw] at hfind
        exact km hfind.symm H3 s3
      · rw [if_neg (by rw [hf]; simp), if_neg (by omega), ha] at hfind
        exact km hfind.symm H3 s3
      · rw [if_neg (by rw [hf]; simp), if_neg (by omega), ha] at hfind
        dsimp only at hfind
        obtain ⟨rs3, q1, q2, q3⟩ := id PA3.rws
        refine ⟨rw, _, _, rfl, rfl, q1, (by rw [List.length_map, q2]; exact small (by omega)), ?_⟩
        have PA4 := PA3.rowsUp hrow q1 q2 q3
        have hmx := hpre _ _ hx
        have ltm := (List.getElem?_eq_some_iff.mp hmx).1
        refine ⟨_, ?_, m, rds ++ [rd], rfl, PA4, ?_, m64, ?_, fun i rd' h => ?_, hpre _ _ hfirst, rfl⟩
        · rw [List.length_append]
          show 65 - (rds.length + 1) < _
          omega
        · rw [List.length_append]
          exact ltm
        · rw [List.length_append]
          show Kh292.find sc p (65 - (rds.length + 1)) (rds.length + 1) m = _
          rw [show 65 - (rds.length + 1) = 64 - rds.length by omega]
          exact hfind
        · by_cases hi : i < rds.length
          · rw [List.getElem?_append_left hi] at h
            obtain ⟨x', a1, a2⟩ := hok i rd' h
            exact ⟨x', hpre _ _ a1, a2.mono hpre⟩
          · rw [List.getElem?_append_right (by omega)] at h
            have e3 : i - rds.length = 0 := by
              have := (List.getElem?_eq_some_iff.mp h).1
              simp at this
              omega
            rw [e3] at h
            have e2 : rd = rd' := by simpa using h
            subst e2
            have e4 : i = rds.length := by omega
            rw [e4]
            exact ⟨x, hmx, hrok⟩
    · have el : rds.length = l.length := by omega
      have ef : 65 - rds.length = (64 - rds.length) + 1 := by omega
      rw [ef, find_end (List.getElem?_eq_none (by omega))] at hfind
      refine kq l hfind.symm H2 rds PA2 ⟨el, fun i x hx => ?_, PA2.fine⟩ hfirst
      have lt := (List.getElem?_eq_some_iff.mp hx).1
      obtain ⟨x', a1, a2⟩ := hok i rds[i] (List.getElem?_eq_getElem (by omega))
      rw [hx] at a1
      cases a1
      exact ⟨_, List.getElem?_eq_getElem (by omega), a2⟩
theorem sc_rowsOf : FnScope ["party", "places", "part"] ["party", "places"] (defScope s_rows_of) := ⟨rfl, rfl, rfl, by decide +kernel, rfl, by decide +kernel, by decide +kernel⟩
theorem ok_rowsOf {f fi ff : Addr} {fd fdi fdf : FuncData} (F : Fun K "rows_of" "rows_of" s_rows_of f fd) (T : Txt K mg c) (GI : Mr P w K mg base "Part" c.pa 4 ["self", "party", "places"] (spPartInit c) fi fdi) (GF : Me P w K mg base c.pa "find_rows" 5 ["self"] (spFind c) ff fdf) :
    FnOk P w K mg base (CXe P w) 6 f fd ["party", "places"] (spRowsOf c) := by
  refine F.okE sc_rowsOf (fun vs H Q E h => ?_) (fun cdv A outer s H vs Q E hr h => ?_)
  · obtain ⟨pl, sc, p, rfl, _⟩ := h
    rfl
  · obtain ⟨pl, sc, p, rfl, hp, hs, ku, km, kq⟩ := h
    have nd := sc_rowsOf.nd
    refine ⟨_, pss_cons (ps_set (i := 2) nd rfl (Or.inl rfl) (pe_make GI.mkk GI.ok hr rfl GI.mg GI.bi .nil pass0E (pa_cons (pv 0) (pa_cons (pv 1) pa_nil))))
      (pss_cons (ps_expr (pe_meth0 (pv 2) T.pac GF.me GF.ok hr GF.bi .nil passE')) (pss_one (ps_ret (pe_fld (pv 2) rfl)))), ?_⟩
    refine ⟨_, rfl, _, rfl, fun a dx ha hdx ne => ?_⟩
    refine ⟨a, dx, pl, H, sc, p, rfl, upd_same, fun b o e => ?_, ha, hp, hs, fun H1 ar st nu rw PA => ⟨rfl, ?_⟩⟩
    · rw [upd_ne (ne_of_none e ha), upd_ne (ne_of_none e hdx)]
      exact e
    obtain ⟨dx1, hins1⟩ := PA.con.ins
    refine ⟨_, rfl, a, dx1, _, rfl, hins1, rfl, a, H, sc, p, pl, ar, st, nu, rw, rfl, PA, hs, ku, km, fun l hl H2 rds PA2 hok hf => ?_⟩
    obtain ⟨dx2, hins2⟩ := PA2.con.ins
    refine ⟨_, rfl, a, c.pa, dx2, _, _, rfl, hins2, T.pac, T.pa6, paF6, ?_⟩
    exact kq l hl H2 rw rds PA2.same PA2.nr PA2.rws hok hf
theorem sc_all : FnScope ["p", "places", "party"] ["p", "places"] (defScope s_all_rows) := ⟨rfl, rfl, rfl, by decide +kernel, rfl, by decide +kernel, by decide +kernel⟩
theorem ok_all {f fr : Addr} {fd fdr : FuncData} (F : Fun K "all_rows" "all_rows" s_all_rows f fd) (T : Txt K mg c) (GR : Fn P w K mg base "rows_of" 6 ["party", "places"] (spRowsOf c) fr fdr) : FnOk P w K mg base (CXe P w) 7 f fd ["p", "places"] (spAll c) := by
  refine F.okE sc_all (fun vs H Q E h => ?_) (fun cdv A outer s H vs Q E hr h => ?_)
  · obtain ⟨pl, sc, rfl, _⟩ := h
    rfl
  · obtain ⟨pl, sc, rfl, hp, hs, ku, km, kq⟩ := h
    have nd := sc_all.nd
    obtain ⟨n1, hn, p2, p8⟩ := ok_len hs
    refine ⟨_, pss_one (ps_ret (pe_lcE (E := E) (E' := E) (own := [("party", 2)]) rfl rfl rfl (fun e s' h => h) (fun _ _ _ h => h) rfl nd (pi_range1 rfl T.range (pa_cons (pv 0) pa_nil)) (blkOk_by (N := ["p", "places", "party"]) (sc := defScope s_all_rows) (by decide +kernel)) (fun _ _ _ _ _ => pg_name (i := 2) nd rfl (Or.inl rfl)) (fun _ _ _ _ _ => pts_nil)
      (fun _ _ _ _ _ => pe_call GR.ok hr rfl GR.mg GR.kp GR.bi .nil passB (pa_cons (pv 2) (pa_cons (pv 1) pa_nil))))), ?_⟩
    refine ⟨_, rfl, (sc.p : Int), rfl, by omega, by omega, fun D hD => ?_⟩
    rw [Int.toNat_natCast]
    refine lc_range (fun i H' => i ≤ sc.p ∧ Same H H' ∧ ∃ as : List Addr, H' D = some (.lst (as.map V.ref)) ∧ D ∉ as ∧ as.length = i ∧ ∀ (j : Nat) (b : Addr), as[j]? = some b → H b = none ∧ ∃ l rds, Kh292.statesOf sc j = .states l ∧ RwsAt c H' b rds ∧ RowsOk sc j l rds ∧ l[0]? = some (Kh292.first sc j)) ⟨Nat.zero_le _, Same.upd hD, [], upd_same, by simp, rfl, fun j b h => by simp at h⟩ (fun i H1 hi h => ?_) fun H1 h => ?_
    · obtain ⟨_, s1, as, hD1, nD, hl, hall⟩ := h
      rw [Int.zero_add]
      have hprev : ∀ j, j < i → ∃ l, Kh292.statesOf sc j = .states l := fun j hj => by
        obtain ⟨_, l, _, e, _⟩ := hall j as[j] (List.getElem?_eq_getElem (by omega))
        exact ⟨l, e⟩
      refine ⟨rfl, ?_⟩
      refine ⟨_, rfl, _, rfl, pl, sc, i, rfl, hp.same s1, hs, fun y e H2 s2 => ?_, fun e H2 s2 => ?_, fun l e H2 rw rds s2 hrw R2 ok2 f2 => ?_⟩
      · have := check_at hi hprev (fun l h => by rw [e] at h; cases h)
        rw [e] at this
        exact ku _ _ this H2 (s1.trans s2)
      · have := check_at hi hprev (fun l h => by rw [e] at h; cases h)
        rw [e] at this
        exact km _ this H2 (s1.trans s2)
      · have nrD : rw ≠ D := (ne_of_none hD1 hrw).symm
        have hD2 := s2 _ _ hD1
        have kb : But2 D D H2 (upd H2 D (.lst (as.map V.ref ++ [.ref rw]))) := fun b o e h _ => by rw [upd_ne h]; exact e
        have os := Odd.lst hD2
        refine ⟨_, hD2, (by rw [List.length_map, hl]; exact small (by omega)), hi, fun b o e => ?_, as ++ [rw], by rw [upd_same, List.map_append]; rfl, ?_, by rw [List.length_append, hl]; rfl, fun j b hb => ?_⟩
        · rw [upd_ne (ne_of_none e hD)]
          exact s2 _ _ (s1 _ _ e)
        · rw [List.mem_append, List.mem_singleton]
          exact fun h => h.elim nD fun e => nrD e.symm
        · by_cases hj : j < as.length
          · rw [List.getElem?_append_left hj] at hb
            obtain ⟨a0, l', rds', a1, a2, a3, a4⟩ := hall j b hb
            have nb : b ≠ D := fun e => nD (e ▸ List.mem_of_getElem? hb)
            exact ⟨a0, l', rds', a1, (a2.same s2).but kb os os nb nb, a3, a4⟩
          · rw [List.getElem?_append_right (by omega)] at hb
            have e3 : j - as.length = 0 := by
              have := (List.getElem?_eq_some_iff.mp hb).1
              simp at this
              omega
            rw [e3] at hb
            have e2 : rw = b := by simpa using hb
            subst e2
            have e4 : j = i := by omega
            subst e4
            exact ⟨s1.free hrw, l, rds, e, R2.but kb os os nrD nrD, ok2, f2⟩
    · obtain ⟨_, s1, as, hD1, nD, hl, hall⟩ := h
      refine kq (check_none fun j hj => ?_) H1 D s1 hD ⟨as, hD1, hl, hall⟩
      obtain ⟨_, l, _, e, _⟩ := hall j as[j] (List.getElem?_eq_getElem (by omega))
      exact ⟨l, e⟩
end
end Tk
end
section
set_option Elab.async false
set_option linter.all false
set_option maxRecDepth 100000
namespace Tk
open PySem PySem.Spec PyProof.Rows L2
open Kh292 (Script State at_ takesPart okScript comesTo never wordsAt)
abbrev Abs := Kh293.Abs
def keF (me : Int) (rw : Addr) (st : Int) (ln : Addr) : List (Str × V) := [("me", .int me), ("rows", .ref rw), ("state", .int st), ("lines", .ref ln)]
theorem keF1 {me st : Int} {rw ln : Addr} : (keF me rw st ln).lookup ("me" : Str) = some (.int me) := by rfl
theorem keF2 {me st : Int} {rw ln : Addr} : (keF me rw st ln).lookup ("rows" : Str) = some (.ref rw) := by rfl
theorem keF3 {me st : Int} {rw ln : Addr} : (keF me rw st ln).lookup ("state" : Str) = some (.int st) := by rfl
theorem keF4 {me st : Int} {rw ln : Addr} : (keF me rw st ln).lookup ("lines" : Str) = some (.ref ln) := by rfl
theorem keFs {me st st' : Int} {rw ln : Addr} : putF "state" (.int st') (keF me rw st ln) = keF me rw st' ln := by rfl
structure KeepA (c : Cs) (H : Hp) (k : Addr) (ls : List Addr) (a : Abs) (dx rw ln : Addr) (st : Nat) (l : List State) (rds : List RD) : Prop where
  ins : H k = some (.ins c.ke dx (keF a.me rw st ln))
  ok : okScript a.s = true
  me : a.me < a.s.p
  rws : RwsAt c H rw rds
  rok : RowsOk a.s a.me l rds
  cur : l[st]? = some a.state
  lns : H ln = some (.lst (ls.map V.ref))
  len : ls.length = a.s.p
  klen : a.kept.length = a.s.p
  nd : ls.Nodup
  lat : ∀ (i : Nat) (b : Addr), ls[i]? = some b → H b = some (.lst (((a.from_ i).map Int.ofNat).map V.int))
  l64 : ∀ i, (a.from_ i).length ≤ 64
  nln : ln ∉ ls
  nrw : rw ∉ ls
def KeeperAt (c : Cs) (H : Hp) (k : Addr) (ls : List Addr) : Option Abs → Prop
  | none => ls = [] ∧ ∃ dx me rw st ln, H k = some (.ins c.ke dx (keF me rw st ln))
  | some a => ∃ dx rw ln st l rds ls0, ls = rw :: ln :: ls0 ∧ KeepA c H k ls0 a dx rw ln st l rds
def Post (c : Cs) (H : Hp) (k : Addr) (ls : List Addr) (o' : Option Abs) (ans : List Int) (Q : VK) : Prop := ∀ (H' : Hp) (r : Addr) (ls' : List Addr), H r = none → H' r = some (.lst (ans.map V.int)) → KeeperAt c H' k ls' o' →
  (∀ b o, H b = some o → b ≠ k → b ∉ ls → H' b = some o) → (∀ b ∈ ls', b ∈ ls ∨ H b = none) → r ∉ ls' → Q (.ref r) H'
section
variable {P : Program} {w : World} {K : PySem.W.Frag} {mg : Str → Option Value} {base : Heap} {c : Cs}
theorem KeepA.same {H H' : Hp} {k : Addr} {ls : List Addr} {a : Abs} {dx rw ln : Addr} {st : Nat} {l : List State} {rds : List RD} (x : KeepA c H k ls a dx rw ln st l rds) (s : Same H H') : KeepA c H' k ls a dx rw ln st l rds :=
  ⟨s _ _ x.ins, x.ok, x.me, x.rws.same s, x.rok, x.cur, s _ _ x.lns, x.len, x.klen, x.nd, fun i b h => s _ _ (x.lat i b h), x.l64, x.nln, x.nrw⟩
theorem Post.still {H H' : Hp} {k : Addr} {ls : List Addr} {o : Option Abs} {ans : List Int} {Q : VK} {r : Addr} (p : Post c H k ls o ans Q) (s : Same H H') (hk : KeeperAt c H' k ls o) (hr : H r = none) (hr' : H' r = some (.lst (ans.map V.int))) (hls : r ∉ ls) : Q (.ref r) H' :=
  p H' r ls hr hr' hk (fun b o e _ _ => s _ _ e) (fun b hb => .inl hb) hls
theorem KeepA.fresh {H : Hp} {k r : Addr} {ls : List Addr} {a : Abs} {dx rw ln : Addr} {st : Nat} {l : List State} {rds : List RD} (x : KeepA c H k ls a dx rw ln st l rds) (h : H r = none) : r ∉ ls := fun hm => by
  obtain ⟨i, hi⟩ := List.mem_iff_getElem?.mp hm
  rw [x.lat i r hi] at h
  cases h
theorem KeepA.freshF {H : Hp} {k r : Addr} {ls : List Addr} {a : Abs} {dx rw ln : Addr} {st : Nat} {l : List State} {rds : List RD} (x : KeepA c H k ls a dx rw ln st l rds) (h : H r = none) : r ∉ rw :: ln :: ls := fun hm => by
  rcases List.mem_cons.mp hm with e | hm
  · obtain ⟨rs, q, _⟩ := x.rws
    rw [e, q] at h
    cases h
  · rcases List.mem_cons.mp hm with e | hm
    · rw [e, x.lns] at h
      cases h
    · exact x.fresh h hm
theorem KeepA.row {H : Hp} {k : Addr} {ls : List Addr} {a : Abs} {dx rw ln : Addr} {st : Nat} {l : List State} {rds : List RD} (x : KeepA c H k ls a dx rw ln st l rds) :
    ∃ (xs : List V) (r : Addr) (rd : RD) (dr d : Addr), H rw = some (.lst xs) ∧ atI xs (st : Int) = some (.ref r) ∧ H r = some (.ins c.ro dr (roF rd.kind rd.other d)) ∧ H d = some (.dK (iK (rdK rd.ws))) ∧ RowOk a.s a.me l a.state rd ∧ Fine a.s a.me a.state := by
  obtain ⟨rs, h1, h2, h3⟩ := x.rws
  obtain ⟨rd, h4, h5⟩ := x.rok.at_ st _ x.cur
  have lt : st < rs.length := by
    rw [h2]
    exact (List.getElem?_eq_some_iff.mp h4).1
  obtain ⟨rd', h6, dr, d, h7, h8⟩ := h3 st rs[st] (List.getElem?_eq_getElem lt)
  rw [h4] at h6
  cases h6
  exact ⟨_, rs[st], rd, dr, d, h1, atI_refs (List.getElem?_eq_getElem lt), h7, h8, h5, x.rok.fine _ (List.mem_of_getElem? x.cur)⟩
theorem KeepA.line {H : Hp} {k : Addr} {ls : List Addr} {a : Abs} {dx rw ln : Addr} {st : Nat} {l : List State} {rds : List RD} (x : KeepA c H k ls a dx rw ln st l rds) {d : Nat} (h : d < a.s.p) :
    ∃ b, ls[d]? = some b ∧ atI (ls.map V.ref) (d : Int) = some (.ref b) ∧ H b = some (.lst (((a.from_ d).map Int.ofNat).map V.int)) := by
  have lt : d < ls.length := by
    rw [x.len]
    exact h
  exact ⟨ls[d], List.getElem?_eq_getElem lt, atI_refs (List.getElem?_eq_getElem lt), x.lat d _ (List.getElem?_eq_getElem lt)⟩
theorem ro_ne_ke {C C' dx dx' : Addr} {a b e f : Int} {d x y : Addr} : HO.ins C dx (roF a b d) ≠ HO.ins C' dx' (keF e x f y) := fun q => by
  have := congrArg List.length (HO.ins.inj q).2.2
  exact absurd this (by show ¬ (3 = 4); decide)
theorem KeepA.move {H : Hp} {k : Addr} {ls : List Addr} {a : Abs} {dx rw ln : Addr} {st j : Nat} {l : List State} {rds : List RD} {y : State} (x : KeepA c H k ls a dx rw ln st l rds) (hj : l[j]? = some y) :
    KeepA c (upd H k (.ins c.ke dx (keF a.me rw j ln))) k ls { a with state := y } dx rw ln j l rds := by
  have kb : But2 k k H (upd H k (.ins c.ke dx (keF a.me rw j ln))) := fun b o e h _ => by rw [upd_ne h]; exact e
  have nl : ∀ {b : Addr} {zs : List V}, H b = some (.lst zs) → b ≠ k := fun h => ne_of h x.ins (by intro q; cases q)
  refine ⟨upd_same, x.ok, x.me, ?_, x.rok, hj, kb _ _ x.lns (nl x.lns) (nl x.lns), x.len, x.klen, x.nd, fun i b h => kb _ _ (x.lat i b h) (nl (x.lat i b h)) (nl (x.lat i b h)), x.l64, x.nln, x.nrw⟩
  obtain ⟨rs, h1, h2, h3⟩ := x.rws
  refine ⟨rs, kb _ _ h1 (nl h1) (nl h1), h2, fun i r e => ?_⟩
  obtain ⟨rd, a1, dr, d, a2, a3⟩ := h3 i r e
  have n1 : r ≠ k := ne_of a2 x.ins ro_ne_ke
  have n2 : d ≠ k := ne_of a3 x.ins (by intro q; cases q)
  exact ⟨rd, a1, dr, d, kb _ _ a2 n1 n1, kb _ _ a3 n2 n2⟩
theorem KeepA.lineUp {H : Hp} {k b : Addr} {ls : List Addr} {a : Abs} {dx rw ln : Addr} {st d : Nat} {l : List State} {rds : List RD} {ws : List Nat} (x : KeepA c H k ls a dx rw ln st l rds) (hb : ls[d]? = some b) (h64 : ws.length ≤ 64) :
    KeepA c (upd H b (.lst ((ws.map Int.ofNat).map V.int))) k ls { a with kept := a.kept.set d ws } dx rw ln st l rds := by
  have hbl := x.lat d b hb
  have mb : b ∈ ls := List.mem_of_getElem? hb
  have kb : But2 b b H (upd H b (.lst ((ws.map Int.ofNat).map V.int))) := fun z o e h _ => by rw [upd_ne h]; exact e
  have os := Odd.lst hbl
  have nk : k ≠ b := ne_of x.ins hbl (by intro q; cases q)
  have nr : rw ≠ b := fun e => x.nrw (e ▸ mb)
  have nl : ln ≠ b := fun e => x.nln (e ▸ mb)
  have ltd : d < a.kept.length := by
    rw [x.klen, ← x.len]
    exact (List.getElem?_eq_some_iff.mp hb).1
  have fr : ∀ i, Kh293.Abs.from_ { a with kept := a.kept.set d ws } i = if i = d then ws else a.from_ i := fun i => by
    unfold Kh293.Abs.from_
    rw [List.getD_eq_getElem?_getD, List.getD_eq_getElem?_getD]
    split
    · rename_i e
      subst e
      rw [List.getElem?_set_self ltd]
      rfl
    · rename_i e
      rw [List.getElem?_set_ne (fun q => e q.symm)]
  refine ⟨kb _ _ x.ins nk nk, x.ok, x.me, x.rws.but kb os os nr nr, x.rok, x.cur, kb _ _ x.lns nl nl, x.len, (by rw [List.length_set]; exact x.klen), x.nd, fun i z hz => ?_, fun i => ?_, x.nln, x.nrw⟩
  · rw [fr]
    by_cases e : i = d
    · subst e
      rw [hb] at hz
      cases hz
      rw [if_pos rfl, upd_same]
    · rw [if_neg e]
      have nz : z ≠ b := fun q => e (nd_ix x.nd (q ▸ hz) hb)
      rw [upd_ne nz]
      exact x.lat i z hz
  · rw [fr]
    split
    · exact h64
    · exact x.l64 i
theorem valV_rd : ∀ (ws : List (Nat × Nat)) {wd : Nat}, wd ∈ ws.map Prod.fst → ∃ j, (wd, j) ∈ ws ∧ valV (iK (rdK ws)) (Sum.inl (wd : Int)) = some (V.int (j : Int))
  | [], _, h => by simp at h
  | v :: ws, wd, h => by
    by_cases e : v.1 = wd
    · refine ⟨v.2, by rw [← e]; simp, ?_⟩
      show valV ((Sum.inl (v.1 : Int), V.int (v.2 : Int)) :: iK (rdK ws)) (Sum.inl (wd : Int)) = _
      rw [valV_pos (by rw [e])]
    · rw [List.map_cons, List.mem_cons] at h
      obtain ⟨j, h1, h2⟩ := valV_rd ws (h.resolve_left fun q => e q.symm)
      refine ⟨j, List.mem_cons_of_mem _ h1, ?_⟩
      show valV ((Sum.inl (v.1 : Int), V.int (v.2 : Int)) :: iK (rdK ws)) (Sum.inl (wd : Int)) = _
      rw [valV_neg (by intro q; have := Sum.inl.inj q; exact e (by omega))]
      exact h2
theorem mem_rd (ws : List (Nat × Nat)) (wd : Nat) : (valV (iK (rdK ws)) (Sum.inl (wd : Int))).isSome = (ws.map Prod.fst).contains wd := by
  rw [valV_iK, rdK_fst, Bool.eq_iff_iff, decide_eq_true_iff, List.contains_iff_mem, List.mem_map]
  exact ⟨fun ⟨z, hz, e⟩ => Int.ofNat.inj e ▸ hz, fun h => ⟨wd, h, rfl⟩⟩
def spAnother (c : Cs) : Sp := fun vs H Q _ => ∃ (k : Addr) (d : Nat) (ls : List Addr) (a : Abs), vs = [.ref k, .int (d : Int)] ∧ KeeperAt c H k ls (some a) ∧ Q (.bl (Kh293.okOther a d)) H
theorem sc_another : FnScope ["self", "party"] ["self", "party"] (defScope s_Keeper_is_another) := ⟨rfl, rfl, rfl, by decide +kernel, rfl, by decide +kernel, by decide +kernel⟩
theorem ok_another {f : Addr} {fd : FuncData} (F : Fun K "is_another" "Keeper.is_another" s_Keeper_is_another f fd) (T : Txt K mg c) : FnOk P w K mg base (CXe P w) 1 f fd ["self", "party"] (spAnother c) := by
  refine F.okE sc_another (fun vs H Q E h => ?_) (fun cdv A outer s H vs Q E hr h => ?_)
  · obtain ⟨k, d, ls, a, rfl, _⟩ := h
    rfl
  · obtain ⟨k, d, ls, a, rfl, ⟨dx, rw, ln, st, l, rds, ls0, rfl, KA⟩, q⟩ := h
    refine ⟨_, pss_one (ps_ret (pe_and (pe_cmpR op_ne (pv 1) (pe_fld (pv 0) rfl) (nomark _)) (pe_one (pe_cmpR op_lt (pv 1) (pe_callB call_len_seq rfl T.len PySem.boot_len (pa_cons (pe_fld (pv 0) rfl) pa_nil)) (nomark _))))), ?_⟩
    refine ⟨_, rfl, _, rfl, k, c.ke, dx, _, _, rfl, KA.ins, T.kec, T.ke1, keF1, rfl, _, rfl, ?_⟩
    rw [dec_nat]
    have e1 : (!decide (d = a.me)) = (d != a.me) := by
      rw [bne, Bool.beq_eq_decide_eq]
    rw [e1]
    refine iteB (fun e => ?_) fun e => ?_
    · refine ⟨_, rfl, _, rfl, k, c.ke, dx, _, _, rfl, KA.ins, T.kec, T.ke4, keF4, ln, _, rfl, .inl (SqL.of KA.lns), _, _, rfl, rfl, ?_⟩
      rw [List.length_map, KA.len]
      unfold Kh293.okOther at q
      rw [e, Bool.true_and] at q
      have e2 : decide ((d : Int) < (a.s.p : Int)) = decide (d < a.s.p) := by
        rw [Bool.eq_iff_iff, decide_eq_true_iff, decide_eq_true_iff]
        omega
      show Q (V.bl (decide ((d : Int) < (a.s.p : Int)))) H
      rw [e2]
      exact q
    · unfold Kh293.okOther at q
      rw [e, Bool.false_and] at q
      exact q
def nowAns (a : Abs) : List Int := if a.kind = 0 then [0] else (a.kind : Int) :: (a.other : Int) :: a.words.map Int.ofNat
def spNow (c : Cs) : Sp := fun vs H Q _ => ∃ (k : Addr) (ls : List Addr) (a : Abs), vs = [.ref k] ∧ KeeperAt c H k ls (some a) ∧ Post c H k ls (some a) (nowAns a) Q
theorem sc_now : FnScope ["self", "row"] ["self"] (defScope s_Keeper_now) := ⟨rfl, rfl, rfl, by decide +kernel, rfl, by decide +kernel, by decide +kernel⟩
theorem ok_now {f : Addr} {fd : FuncData} (F : Fun K "now" "Keeper.now" s_Keeper_now f fd) (T : Txt K mg c) : FnOk P w K mg base (CXe P w) 1 f fd ["self"] (spNow c) := by
  refine F.okE sc_now (fun vs H Q E h => ?_) (fun cdv A outer s H vs Q E hr h => ?_)
  · obtain ⟨k, ls, a, rfl, _⟩ := h
    rfl
  · obtain ⟨k, ls, a, rfl, ⟨dx, rw, ln, st, l, rds, ls0, rfl, KA⟩, q⟩ := h
    have nd := sc_now.nd
    obtain ⟨xs, r, rd, dr, d, h1, h2, h3, h4, ok, fx⟩ := KA.row
    refine ⟨_, pss_cons (ps_set (i := 1) nd rfl (Or.inl rfl) (pe_ix ix_list (pe_fld (pv 0) rfl) (pe_fld (pv 0) rfl) (fun _ _ => rfl)))
      (pss_cons (ps_if (pt_cmpR op_eq (pe_fld (pv 1) rfl) (pe_gl rfl T.NOTHING) (nomark _)) (pss_one (ps_ret (pe_lst (pa_cons (pe_gl rfl T.NOTHING) pa_nil)))) pss_nil)
      (pss_one (ps_ret (pe_op op_cat (pe_lst (pa_cons (pe_fld (pv 1) rfl) (pa_cons (pe_fld (pv 1) rfl) pa_nil))) (pe_callB (cr_sortedD rfl) rfl T.sorted boot_sorted5 (pa_cons (pe_fld (pv 1) rfl) pa_nil)))))), ?_⟩
    refine ⟨_, rfl, k, c.ke, dx, _, _, rfl, KA.ins, T.kec, T.ke2, keF2, _, rfl, k, c.ke, dx, _, _, rfl, KA.ins, T.kec, T.ke3, keF3, rw, _, _, _, rfl, rfl, SqL.of h1, h2, ?_⟩
    refine ⟨_, rfl, r, c.ro, dr, _, _, rfl, h3, T.roc, T.ro1, roF1 _ _ _, rfl, _, rfl, ?_⟩
    have ek : rd.kind = a.kind := ok.kind
    have e0 : decide (V.int (rd.kind : Int) = V.int 0) = decide (a.kind = 0) := by
      rw [← ek]
      exact dec_nat (b := 0)
    rw [e0]
    refine ite3 (fun e => ?_) fun e => ?_
    · refine ⟨(by show 1 ≤ sizeLine; decide), fun p hp => ?_⟩
      have s1 := Same.upd (o := .lst [.int 0]) hp
      unfold nowAns at q
      rw [if_pos e] at q
      exact q.still s1 ⟨dx, rw, ln, st, l, rds, ls0, rfl, KA.same s1⟩ hp upd_same (KA.freshF hp)
    · refine ⟨_, rfl, r, c.ro, dr, _, _, rfl, h3, T.roc, T.ro1, roF1 _ _ _, _, rfl, r, c.ro, dr, _, _, rfl, h3, T.roc, T.ro2, roF2 _ _ _, (by show 2 ≤ sizeLine; decide), fun p hp => ?_⟩
      have s1 := Same.upd (o := .lst [.int (rd.kind : Int), .int (rd.other : Int)]) hp
      have w1 := upd_same (H := H) (a := p) (o := .lst [.int (rd.kind : Int), .int (rd.other : Int)])
      generalize upd H p (.lst [.int (rd.kind : Int), .int (rd.other : Int)]) = H1 at s1 w1 ⊢
      refine ⟨_, rfl, r, c.ro, dr, _, _, rfl, s1 _ _ h3, T.roc, T.ro3, roF3 _ _ _, d, _, rfl, s1 _ _ h4, fun ns p2 hpm hsr hp2 => ?_⟩
      have en : ns = a.words.map Int.ofNat := by
        rw [rdK_fst, ok.words] at hpm
        exact rise_eq (rise_of hpm hsr (nd_ints (words_nd _ _))) (words_rise _ _) fun z => hpm.mem_iff
      subst en
      have s2 := Same.upd (o := .lst ((a.words.map Int.ofNat).map V.int)) hp2
      have w2 := upd_same (H := H1) (a := p2) (o := .lst ((a.words.map Int.ofNat).map V.int))
      generalize upd H1 p2 (.lst ((a.words.map Int.ofNat).map V.int)) = H2 at s2 w2 ⊢
      refine ⟨p, p2, _, _, rfl, rfl, s2 _ _ w1, w2, ?_, fun p3 hp3 => ?_⟩
      · rw [List.length_map, List.length_map]
        have : a.words.length ≤ 256 := by
          unfold Kh293.Abs.words Kh292.words
          exact Nat.le_trans (List.length_filter_le _ _) (by rw [List.length_range]; exact Nat.le_refl _)
        exact Nat.le_of_lt (small (by show 2 + _ ≤ _; omega))
      · have s12 := s1.trans s2
        have hp0 := s12.free hp3
        have s3 := Same.upd (o := .lst ([.int (rd.kind : Int), .int (rd.other : Int)] ++ (a.words.map Int.ofNat).map V.int)) hp3
        unfold nowAns at q
        rw [if_neg e] at q
        refine q.still (s12.trans s3) ⟨dx, rw, ln, st, l, rds, ls0, rfl, KA.same (s12.trans s3)⟩ hp0 ?_ (KA.freshF hp0)
        rw [upd_same, ek, show rd.other = a.other from ok.other]
        rfl
end
end Tk
end
section
set_option Elab.async false
set_option linter.all false
set_option maxRecDepth 100000
namespace Tk
open PySem PySem.Spec PyProof.Rows L2
open Kh292 (Script State at_ takesPart okScript comesTo never wordsAt)
def ansI (r : Kh293.Ans) : List Int := r.value :: r.out.map Int.ofNat
def spSay (c : Cs) : Sp := fun vs H Q _ => ∃ (k : Addr) (wd : Nat) (ls : List Addr) (a : Abs), vs = [.ref k, .int (wd : Int)] ∧ KeeperAt c H k ls (some a) ∧ Post c H k ls (Kh293.doing (some a) (.say wd)).1 (ansI (Kh293.doing (some a) (.say wd)).2) Q
def spHeard (c : Cs) : Sp := fun vs H Q _ => ∃ (k : Addr) (d wd : Nat) (ls : List Addr) (a : Abs), vs = [.ref k, .int (d : Int), .int (wd : Int)] ∧ KeeperAt c H k ls (some a) ∧ Post c H k ls (Kh293.doing (some a) (.heard d wd)).1 (ansI (Kh293.doing (some a) (.heard d wd)).2) Q
def spTake (c : Cs) : Sp := fun vs H Q _ => ∃ (k : Addr) (ls : List Addr) (a : Abs), vs = [.ref k] ∧ KeeperAt c H k ls (some a) ∧ Post c H k ls (Kh293.doing (some a) .take).1 (ansI (Kh293.doing (some a) .take).2) Q
def spKept (c : Cs) : Sp := fun vs H Q _ => ∃ (k : Addr) (d : Nat) (ls : List Addr) (a : Abs), vs = [.ref k, .int (d : Int)] ∧ KeeperAt c H k ls (some a) ∧ Post c H k ls (Kh293.doing (some a) (.kept d)).1 (ansI (Kh293.doing (some a) (.kept d)).2) Q
def spKeeperInit (c : Cs) : Sp := fun vs H Q _ => ∃ (k dx : Addr), vs = [.ref k] ∧ H k = some (.ins c.ke dx []) ∧ ∀ H', KeeperAt c H' k [] none → But k H H' → Q .non H'
theorem doing_say (a : Abs) (w : Nat) : Kh293.doing (some a) (.say w) = if a.kind ≠ 1 then (some a, Kh293.say (-1)) else if a.words.contains w = false then (some a, Kh293.say (-22)) else (some (a.on w), Kh293.say (a.other : Nat)) := rfl
theorem doing_heard (a : Abs) (d w : Nat) : Kh293.doing (some a) (.heard d w) = if Kh293.okOther a d = false ∨ 255 < w then (some a, Kh293.say (-22)) else if Kh293.MOST ≤ (a.from_ d).length then (some a, Kh293.say (-28)) else (some { a with kept := a.kept.set d (a.from_ d ++ [w]) }, Kh293.say ((a.from_ d).length + 1 : Nat)) := rfl
theorem doing_take (a : Abs) : Kh293.doing (some a) .take = if a.kind ≠ 2 then (some a, Kh293.say (-1)) else match a.from_ a.other with
        | [] => (some a, Kh293.say (-11))
        | w :: r => if a.words.contains w = false then (some a, Kh293.say (-71)) else (some { a.on w with kept := a.kept.set a.other r }, ⟨(a.other : Nat), [w]⟩) := rfl
theorem doing_kept (a : Abs) (d : Nat) : Kh293.doing (some a) (.kept d) = (some a, Kh293.say (if Kh293.okOther a d then ((a.from_ d).length : Int) else -22)) := rfl
section
variable {P : Program} {w : World} {K : PySem.W.Frag} {mg : Str → Option Value} {base : Heap} {c : Cs}
theorem one_still {H : Hp} {k : Addr} {ls : List Addr} {a : Abs} {dx rw ln : Addr} {st : Nat} {l : List State} {rds : List RD} {z : Int} {Q : VK} (KA : KeepA c H k ls a dx rw ln st l rds) (q : Post c H k (rw :: ln :: ls) (some a) [z] Q) : ([V.int z] : List V).length ≤ sizeLine ∧ ∀ p, H p = none → Q (.ref p) (upd H p (.lst [V.int z])) := by
  refine ⟨by show 1 ≤ sizeLine; decide, fun p hp => ?_⟩
  have s1 := Same.upd (o := .lst [.int z]) hp
  exact q.still s1 ⟨dx, rw, ln, st, l, rds, ls, rfl, KA.same s1⟩ hp upd_same (KA.freshF hp)
theorem sc_say : FnScope ["self", "word", "row"] ["self", "word"] (defScope s_Keeper_say) := ⟨rfl, rfl, rfl, by decide +kernel, rfl, by decide +kernel, by decide +kernel⟩
theorem ok_say {f : Addr} {fd : FuncData} (F : Fun K "say" "Keeper.say" s_Keeper_say f fd) (T : Txt K mg c) : FnOk P w K mg base (CXe P w) 1 f fd ["self", "word"] (spSay c) := by
  refine F.okE sc_say (fun vs H Q E h => ?_) (fun cdv A outer s H vs Q E hr h => ?_)
  · obtain ⟨k, wd, ls, a, rfl, _⟩ := h
    rfl
  · obtain ⟨k, wd, ls, a, rfl, ⟨dx, rw, ln, st, l, rds, ls0, rfl, KA⟩, q⟩ := h
    have nd := sc_say.nd
    have hu := hu_of hr
    obtain ⟨xs, r, rd, dr, d, h1, h2, h3, h4, ok, fx⟩ := KA.row
    refine ⟨_, pss_cons (ps_set (i := 2) nd rfl (Or.inl rfl) (pe_ix ix_list (pe_fld (pv 0) rfl) (pe_fld (pv 0) rfl) (fun _ _ => rfl)))
      (pss_cons (ps_if (pt_cmpR op_ne (pe_fld (pv 2) rfl) (pe_gl rfl T.SPEAKS) (nomark _)) (pss_one (ps_ret (pe_lst (pa_cons (pe_gl rfl T.NOT_NOW) pa_nil)))) pss_nil)
      (pss_cons (ps_if (pt_cmp (pc_dnotin hu (pv 1) (pe_fld (pv 2) rfl))) (pss_one (ps_ret (pe_lst (pa_cons (pe_gl rfl T.NOT_AS_TOLD) pa_nil)))) pss_nil)
      (pss_cons (ps_fld (pv 0) (pe_dget hu (pe_fld (pv 2) rfl) (pv 1) (fun _ _ => rfl)) rfl)
      (pss_one (ps_ret (pe_lst (pa_cons (pe_fld (pv 2) rfl) pa_nil))))))), ?_⟩
    refine ⟨_, rfl, k, c.ke, dx, _, _, rfl, KA.ins, T.kec, T.ke2, keF2, _, rfl, k, c.ke, dx, _, _, rfl, KA.ins, T.kec, T.ke3, keF3, rw, _, _, _, rfl, rfl, SqL.of h1, h2, ?_⟩
    refine ⟨_, rfl, r, c.ro, dr, _, _, rfl, h3, T.roc, T.ro1, roF1 _ _ _, rfl, _, rfl, ?_⟩
    have ek : rd.kind = a.kind := ok.kind
    have ew : rd.ws.map Prod.fst = a.words := ok.words
    have e0 : (!decide (V.int (rd.kind : Int) = V.int 1)) = decide (a.kind ≠ 1) := by
      rw [ek, show V.int 1 = V.int ((1 : Nat) : Int) from rfl, dec_nat]
      simp
    rw [e0]
    rw [doing_say] at q
    refine ite3 (fun e => ?_) fun e => ?_
    · rw [if_pos e] at q
      exact one_still KA q
    rw [if_neg e] at q
    refine ⟨_, rfl, _, rfl, r, c.ro, dr, _, _, rfl, h3, T.roc, T.ro3, roF3 _ _ _, d, _, rfl, DGet.k (k := Sum.inl (wd : Int)) h4, _, rfl, ?_⟩
    rw [mem_rd, ew]
    refine iteB (fun e2 => ?_) fun e2 => ?_
    · rw [if_pos (by simpa using e2)] at q
      exact one_still KA q
    have e3 : a.words.contains wd = true := by simpa using e2
    rw [if_neg (by rw [e3]; simp)] at q
    obtain ⟨j, hj, hv⟩ := valV_rd rd.ws (wd := wd) (by rw [ew]; exact List.contains_iff_mem.mp e3)
    refine ⟨_, rfl, r, c.ro, dr, _, _, rfl, h3, T.roc, T.ro3, roF3 _ _ _, _, rfl, d, V.int (j : Int), rfl, ?_, ?_⟩
    · have := DGet.k (k := Sum.inl (wd : Int)) h4
      rw [hv] at this
      exact this
    refine ⟨_, rfl, k, c.ke, dx, _, rfl, KA.ins, T.kec, T.ke3, (by show 4 < 1000; decide), ?_⟩
    rw [keFs]
    have KB := KA.move (ok.next _ hj)
    have nk : r ≠ k := ne_of h3 KA.ins ro_ne_ke
    have h3' : (upd H k (.ins c.ke dx (keF a.me rw j ln))) r = some (.ins c.ro dr (roF rd.kind rd.other d)) := by rw [upd_ne nk]; exact h3
    refine ⟨_, rfl, r, c.ro, dr, _, _, rfl, h3', T.roc, T.ro2, roF2 _ _ _, (by show 1 ≤ sizeLine; decide), fun p hp => ?_⟩
    have s2 := Same.upd (o := .lst [.int (rd.other : Int)]) hp
    have np : p ≠ k := fun e => by rw [e, upd_same] at hp; cases hp
    have hp0 : H p = none := by rw [upd_ne np] at hp; exact hp
    refine q _ p _ hp0 ?_ ⟨dx, rw, ln, j, l, rds, ls0, rfl, KB.same s2⟩ (fun b o e hb _ => ?_) (fun b hb => .inl hb) (KA.freshF hp0)
    · rw [upd_same, show rd.other = a.other from ok.other]
      rfl
    · refine s2 _ _ ?_
      rw [upd_ne hb]
      exact e
theorem sc_heard : FnScope ["self", "other", "word", "line"] ["self", "other", "word"] (defScope s_Keeper_heard) := ⟨rfl, rfl, rfl, by decide +kernel, rfl, by decide +kernel, by decide +kernel⟩
theorem ok_heard {f fa : Addr} {fd fda : FuncData} (F : Fun K "heard" "Keeper.heard" s_Keeper_heard f fd) (T : Txt K mg c) (GA : Me P w K mg base c.ke "is_another" 1 ["self", "party"] (spAnother c) fa fda) : FnOk P w K mg base (CXe P w) 2 f fd ["self", "other", "word"] (spHeard c) := by
  refine F.okE sc_heard (fun vs H Q E h => ?_) (fun cdv A outer s H vs Q E hr h => ?_)
  · obtain ⟨k, d, wd, ls, a, rfl, _⟩ := h
    rfl
  · obtain ⟨k, d, wd, ls, a, rfl, ⟨dx, rw, ln, st, l, rds, ls0, rfl, KA⟩, q⟩ := h
    have nd := sc_heard.nd
    refine ⟨_, pss_cons (ps_if (PW.pt (pw_or (pt_not (pt_val (pe_meth (pv 0) T.kec GA.me GA.ok hr GA.bi .nil pass0E (pa_cons (pv 1) pa_nil)))) (pw_or1 (pt_cmpR op_gt (pv 2) (pe_gl rfl T.LAST) (nomark _))))) (pss_one (ps_ret (pe_lst (pa_cons (pe_gl rfl T.NOT_AS_TOLD) pa_nil)))) pss_nil)
      (pss_cons (ps_set (i := 3) nd rfl (Or.inl rfl) (pe_ix ix_list (pe_fld (pv 0) rfl) (pv 1) (fun _ _ => rfl)))
      (pss_cons (ps_if (pt_cmpR op_eq (pe_callB call_len_seq rfl T.len PySem.boot_len (pa_cons (pv 3) pa_nil)) (pe_gl rfl T.MOSTK) (nomark _)) (pss_one (ps_ret (pe_lst (pa_cons (pe_gl rfl T.NO_ROOM) pa_nil)))) pss_nil)
      (pss_cons (ps_expr (pe_bm PySem.F.plainAttrs_list PySem.F.slot_list_append PySem.F.type_list_append mt_append (pv 3) (pa_cons (pv 2) pa_nil)))
      (pss_one (ps_ret (pe_lst (pa_cons (pe_callB call_len_seq rfl T.len PySem.boot_len (pa_cons (pv 3) pa_nil)) pa_nil))))))), ?_⟩
    rw [doing_heard] at q
    refine ⟨_, rfl, k, dx, _, rfl, KA.ins, rfl, _, rfl, k, d, _, a, rfl, ⟨dx, rw, ln, st, l, rds, ls0, rfl, KA⟩, _, rfl, ?_⟩
    refine iteB (fun e => ?_) fun e => ?_
    · refine iteT ?_
      rw [if_pos (.inl (by simpa using e))] at q
      exact one_still KA q
    have eo : Kh293.okOther a d = true := by simpa using e
    refine ⟨_, rfl, _, _, rfl, rfl, _, rfl, ?_⟩
    refine ite3 (fun e2 => ?_) fun e2 => ?_
    · rw [if_pos (.inr (by omega))] at q
      exact one_still KA q
    rw [if_neg (by rw [eo]; simp; omega)] at q
    have ltd : d < a.s.p := by
      unfold Kh293.okOther at eo
      simp only [Bool.and_eq_true, decide_eq_true_eq] at eo
      exact eo.2
    obtain ⟨b, hb, hat, hbl⟩ := KA.line ltd
    refine ⟨_, rfl, k, c.ke, dx, _, _, rfl, KA.ins, T.kec, T.ke4, keF4, _, rfl, ln, _, _, _, rfl, rfl, SqL.of KA.lns, hat, ?_⟩
    refine ⟨_, rfl, b, _, rfl, .inl (SqL.of hbl), rfl, _, rfl, ?_⟩
    have l64 := KA.l64 d
    have e3 : decide (V.int ((((a.from_ d).map Int.ofNat).map V.int).length : Int) = V.int 64) = decide (Kh293.MOST ≤ (a.from_ d).length) := by
      rw [List.length_map, List.length_map, Bool.eq_iff_iff, decide_eq_true_iff, decide_eq_true_iff]
      show _ ↔ 64 ≤ _
      exact ⟨fun h => by have := V.int.inj h; omega, fun h => by have e : (a.from_ d).length = 64 := by omega
                                                                 rw [e]; rfl⟩
    rw [e3]
    refine ite3 (fun e4 => ?_) fun e4 => ?_
    · rw [if_pos e4] at q
      exact one_still KA q
    rw [if_neg e4] at q
    have lt64 : (a.from_ d).length < 64 := by
      have : ¬ 64 ≤ (a.from_ d).length := e4
      omega
    refine ⟨_, rfl, .inl ⟨rfl, _, SqL.of hbl⟩, _, rfl, b, _, _, rfl, rfl, hbl, (by rw [List.length_map, List.length_map]; exact small (by omega)), ?_⟩
    have KB := KA.lineUp (ws := a.from_ d ++ [wd]) hb (by rw [List.length_append]; show _ + 1 ≤ 64; omega)
    have em : ((a.from_ d ++ [wd]).map Int.ofNat).map V.int = ((a.from_ d).map Int.ofNat).map V.int ++ [V.int (wd : Int)] := by
      rw [List.map_append, List.map_append]
      rfl
    rw [em] at KB
    have hb1 := upd_same (H := H) (a := b) (o := .lst (((a.from_ d).map Int.ofNat).map V.int ++ [V.int (wd : Int)]))
    have fr1 : ∀ z o, H z = some o → z ≠ k → z ∉ ls0 → (upd H b (.lst (((a.from_ d).map Int.ofNat).map V.int ++ [V.int (wd : Int)]))) z = some o := fun z o e _ hz => by
      rw [upd_ne (fun (e2 : z = b) => hz (e2 ▸ List.mem_of_getElem? hb))]
      exact e
    have fr0 : ∀ z, (upd H b (.lst (((a.from_ d).map Int.ofNat).map V.int ++ [V.int (wd : Int)]))) z = none → H z = none := fun z hz => by
      by_cases e : z = b
      · rw [e, upd_same] at hz
        cases hz
      · rw [upd_ne e] at hz
        exact hz
    generalize upd H b (.lst (((a.from_ d).map Int.ofNat).map V.int ++ [V.int (wd : Int)])) = H1 at KB hb1 fr1 fr0 ⊢
    refine ⟨_, rfl, b, _, rfl, .inl (SqL.of hb1), (by show 1 ≤ sizeLine; decide), fun p hp => ?_⟩
    have s2 := Same.upd (o := .lst [.int ((((a.from_ d).map Int.ofNat).map V.int ++ [V.int (wd : Int)]).length : Int)]) hp
    refine q _ p _ (fr0 p hp) ?_ ⟨dx, rw, ln, st, l, rds, ls0, rfl, KB.same s2⟩ (fun z o e h1 h2 => s2 _ _ (fr1 z o e h1 fun hm => h2 (by simp [hm]))) (fun z hz => .inl hz) (KA.freshF (fr0 p hp))
    rw [upd_same, List.length_append, List.length_map, List.length_map]
    rfl
theorem sc_kept : FnScope ["self", "other"] ["self", "other"] (defScope s_Keeper_kept) := ⟨rfl, rfl, rfl, by decide +kernel, rfl, by decide +kernel, by decide +kernel⟩
theorem ok_kept {f fa : Addr} {fd fda : FuncData} (F : Fun K "kept" "Keeper.kept" s_Keeper_kept f fd) (T : Txt K mg c) (GA : Me P w K mg base c.ke "is_another" 1 ["self", "party"] (spAnother c) fa fda) : FnOk P w K mg base (CXe P w) 2 f fd ["self", "other"] (spKept c) := by
  refine F.okE sc_kept (fun vs H Q E h => ?_) (fun cdv A outer s H vs Q E hr h => ?_)
  · obtain ⟨k, d, ls, a, rfl, _⟩ := h
    rfl
  · obtain ⟨k, d, _, a, rfl, ⟨dx, rw, ln, st, l, rds, ls0, rfl, KA⟩, q⟩ := h
    refine ⟨_, pss_cons (ps_if (pt_not (pt_val (pe_meth (pv 0) T.kec GA.me GA.ok hr GA.bi .nil pass0E (pa_cons (pv 1) pa_nil)))) (pss_one (ps_ret (pe_lst (pa_cons (pe_gl rfl T.NOT_AS_TOLD) pa_nil)))) pss_nil)
      (pss_one (ps_ret (pe_lst (pa_cons (pe_callB call_len_seq rfl T.len PySem.boot_len (pa_cons (pe_ix ix_list (pe_fld (pv 0) rfl) (pv 1) (fun _ _ => rfl)) pa_nil)) pa_nil)))), ?_⟩
    rw [doing_kept] at q
    refine ⟨_, rfl, k, dx, _, rfl, KA.ins, rfl, _, rfl, k, d, _, a, rfl, ⟨dx, rw, ln, st, l, rds, ls0, rfl, KA⟩, _, rfl, ?_⟩
    refine iteB (fun e => ?_) fun e => ?_
    · rw [show Kh293.okOther a d = false by simpa using e] at q
      exact one_still KA q
    have eo : Kh293.okOther a d = true := by simpa using e
    rw [eo] at q
    have ltd : d < a.s.p := by
      unfold Kh293.okOther at eo
      simp only [Bool.and_eq_true, decide_eq_true_eq] at eo
      exact eo.2
    obtain ⟨b, hb, hat, hbl⟩ := KA.line ltd
    refine ⟨_, rfl, k, c.ke, dx, _, _, rfl, KA.ins, T.kec, T.ke4, keF4, _, rfl, ln, _, _, _, rfl, rfl, SqL.of KA.lns, hat, b, _, rfl, .inl (SqL.of hbl), ?_⟩
    have e5 : ((((a.from_ d).map Int.ofNat).map V.int).length : Int) = ((a.from_ d).length : Int) := by rw [List.length_map, List.length_map]
    rw [e5]
    exact one_still KA q
theorem sc_keeperI : FnScope ["self"] ["self"] (defScope s_Keeper_init) := ⟨rfl, rfl, rfl, by decide +kernel, rfl, by decide +kernel, by decide +kernel⟩
theorem ok_keeperI {f : Addr} {fd : FuncData} (F : Fun K "__init__" "Keeper.__init__" s_Keeper_init f fd) (T : Txt K mg c) : FnOk P w K mg base (CXe P w) 1 f fd ["self"] (spKeeperInit c) := by
  refine F.okE sc_keeperI (fun vs H Q E h => ?_) (fun cdv A outer s H vs Q E hr h => ?_)
  · obtain ⟨k, dx, rfl, _⟩ := h
    rfl
  · obtain ⟨k, dx, rfl, hk, q⟩ := h
    refine ⟨_, pss_cons (ps_fld (pv 0) pe_int rfl) (pss_cons (ps_fld (pv 0) (pe_lst pa_nil) rfl) (pss_cons (ps_fld (pv 0) pe_int rfl) (pss_one (ps_fld (pv 0) (pe_lst pa_nil) rfl)))), ?_⟩
    refine ⟨_, rfl, k, c.ke, dx, [], rfl, hk, T.kec, T.ke1, (by show 0 < 1000; decide), ?_⟩
    refine ⟨Nat.zero_le _, fun rw hrw => ?_⟩
    have nk : k ≠ rw := fun e => by rw [← e, upd_same] at hrw; cases hrw
    have b1 : But k H (upd (upd H k (.ins c.ke dx (putF "me" (.int 0) []))) rw (.lst [])) := upd_but.trans (But.of (Same.upd hrw))
    have k1 : (upd (upd H k (.ins c.ke dx (putF "me" (.int 0) []))) rw (.lst [])) k = some (.ins c.ke dx (putF "me" (.int 0) [])) := by rw [upd_ne nk, upd_same]
    generalize upd (upd H k (.ins c.ke dx (putF "me" (.int 0) []))) rw (.lst []) = H1 at b1 k1 ⊢
    refine ⟨_, rfl, k, c.ke, dx, _, rfl, k1, T.kec, T.ke2, (by show 1 < 1000; decide), ?_⟩
    refine ⟨_, rfl, k, c.ke, dx, _, rfl, upd_same, T.kec, T.ke3, (by show 2 < 1000; decide), ?_⟩
    rw [upd_upd]
    refine ⟨Nat.zero_le _, fun ln hln => ?_⟩
    have nk2 : k ≠ ln := fun e => by rw [← e, upd_same] at hln; cases hln
    refine ⟨_, rfl, k, c.ke, dx, _, rfl, (by rw [upd_ne nk2, upd_same]), T.kec, T.ke4, (by show 3 < 1000; decide), ?_⟩
    refine q _ ⟨rfl, dx, 0, rw, 0, ln, upd_same⟩ ?_
    exact ((b1.trans upd_but).trans (But.of (Same.upd hln))).trans upd_but
theorem sc_take : FnScope ["self", "row", "line", "word"] ["self"] (defScope s_Keeper_take) := ⟨rfl, rfl, rfl, by decide +kernel, rfl, by decide +kernel, by decide +kernel⟩
theorem other_lt {s : Script} (hs : okScript s = true) {p : Nat} {x : State} (f : Fine s p x) (h : Kh292.kind s p x ≠ 0) : Kh292.other s p x < s.p := by
  unfold Kh292.other Kh292.kind at *
  cases e : x.places with
  | nil =>
    rw [e] at h
    exact absurd rfl h
  | cons q r =>
    have ok := okP hs (f.good.lt q (by rw [e]; simp))
    dsimp only
    split
    · exact ok.to
    · exact ok.fr
theorem ok_take {f : Addr} {fd : FuncData} (F : Fun K "take" "Keeper.take" s_Keeper_take f fd) (T : Txt K mg c) : FnOk P w K mg base (CXe P w) 1 f fd ["self"] (spTake c) := by
  refine F.okE sc_take (fun vs H Q E h => ?_) (fun cdv A outer s H vs Q E hr h => ?_)
  · obtain ⟨k, ls, a, rfl, _⟩ := h
    rfl
  · obtain ⟨k, ls, a, rfl, ⟨dx, rw, ln, st, l, rds, ls0, rfl, KA⟩, q⟩ := h
    have nd := sc_take.nd
    have hu := hu_of hr
    obtain ⟨xs, r, rd, dr, d, h1, h2, h3, h4, ok, fx⟩ := KA.row
    refine ⟨_, pss_cons (ps_set (i := 1) nd rfl (Or.inl rfl) (pe_ix ix_list (pe_fld (pv 0) rfl) (pe_fld (pv 0) rfl) (fun _ _ => rfl)))
      (pss_cons (ps_if (pt_cmpR op_ne (pe_fld (pv 1) rfl) (pe_gl rfl T.LISTENS) (nomark _)) (pss_one (ps_ret (pe_lst (pa_cons (pe_gl rfl T.NOT_NOW) pa_nil)))) pss_nil)
      (pss_cons (ps_set (i := 2) nd rfl (Or.inl rfl) (pe_ix ix_list (pe_fld (pv 0) rfl) (pe_fld (pv 1) rfl) (fun _ _ => rfl)))
      (pss_cons (ps_if (pt_cmpR op_eq (pe_callB call_len_seq rfl T.len PySem.boot_len (pa_cons (pv 2) pa_nil)) pe_int (nomark _)) (pss_one (ps_ret (pe_lst (pa_cons (pe_gl rfl T.NOTHING_CAME) pa_nil)))) pss_nil)
      (pss_cons (ps_if (pt_cmp (pc_dnotin hu (pe_ix ix_list (pv 2) pe_int (fun _ _ => rfl)) (pe_fld (pv 1) rfl))) (pss_one (ps_ret (pe_lst (pa_cons (pe_gl rfl T.NOT_ITS) pa_nil)))) pss_nil)
      (pss_cons (ps_set (i := 3) nd rfl (Or.inl rfl) (pe_bm PySem.F.plainAttrs_list PySem.F.slot_list_pop PySem.F.type_list_pop mt_popAt (pv 2) (pa_cons pe_int pa_nil)))
      (pss_cons (ps_fld (pv 0) (pe_dget hu (pe_fld (pv 1) rfl) (pv 3) (fun _ _ => rfl)) rfl)
      (pss_one (ps_ret (pe_lst (pa_cons (pe_fld (pv 1) rfl) (pa_cons (pv 3) pa_nil))))))))))), ?_⟩
    refine ⟨_, rfl, k, c.ke, dx, _, _, rfl, KA.ins, T.kec, T.ke2, keF2, _, rfl, k, c.ke, dx, _, _, rfl, KA.ins, T.kec, T.ke3, keF3, rw, _, _, _, rfl, rfl, SqL.of h1, h2, ?_⟩
    refine ⟨_, rfl, r, c.ro, dr, _, _, rfl, h3, T.roc, T.ro1, roF1 _ _ _, rfl, _, rfl, ?_⟩
    have ek : rd.kind = a.kind := ok.kind
    have ew : rd.ws.map Prod.fst = a.words := ok.words
    have eo : rd.other = a.other := ok.other
    have e0 : (!decide (V.int (rd.kind : Int) = V.int 2)) = decide (a.kind ≠ 2) := by
      rw [ek, show V.int 2 = V.int ((2 : Nat) : Int) from rfl, dec_nat]
      simp
    rw [e0]
    rw [doing_take] at q
    refine ite3 (fun e => ?_) fun e => ?_
    · rw [if_pos e] at q
      exact one_still KA q
    rw [if_neg e] at q
    have k2 : a.kind = 2 := by simpa using e
    have olt : a.other < a.s.p := other_lt KA.ok fx (by show a.kind ≠ 0; rw [k2]; decide)
    obtain ⟨b, hb, hat, hbl⟩ := KA.line olt
    refine ⟨_, rfl, k, c.ke, dx, _, _, rfl, KA.ins, T.kec, T.ke4, keF4, _, rfl, r, c.ro, dr, _, _, rfl, h3, T.roc, T.ro2, roF2 _ _ _, ln, _, _, _, rfl, rfl, SqL.of KA.lns, (by rw [eo]; exact hat), ?_⟩
    refine ⟨_, rfl, b, _, rfl, .inl (SqL.of hbl), rfl, _, rfl, ?_⟩
    cases ef : a.from_ a.other with
    | nil =>
      rw [ef] at q
      refine iteT ?_
      exact one_still KA q
    | cons wd rest =>
      rw [ef] at q hbl
      dsimp only at q
      have e3 : decide (V.int ((((wd :: rest).map Int.ofNat).map V.int).length : Int) = V.int 0) = false := by
        rw [decide_eq_false_iff_not]
        intro h
        have := V.int.inj h
        simp at this
        omega
      rw [e3]
      refine iteF ?_
      have at0 : ∀ {z : Int}, z = 0 → atI (((wd :: rest).map Int.ofNat).map V.int) z = some (V.int (wd : Int)) := fun {z} hz => by
        subst hz
        exact atI_nat (j := 0) rfl
      refine ⟨_, rfl, b, _, _, _, rfl, rfl, SqL.of hbl, at0 rfl, _, rfl, r, c.ro, dr, _, _, rfl, h3, T.roc, T.ro3, roF3 _ _ _, d, _, rfl, DGet.k (k := Sum.inl (wd : Int)) h4, _, rfl, ?_⟩
      rw [mem_rd, ew]
      refine iteB (fun e4 => ?_) fun e4 => ?_
      · rw [if_pos (by simpa using e4)] at q
        exact one_still KA q
      have e5 : a.words.contains wd = true := by simpa using e4
      rw [if_neg (by rw [e5]; simp)] at q
      obtain ⟨j, hj, hv⟩ := valV_rd rd.ws (wd := wd) (by rw [ew]; exact List.contains_iff_mem.mp e5)
      refine ⟨_, rfl, .inl ⟨rfl, _, SqL.of hbl⟩, b, _, 0, 0, V.int (wd : Int), rfl, rfl, hbl, (by decide), (by decide), (ixN_seq (n := (((wd :: rest).map Int.ofNat).map V.int).length) (i := 0) (j := 0) (by unfold ixN; rw [if_pos (by decide), if_pos (by simp)]; rfl)).1, rfl, ?_⟩
      have l64 := KA.l64 a.other
      rw [ef, List.length_cons] at l64
      have K1 := KA.lineUp (ws := rest) hb (by omega)
      have nbr : r ≠ b := ne_of h3 hbl (by intro q; cases q)
      have nbd : d ≠ b := ne_of h4 hbl (by intro q; cases q)
      have h3' : (upd H b (.lst ((rest.map Int.ofNat).map V.int))) r = some (.ins c.ro dr (roF rd.kind rd.other d)) := by rw [upd_ne nbr]; exact h3
      have h4' : (upd H b (.lst ((rest.map Int.ofNat).map V.int))) d = some (.dK (iK (rdK rd.ws))) := by rw [upd_ne nbd]; exact h4
      have fr1 : ∀ z o, H z = some o → z ∉ ls0 → (upd H b (.lst ((rest.map Int.ofNat).map V.int))) z = some o := fun z o e hz => by
        rw [upd_ne (fun (e2 : z = b) => hz (e2 ▸ List.mem_of_getElem? hb))]
        exact e
      have fr0 : ∀ z, (upd H b (.lst ((rest.map Int.ofNat).map V.int))) z = none → H z = none := fun z hz => by
        by_cases e : z = b
        · rw [e, upd_same] at hz
          cases hz
        · rw [upd_ne e] at hz
          exact hz
      have ee : (((wd :: rest).map Int.ofNat).map V.int).eraseIdx 0 = (rest.map Int.ofNat).map V.int := rfl
      rw [ee]
      generalize upd H b (.lst ((rest.map Int.ofNat).map V.int)) = H1 at K1 h3' h4' fr1 fr0 ⊢
      refine ⟨_, rfl, r, c.ro, dr, _, _, rfl, h3', T.roc, T.ro3, roF3 _ _ _, _, rfl, d, V.int (j : Int), rfl, ?_, ?_⟩
      · have := DGet.k (k := Sum.inl (wd : Int)) h4'
        rw [hv] at this
        exact this
      refine ⟨_, rfl, k, c.ke, dx, _, rfl, K1.ins, T.kec, T.ke3, (by show 4 < 1000; decide), ?_⟩
      rw [keFs]
      have K2 := K1.move (ok.next _ hj)
      have nk : r ≠ k := ne_of h3' K1.ins ro_ne_ke
      have h3'' : (upd H1 k (.ins c.ke dx (keF a.me rw j ln))) r = some (.ins c.ro dr (roF rd.kind rd.other d)) := by rw [upd_ne nk]; exact h3'
      refine ⟨_, rfl, r, c.ro, dr, _, _, rfl, h3'', T.roc, T.ro2, roF2 _ _ _, _, rfl, (by show 2 ≤ sizeLine; decide), fun p hp => ?_⟩
      have s2 := Same.upd (o := .lst [.int (rd.other : Int), .int (wd : Int)]) hp
      have np : p ≠ k := fun e => by rw [e, upd_same] at hp; cases hp
      have hp0 : H p = none := fr0 p (by rw [upd_ne np] at hp; exact hp)
      refine q _ p _ hp0 ?_ ⟨dx, rw, ln, j, l, rds, ls0, rfl, K2.same s2⟩ (fun z o e h1 h2 => s2 _ _ ?_) (fun z hz => .inl hz) (KA.freshF hp0)
      · rw [upd_same, eo]
        rfl
      · rw [upd_ne h1]
        exact fr1 z o e fun hm => h2 (by simp [hm])
end
end Tk
end
section
set_option linter.all false
namespace Tk
open PySem PySem.Spec PyProof.Rows L2
open Kh292 (Script State at_ takesPart okScript comesTo never wordsAt)
theorem once_nodup : ∀ (n : Nat) (ns : List Int), ns.length = n → ((onceI ns).length = ns.length ↔ ns.Nodup)
  | 0, ns, h => by
    have e : ns = [] := List.length_eq_zero_iff.mp h
    subst e
    exact ⟨fun _ => List.nodup_nil, fun _ => rfl⟩
  | n + 1, ns, h => by
    rcases List.eq_nil_or_concat ns with e | ⟨m, z, e⟩
    · rw [e] at h
      simp at h
    · rw [List.concat_eq_append] at e
      subst e
      have hm : m.length = n := by simp at h; omega
      have ih := once_nodup n m hm
      rw [onceI_snoc, List.length_append, List.nodup_append]
      have hl := onceI_len m
      unfold addI
      split
      · rename_i hz
        constructor
        · intro q
          rw [List.length_cons, List.length_nil] at q
          omega
        · rintro ⟨_, _, h3⟩
          exact absurd rfl (h3 z ((onceI_mem m z).mp hz) z (by simp))
      · rename_i hz
        rw [List.length_append]
        constructor
        · intro q
          have q' : (onceI m).length = m.length := by simp at q; exact q
          refine ⟨ih.mp q', by simp, fun a ha b hb e => hz ?_⟩
          rw [onceI_mem, ← List.mem_singleton.mp hb, ← e]
          exact ha
        · rintro ⟨h1, _, _⟩
          rw [ih.mpr h1]
def nxOk (n : Nat) (w : Nat × Option Nat) : Bool := decide (w.1 < 256) && (match w.2 with | some q => decide (q < n) | none => true)
theorem ways_all (n : Nat) : ∀ l : List Int, (∀ z ∈ l, 0 ≤ z ∧ z < 256) → l.length % 2 = 0 →
    ((Kh293Neutral.ways l).all (nxOk n)) = (alt (l.drop 1)).all fun o => decide (o < (n : Int)) || decide (o = 255)
  | [], _, _ => rfl
  | [a], _, h => by simp at h
  | a :: b :: r, h, hl => by
    have ih := ways_all n r (fun z hz => h z (by simp [hz])) (by simp at hl; omega)
    have e1 : alt ((a :: b :: r).drop 1) = b :: alt (r.drop 1) := by
      cases r with
      | nil => rfl
      | cons x r => rfl
    rw [e1, List.all_cons, ← ih]
    show (nxOk n (Kh293Neutral.nat a, if b = 255 then none else some (Kh293Neutral.nat b)) && _) = _
    congr 1
    unfold nxOk
    dsimp only
    obtain ⟨a0, a1⟩ := h a (by simp)
    obtain ⟨b0, b1⟩ := h b (by simp)
    have ea : decide (Kh293Neutral.nat a < 256) = true := by
      unfold Kh293Neutral.nat
      rw [decide_eq_true_iff]
      omega
    rw [ea, Bool.true_and]
    by_cases e : b = 255
    · rw [if_pos e, decide_eq_true e, Bool.or_true]
    · rw [if_neg e, decide_eq_false e, Bool.or_false]
      show decide (Kh293Neutral.nat b < n) = _
      unfold Kh293Neutral.nat
      rw [Bool.eq_iff_iff, decide_eq_true_iff, decide_eq_true_iff]
      omega
structure RowIn (row : List Int) : Prop where
  lo : 4 ≤ row.length
  hi : row.length ≤ 10
  ev : row.length % 2 = 0
  bd : ∀ z ∈ row, 0 ≤ z ∧ z < 256
theorem rowIn_of {row : List Int} (h : Kh293Neutral.okPlaceRow row = true) : RowIn row := by
  unfold Kh293Neutral.okPlaceRow Kh293Neutral.below at h
  simp only [Bool.and_eq_true, decide_eq_true_eq, List.all_eq_true, beq_iff_eq] at h
  exact ⟨h.1.1.2, h.1.2, h.2, fun z hz => ⟨(h.1.1.1 z hz).1, (h.1.1.1 z hz).2⟩⟩
theorem place_ok {row : List Int} (R : RowIn row) (p n : Nat) : Kh292.okPlace p n (Kh293Neutral.place row) = (twoB (p : Int) row && waysB (n : Int) row) := by
  have lo := R.lo
  have m0 : 0 ≤ row.getD 0 0 := by
    rw [List.getD_eq_getElem?_getD, List.getElem?_eq_getElem (by omega : 0 < row.length)]
    exact (R.bd _ (List.getElem_mem _)).1
  have m1 : 0 ≤ row.getD 1 0 := by
    rw [List.getD_eq_getElem?_getD, List.getElem?_eq_getElem (by omega : 1 < row.length)]
    exact (R.bd _ (List.getElem_mem _)).1
  have dn : ∀ z ∈ row.drop 2, 0 ≤ z ∧ z < 256 := fun z hz => R.bd z (List.mem_of_mem_drop hz)
  have de : (row.drop 2).length % 2 = 0 := by rw [List.length_drop]; have := R.ev; omega
  have wf := ways_fst (row.drop 2) (fun z hz => (dn z hz).1) de
  have wl : (Kh293Neutral.ways (row.drop 2)).length = (alt (row.drop 2)).length := by
    have := congrArg List.length wf
    rwa [List.length_map] at this
  have al := alt_lens2 (row.drop 2)
  rw [List.length_drop] at al
  have e23 : row.drop 3 = (row.drop 2).drop 1 := by rw [List.drop_drop]
  have hlen : (alt (row.drop 2)).length = (alt (row.drop 3)).length := by
    rw [e23]
    exact alt_lens _ de
  have hi := R.hi
  unfold Kh292.okPlace twoB waysB
  show (decide (Kh293Neutral.nat (row.getD 0 0) < p) && (decide (Kh293Neutral.nat (row.getD 1 0) < p) && ((Kh293Neutral.nat (row.getD 0 0)) != (Kh293Neutral.nat (row.getD 1 0)) && (decide (1 ≤ (Kh293Neutral.ways (row.drop 2)).length) && (decide ((Kh293Neutral.ways (row.drop 2)).length ≤ 4) && (decide (((Kh293Neutral.ways (row.drop 2)).map Prod.fst).Nodup) && (Kh293Neutral.ways (row.drop 2)).all (nxOk n))))))) = _
  rw [ways_all n _ dn de, ← e23, wl, decide_eq_true (by omega : 1 ≤ (alt (row.drop 2)).length), decide_eq_true (by omega : (alt (row.drop 2)).length ≤ 4), decide_eq_true hlen, Bool.true_and, Bool.true_and, Bool.true_and]
  have t1 : decide (Kh293Neutral.nat (row.getD 0 0) < p) = decide (row.getD 0 0 < (p : Int)) := by
    unfold Kh293Neutral.nat
    rw [Bool.eq_iff_iff, decide_eq_true_iff, decide_eq_true_iff]
    omega
  have t2 : decide (Kh293Neutral.nat (row.getD 1 0) < p) = decide (row.getD 1 0 < (p : Int)) := by
    unfold Kh293Neutral.nat
    rw [Bool.eq_iff_iff, decide_eq_true_iff, decide_eq_true_iff]
    omega
  have t3 : (Kh293Neutral.nat (row.getD 0 0) != Kh293Neutral.nat (row.getD 1 0)) = !decide (row.getD 0 0 = row.getD 1 0) := by
    unfold Kh293Neutral.nat
    rw [Bool.eq_iff_iff, bne_iff_ne, Bool.not_eq_true', decide_eq_false_iff_not]
    omega
  have t4 : decide (((Kh293Neutral.ways (row.drop 2)).map Prod.fst).Nodup) = decide ((onceI (alt (row.drop 2))).length = (alt (row.drop 2)).length) := by
    rw [Bool.eq_iff_iff, decide_eq_true_iff, decide_eq_true_iff, once_nodup _ _ rfl, ← wf]
    constructor
    · intro h
      rw [show ((Kh293Neutral.ways (row.drop 2)).map fun w => (w.1 : Int)) = ((Kh293Neutral.ways (row.drop 2)).map Prod.fst).map Int.ofNat by rw [List.map_map]; rfl]
      exact nd_ints h
    · intro h
      rw [show ((Kh293Neutral.ways (row.drop 2)).map fun w => (w.1 : Int)) = ((Kh293Neutral.ways (row.drop 2)).map Prod.fst).map Int.ofNat by rw [List.map_map]; rfl] at h
      exact (List.pairwise_map.mp h).imp fun hab e => hab (by rw [e])
  rw [t1, t2, t3, t4]
  simp only [Bool.and_assoc]
theorem script_ok {rows : List (List Int)} (R : ∀ r ∈ rows, RowIn r) (h1 : 1 ≤ rows.length) (h32 : rows.length ≤ 32) (p : Nat) : okScript ⟨p, rows.map Kh293Neutral.place⟩ = scriptB (p : Int) rows := by
  unfold okScript scriptB
  dsimp only
  rw [List.length_map, decide_eq_true h1, decide_eq_true h32, Bool.true_and, Bool.true_and, List.all_map]
  have e1 : (rows.all (Kh292.okPlace p rows.length ∘ Kh293Neutral.place)) = rows.all fun r => twoB (p : Int) r && waysB (rows.length : Int) r := by
    rw [Bool.eq_iff_iff, List.all_eq_true, List.all_eq_true]
    constructor
    · intro h r hr
      rw [← place_ok (R r hr)]
      exact h r hr
    · intro h r hr
      show Kh292.okPlace p rows.length (Kh293Neutral.place r) = true
      rw [place_ok (R r hr)]
      exact h r hr
  rw [e1, ← Bool.and_assoc]
  congr 1
  rw [Bool.eq_iff_iff, Bool.and_eq_true, Bool.not_eq_true', Bool.or_eq_false_iff, decide_eq_true_iff, decide_eq_true_iff, decide_eq_false_iff_not, decide_eq_false_iff_not]
  omega
end Tk
end
section
set_option Elab.async false
set_option linter.all false
set_option maxRecDepth 100000
namespace L2
open PySem PySem.Spec PyProof.Rows
theorem pi_listK {X : Cx} {K : PySem.W.Frag} {tg l : Expr} {tl : TE} (h : X.K = K) (hl : PE X l tl) : PI X tg l (iList K tl) := by
  subst h
  exact pi_list hl
end L2
namespace Tk
open PySem PySem.Spec PyProof.Rows L2
open Kh292 (Script State at_ takesPart okScript comesTo never wordsAt)
structure TxtE (K : PySem.W.Frag) (mg : Str → Option Value) (c : Cs) : Prop where
  mun : mg "Unclear" = some (.ref c.un)
  mtm : mg "TooMany" = some (.ref c.tm)
  m11 : PySem.W.exmOne K (.ref c.un) (.ref c.un) = some true
  m21 : PySem.W.exmOne K (.ref c.tm) (.ref c.un) = some false
  m22 : PySem.W.exmOne K (.ref c.tm) (.ref c.tm) = some true
def theScript (p : Nat) (rows : List (List Int)) : Script := ⟨p, rows.map Kh293Neutral.place⟩
def spBegin (c : Cs) : Sp := fun vs H Q _ => ∃ (k L : Addr) (p me : Nat) (as ls : List Addr) (rows : List (List Int)) (o : Option Abs), vs = [.ref k, .int (p : Int), .int (me : Int), .ref L] ∧ RowsAt H L as rows ∧ (∀ r ∈ rows, RowIn r) ∧ 1 ≤ rows.length ∧ rows.length ≤ 32 ∧ KeeperAt c H k ls o ∧
  Post c H k ls (Kh293.doing o (.begin_ (some (theScript p rows)) me)).1 (ansI (Kh293.doing o (.begin_ (some (theScript p rows)) me)).2) Q
theorem doing_begin (o : Option Abs) (s : Script) (me : Nat) : Kh293.doing o (.begin_ (some s) me) = if okScript s = false ∨ s.p ≤ me then (o, Kh293.say (-22)) else match Kh292.check s with
    | some (_, .unclear _) => (o, Kh293.say (-71))
    | some _ => (o, Kh293.say (-75))
    | none => (some (Kh293.begun s me), Kh293.say 0) := rfl
section
variable {P : Program} {w : World} {K : PySem.W.Frag} {mg : Str → Option Value} {base : Heap} {c : Cs}
theorem KeeperAt.same {H H' : Hp} {k : Addr} {ls : List Addr} {o : Option Abs} (x : KeeperAt c H k ls o) (s : Same H H') : KeeperAt c H' k ls o := by
  cases o with
  | none =>
    obtain ⟨e, dx, me, rw, st, ln, h⟩ := x
    exact ⟨e, dx, me, rw, st, ln, s _ _ h⟩
  | some a =>
    obtain ⟨dx, rw, ln, st, l, rds, ls0, rfl, KA⟩ := x
    exact ⟨dx, rw, ln, st, l, rds, ls0, rfl, KA.same s⟩
theorem KeeperAt.ins {H : Hp} {k : Addr} {ls : List Addr} {o : Option Abs} (x : KeeperAt c H k ls o) : ∃ dx me rw st ln, H k = some (.ins c.ke dx (keF me rw st ln)) := by
  cases o with
  | none => exact x.2
  | some a =>
    obtain ⟨dx, rw, ln, st, l, rds, ls0, rfl, KA⟩ := x
    exact ⟨dx, _, rw, _, ln, KA.ins⟩
theorem KeeperAt.fresh {H : Hp} {k r : Addr} {ls : List Addr} {o : Option Abs} (x : KeeperAt c H k ls o) (h : H r = none) : r ∉ ls := by
  cases o with
  | none =>
    rw [x.1]
    simp
  | some a =>
    obtain ⟨dx, rw, ln, st, l, rds, ls0, rfl, KA⟩ := x
    exact KA.freshF h
theorem one_ans {H H1 : Hp} {k : Addr} {ls : List Addr} {o : Option Abs} {z : Int} {Q : VK} (KK : KeeperAt c H k ls o) (q : Post c H k ls o [z] Q) (s1 : Same H H1) : ([V.int z] : List V).length ≤ sizeLine ∧ ∀ p, H1 p = none → Q (.ref p) (upd H1 p (.lst [V.int z])) := by
  refine ⟨by show 1 ≤ sizeLine; decide, fun p hp => ?_⟩
  have s2 := s1.trans (Same.upd (o := .lst [.int z]) hp)
  exact q.still s2 (KK.same s2) (s1.free hp) upd_same (KK.fresh (s1.free hp))
theorem keFm {me me' st : Int} {rw ln : Addr} : putF "me" (.int me') (keF me rw st ln) = keF me' rw st ln := by rfl
theorem keFr {me st : Int} {rw rw' ln : Addr} : putF "rows" (.ref rw') (keF me rw st ln) = keF me rw' st ln := by rfl
theorem keFl {me st : Int} {rw ln ln' : Addr} : putF "lines" (.ref ln') (keF me rw st ln) = keF me rw st ln' := by rfl
theorem sc_begin : FnScope ["self", "p", "me", "lists", "parts", "row", "party"] ["self", "p", "me", "lists"] (defScope s_Keeper_begin) := ⟨rfl, rfl, rfl, by decide +kernel, rfl, by decide +kernel, by decide +kernel⟩
def tryE (c : Cs) (H1 : Hp) (s : Script) : XK := fun cls _ H' => Same H1 H' ∧ ((cls = .ref c.un ∧ ∃ i y, Kh292.check s = some (i, .unclear y)) ∨ (cls = .ref c.tm ∧ ∃ i, Kh292.check s = some (i, .many)))
set_option maxHeartbeats 1000000 in
theorem ok_begin {f fs fa fp : Addr} {fd fds fda fdp : FuncData} (F : Fun K "begin" "Keeper.begin" s_Keeper_begin f fd) (T : Txt K mg c) (TE : TxtE K mg c) (GS : Fn P w K mg base "is_script" 3 ["p", "rows"] (spScript K) fs fds) (GA : Fn P w K mg base "all_rows" 7 ["p", "places"] (spAll c) fa fda)
    (GP : Mr P w K mg base "Place" c.pl 2 ["self", "row"] (spPlaceInit K c) fp fdp) : FnOk P w K mg base (CXe P w) 8 f fd ["self", "p", "me", "lists"] (spBegin c) := by
  refine F.okE sc_begin (fun vs H Q E h => ?_) (fun cdv A outer s H vs Q E hr h => ?_)
  · obtain ⟨k, L, p, me, as, ls, rows, o, rfl, _⟩ := h
    rfl
  · obtain ⟨k, L, p, me, as, ls, rows, o, rfl, hR, hrows, n1, n32, KK, q⟩ := h
    have nd := sc_begin.nd
    have hr3 : Room 3 _ := hr.mono (by decide)
    rw [doing_begin] at q
    have esc : okScript (theScript p rows) = scriptB (p : Int) rows := script_ok hrows n1 n32 p
    refine ⟨_, pss_cons (ps_if (PW.pt (pw_or (pt_not (pt_val (pe_call GS.ok hr3 rfl GS.mg GS.kp GS.bi .nil pass0E (pa_cons (pv 1) (pa_cons (pv 3) pa_nil))))) (pw_or1 (pt_cmpR op_ge (pv 2) (pv 1) (nomark _))))) (pss_one (ps_ret (pe_lst (pa_cons (pe_gl rfl T.NOT_AS_TOLD) pa_nil)))) pss_nil)
      (pss_cons (ps_try2 (E := fun cls d H' => ∃ H1, Same H H1 ∧ tryE c H1 (theScript p rows) cls d H') rfl rfl rfl
        (fun pins => pss_one (ps_set (i := 4) nd rfl (Or.inl rfl) (pe_call GA.ok hr rfl GA.mg GA.kp GA.bi .nil passT (pa_cons (pv 1) (pa_cons (pe_lc (own := [("row", 5)]) rfl nd (pi_listK (K := K) rfl (pv 3)) (blkOk_by (N := ["self", "p", "me", "lists", "parts", "row", "party"]) (sc := defScope s_Keeper_begin) (by decide +kernel)) (fun _ _ _ _ _ => pg_name (i := 5) nd rfl (Or.inl rfl)) (fun _ _ _ _ _ => pts_nil)
          (fun _ _ _ _ _ => pe_make GP.mkk GP.ok hr3 rfl GP.mg GP.bi .nil pass0E (pa_cons (pv 5) pa_nil))) pa_nil)))))
        rfl rfl TE.mun TE.mtm TE.m11 TE.m21 TE.m22 (fun _ => pss_one (ps_ret (pe_lst (pa_cons (pe_gl rfl T.CANNOT) pa_nil)))) (fun _ => pss_one (ps_ret (pe_lst (pa_cons (pe_gl rfl T.TOO_LARGE) pa_nil)))))
      (pss_cons (ps_fld (pv 0) (pv 2) rfl) (pss_cons (ps_fld (pv 0) (pe_ix ix_list (pv 4) (pv 2) (fun _ _ => rfl)) rfl) (pss_cons (ps_fld (pv 0) pe_int rfl)
      (pss_cons (ps_fld (pv 0) (pe_lc (own := [("party", 6)]) rfl nd (pi_range1 rfl T.range (pa_cons (pv 1) pa_nil)) (blkOk_by (N := ["self", "p", "me", "lists", "parts", "row", "party"]) (sc := defScope s_Keeper_begin) (by decide +kernel)) (fun _ _ _ _ _ => pg_name (i := 6) nd rfl (Or.inl rfl)) (fun _ _ _ _ _ => pts_nil)
          (fun _ _ _ _ _ => pe_lst pa_nil)) rfl)
      (pss_one (ps_ret (pe_lst (pa_cons pe_int pa_nil))))))))), ?_⟩
    refine ⟨_, rfl, _, rfl, (p : Int), L, as, rows, rfl, hR, fun r hr => ⟨Nat.le_trans (by decide) (hrows r hr).lo, (hrows r hr).hi⟩, n32, fun H1 s1 => ⟨_, rfl, ?_⟩⟩
    rw [← esc]
    refine iteB (fun e => ?_) fun e => ?_
    · refine iteT ?_
      rw [if_pos (.inl (by simpa using e))] at q
      exact one_ans KK q s1
    have hs : okScript (theScript p rows) = true := by simpa using e
    refine ⟨_, rfl, _, rfl, _, _, rfl, rfl, _, rfl, ?_⟩
    refine ite3 (fun e2 => ?_) fun e2 => ?_
    · rw [if_pos (.inr (by show p ≤ me; omega))] at q
      exact one_ans KK q s1
    have mep : me < p := by omega
    rw [if_neg (by rw [show okScript (theScript p rows) = true from hs]; show ¬ (true = false ∨ p ≤ me); simp; omega)] at q
    have sl : (theScript p rows).places.length = rows.length := List.length_map _
    refine ⟨?_, fun cls H' hE => ?_⟩
    rotate_left
    · obtain ⟨H2, s2, s3, h⟩ := hE
      rcases h with ⟨rfl, i, y, hc⟩ | ⟨rfl, i, hc⟩
      · rw [hc] at q
        exact .inl ⟨rfl, fun _ => one_ans KK q (s2.trans s3)⟩
      · rw [hc] at q
        exact .inr ⟨rfl, fun _ => one_ans KK q (s2.trans s3)⟩
    refine ⟨_, rfl, _, rfl, L, rfl, ⟨_, SqL.of (s1 _ _ hR.lst)⟩, fun D hD => ?_⟩
    have asl : (as.map V.ref).length = rows.length := by rw [List.length_map, hR.len]
    refine lc_list (xs := as.map V.ref) (fun i H' => Same H1 H' ∧ ∃ ps : List Addr, H' D = some (.lst (ps.map V.ref)) ∧ ps.length = i ∧ ∀ (j : Nat) (b : Addr), ps[j]? = some b → PlaceAt c H' b (at_ (theScript p rows) j)) ⟨Same.upd hD, [], upd_same, rfl, fun j b h => by simp at h⟩ (fun i H' _ h => SqL.of (h.1 _ _ (s1 _ _ hR.lst))) (fun i x H2 hx h => ?_) fun H2 h => ?_
    · obtain ⟨s2, ps, hD2, hpl, hps⟩ := h
      rw [List.getElem?_map] at hx
      obtain ⟨b, hb, rfl⟩ := Option.map_eq_some_iff.mp hx
      obtain ⟨r, hr0, hrb⟩ := hR.at_ i b hb
      have ltr : i < rows.length := (List.getElem?_eq_some_iff.mp hr0).1
      have R := hrows r (List.mem_of_getElem? hr0)
      have eat : at_ (theScript p rows) i = Kh293Neutral.place r := by
        unfold Kh292.at_ theScript
        dsimp only
        rw [List.getD_eq_getElem?_getD, List.getElem?_map, hr0]
        rfl
      have hrb2 := s2 _ _ (s1 _ _ hrb)
      have okp : OkP p rows.length (Kh293Neutral.place r) := by
        have := okP hs (q := i) (by rw [sl]; exact ltr)
        rw [eat, sl] at this
        exact this
      have hnd : (alt (r.drop 2)).Nodup := by
        rw [← ways_fst (r.drop 2) (fun z hz => (R.bd z (List.mem_of_mem_drop hz)).1) (by rw [List.length_drop]; have := R.ev; have := R.lo; omega), show ((Kh293Neutral.ways (r.drop 2)).map fun w => (w.1 : Int)) = ((Kh293Neutral.ways (r.drop 2)).map Prod.fst).map Int.ofNat by rw [List.map_map]; rfl]
        exact nd_ints okp.nd
      refine ⟨rfl, ?_⟩
      refine ⟨_, rfl, fun y dy hy hdy ne => ?_⟩
      have hrb3 : (upd (upd H2 dy (.own y)) y (.ins c.pl dy [])) b = some (.lst (r.map V.int)) := by
        rw [upd_ne (ne_of_none hrb2 hy), upd_ne (ne_of_none hrb2 hdy)]
        exact hrb2
      refine ⟨y, dy, b, r, rfl, upd_same, hrb3, R.lo, R.hi, R.ev, fun z hz => (R.bd z hz).1, hnd, fun H3 pa b3 => ⟨rfl, ?_⟩⟩
      have s3 : Same H2 H3 := Same.made hy hdy b3
      have hD3 := s3 _ _ hD2
      have kb : But2 D D H3 (upd H3 D (.lst (ps.map V.ref ++ [.ref y]))) := fun z o e h _ => by rw [upd_ne h]; exact e
      have os := Odd.lst hD3
      refine ⟨_, hD3, (by rw [List.length_map, hpl]; exact small (by omega)), fun z o e => ?_, ps ++ [y], by rw [upd_same, List.map_append]; rfl, by rw [List.length_append, hpl]; rfl, fun j z hz => ?_⟩
      · rw [upd_ne (ne_of_none e hD)]
        exact s3 _ _ (s2 _ _ e)
      · by_cases hj : j < ps.length
        · rw [List.getElem?_append_left hj] at hz
          exact ((hps j z hz).same s3).but kb os.i os.i os.d os.d
        · rw [List.getElem?_append_right (by omega)] at hz
          have e3 : j - ps.length = 0 := by
            have := (List.getElem?_eq_some_iff.mp hz).1
            simp at this
            omega
          rw [e3] at hz
          have e4 : y = z := by simpa using hz
          subst e4
          have e5 : j = i := by omega
          rw [e5, eat]
          exact pa.but kb os.i os.i os.d os.d
    obtain ⟨s2, ps, hD2, hpl, hps⟩ := h
    rw [asl] at hpl
    have s02 := s1.trans s2
    refine ⟨D, theScript p rows, rfl, ⟨ps, hD2, by rw [hpl, sl], hps⟩, hs, fun i y hc H3 s3 => ⟨H2, s02, s3, .inl ⟨rfl, i, y, hc⟩⟩, fun i hc H3 s3 => ⟨H2, s02, s3, .inr ⟨rfl, i, hc⟩⟩, fun hc H3 Dp s3 hDp AA => ?_⟩
    rw [hc] at q
    have s03 := s02.trans s3
    obtain ⟨dk, me0, rw0, st0, ln0, hk⟩ := (KK.same s03).ins
    obtain ⟨bs, hb1, hb2, hb3⟩ := AA
    have ltb : me < bs.length := by rw [hb2]; exact mep
    obtain ⟨hrw2, l, rds, hst, hrws, hrok, hfirst⟩ := hb3 me bs[me] (List.getElem?_eq_getElem ltb)
    have hat := atI_refs (List.getElem?_eq_getElem ltb)
    generalize bs[me] = rw at hrws hat hrw2
    have nDk : Dp ≠ k := ne_of hb1 hk (by intro q; cases q)
    refine ⟨_, rfl, _, rfl, k, c.ke, dk, _, rfl, hk, T.kec, T.ke1, (by show 4 < 1000; decide), ?_⟩
    rw [keFm]
    refine ⟨_, rfl, _, rfl, Dp, _, _, _, rfl, rfl, SqL.of (by rw [upd_ne nDk]; exact hb1), hat, _, rfl, k, c.ke, dk, _, rfl, upd_same, T.kec, T.ke2, (by show 4 < 1000; decide), ?_⟩
    rw [keFr, upd_upd]
    refine ⟨_, rfl, k, c.ke, dk, _, rfl, upd_same, T.kec, T.ke3, (by show 4 < 1000; decide), ?_⟩
    rw [keFs, upd_upd]
    have k4 := upd_same (H := H3) (a := k) (o := .ins c.ke dk (keF me rw 0 ln0))
    have b4 : But k H3 (upd H3 k (.ins c.ke dk (keF me rw 0 ln0))) := upd_but
    have f4 : ∀ z, (upd H3 k (.ins c.ke dk (keF me rw 0 ln0))) z = none → H3 z = none := fun z hz => by
      by_cases e : z = k
      · rw [e, upd_same] at hz
        cases hz
      · rw [upd_ne e] at hz
        exact hz
    generalize upd H3 k (.ins c.ke dk (keF me rw 0 ln0)) = H4 at k4 b4 f4 ⊢
    refine ⟨_, rfl, (p : Int), rfl, by omega, (by have := (ok_len hs).2.2.2; have e : (theScript p rows).p = p := rfl; rw [e] at this; omega), fun D5 hD5 => ?_⟩
    rw [Int.toNat_natCast]
    have p8 : p ≤ 8 := (ok_len hs).2.2.2
    refine lc_range (fun i H' => i ≤ p ∧ Same H4 H' ∧ ∃ ls' : List Addr, H' D5 = some (.lst (ls'.map V.ref)) ∧ ls'.length = i ∧ ls'.Nodup ∧ D5 ∉ ls' ∧ ∀ b ∈ ls', H' b = some (.lst []) ∧ H4 b = none) ⟨Nat.zero_le _, Same.upd hD5, [], upd_same, rfl, List.nodup_nil, by simp, fun b h => by simp at h⟩ (fun i H5 hi h => ?_) fun H5 h => ?_
    · obtain ⟨_, s5, ls', h5, hl5, nd5, nD5, hb5⟩ := h
      refine ⟨rfl, Nat.zero_le _, fun b hb => ?_⟩
      have s6 := Same.upd (o := .lst []) hb
      have nbD : b ≠ D5 := (ne_of_none h5 hb).symm
      have nbl : b ∉ ls' := fun hm => by
        rw [(hb5 b hm).1] at hb
        cases hb
      refine ⟨_, s6 _ _ h5, (by rw [List.length_map, hl5]; exact small (by omega)), hi, fun z o e => ?_, ls' ++ [b], by rw [upd_same, List.map_append]; rfl, by rw [List.length_append, hl5]; rfl, ?_, ?_, fun z hz => ?_⟩
      · rw [upd_ne (ne_of_none e hD5)]
        exact s6 _ _ (s5 _ _ e)
      · rw [List.nodup_append]
        exact ⟨nd5, by simp, fun u hu v hv e => nbl (by rw [← List.mem_singleton.mp hv, ← e]; exact hu)⟩
      · rw [List.mem_append, List.mem_singleton]
        exact fun h => h.elim nD5 fun e => nbD e.symm
      · rcases List.mem_append.mp hz with hm | hm
        · obtain ⟨a1, a2⟩ := hb5 z hm
          exact ⟨by rw [upd_ne (fun (e : z = D5) => nD5 (e ▸ hm))]; exact s6 _ _ a1, a2⟩
        · rw [List.mem_singleton.mp hm]
          exact ⟨by rw [upd_ne nbD, upd_same], s5.free hb⟩
    obtain ⟨_, s5, ls', h5, hl5, nd5, nD5, hb5⟩ := h
    have k5 := s5 _ _ k4
    refine ⟨_, rfl, k, c.ke, dk, _, rfl, k5, T.kec, T.ke4, (by show 4 < 1000; decide), ?_⟩
    rw [keFl]
    have b6 : But k H5 (upd H5 k (.ins c.ke dk (keF me rw 0 D5))) := upd_but
    have k6 := upd_same (H := H5) (a := k) (o := .ins c.ke dk (keF me rw 0 D5))
    have f6 : ∀ z, (upd H5 k (.ins c.ke dk (keF me rw 0 D5))) z = none → H5 z = none ∧ z ≠ k := fun z hz => by
      by_cases e : z = k
      · rw [e, upd_same] at hz
        cases hz
      · rw [upd_ne e] at hz
        exact ⟨hz, e⟩
    generalize upd H5 k (.ins c.ke dk (keF me rw 0 D5)) = H6 at b6 k6 f6 ⊢
    refine ⟨(by show 1 ≤ sizeLine; decide), fun r hr6 => ?_⟩
    have s7 := Same.upd (o := .lst [.int 0]) hr6
    have b36 : But k H3 H6 := (b4.trans (But.of s5)).trans b6
    have hr0 : H r = none := s03.free (f4 _ (s5.free (f6 _ hr6).1))
    have nlk : ∀ {b : Addr} {zs : List V}, H3 b = some (.lst zs) → b ≠ k := fun h => ne_of h hk (by intro q; cases q)
    have fr0 : ∀ i, Kh293.Abs.from_ (Kh293.begun (theScript p rows) me) i = [] := fun i => by
      unfold Kh293.Abs.from_ Kh293.begun
      dsimp only
      rw [List.getD_eq_getElem?_getD, List.getElem?_replicate]
      split <;> rfl
    have R6 : RwsAt c H6 rw rds := by
      obtain ⟨rs, q1, q2, q3⟩ := hrws
      refine ⟨rs, b36 _ _ q1 (nlk q1), q2, fun i z e => ?_⟩
      obtain ⟨rd, a1, dr, d, a2, a3⟩ := q3 i z e
      exact ⟨rd, a1, dr, d, b36 _ _ a2 (ne_of a2 hk ro_ne_ke), b36 _ _ a3 (ne_of a3 hk (by intro q; cases q))⟩
    have n5k : ∀ b ∈ ls', b ≠ k := fun b hb e => by
      have := (hb5 b hb).2
      rw [e, k4] at this
      cases this
    have nDk5 : D5 ≠ k := fun e => by
      rw [e, k4] at hD5
      cases hD5
    have KA : KeepA c H6 k ls' (Kh293.begun (theScript p rows) me) dk rw D5 0 l rds := by
      refine ⟨k6, hs, mep, R6, hrok, hfirst, b6 _ _ h5 nDk5, hl5, List.length_replicate, nd5, fun i b hb => ?_, fun i => ?_, nD5, fun hm => ?_⟩
      · rw [fr0]
        exact b6 _ _ (hb5 b (List.mem_of_getElem? hb)).1 (n5k b (List.mem_of_getElem? hb))
      · rw [fr0]
        exact Nat.zero_le _
      · obtain ⟨rs, q1, _⟩ := hrws
        have := (hb5 rw hm).2
        rw [b4 _ _ q1 (nlk q1)] at this
        cases this
    refine q _ r (rw :: D5 :: ls') hr0 upd_same ⟨dk, rw, D5, 0, l, rds, ls', rfl, KA.same s7⟩ (fun b o e hb _ => s7 _ _ (b36 _ _ (s03 _ _ e) hb)) (fun b hb => .inr ?_) (KA.freshF hr6)
    rcases List.mem_cons.mp hb with e | hb
    · rw [e]
      exact s02.free hrw2
    · rcases List.mem_cons.mp hb with e | hb
      · rw [e]
        exact s03.free (f4 _ hD5)
      · exact s03.free (f4 _ (hb5 b hb).2)
end
end Tk
end
section
set_option Elab.async false
set_option linter.all false
set_option maxRecDepth 100000
namespace Tk
open PySem PySem.Spec PyProof.Rows L2
open PyFlat (putRow putRows)
def reF (cl : Addr) (pos : Int) : List (Str × V) := [("calls", .ref cl), ("position", .int pos)]
theorem reF1 {cl : Addr} {pos : Int} : (reF cl pos).lookup ("calls" : Str) = some (.ref cl) := by rfl
theorem reF2 {cl : Addr} {pos : Int} : (reF cl pos).lookup ("position" : Str) = some (.int pos) := by rfl
theorem reFp {cl : Addr} {pos pos' : Int} : putF "position" (.int pos') (reF cl pos) = reF cl pos' := by rfl
def spReaderInit (c : Cs) : Sp := fun vs H Q _ => ∃ (re dx cl : Addr), vs = [.ref re, .ref cl] ∧ H re = some (.ins c.re dx []) ∧ ∀ H', H' re = some (.ins c.re dx (reF cl 0)) → But re H H' → Q .non H'
def spDone (K : PySem.W.Frag) (c : Cs) : Sp := fun vs H Q _ => ∃ (re dx cl : Addr) (pre rest : List Int), vs = [.ref re] ∧ H re = some (.ins c.re dx (reF cl pre.length)) ∧ SqL K H cl ((pre ++ rest).map V.int) ∧ Q (.bl (decide (rest = []))) H
def spNum (K : PySem.W.Frag) (c : Cs) : Sp := fun vs H Q _ => ∃ (re dx cl : Addr) (pre rest : List Int) (z : Int), vs = [.ref re] ∧ H re = some (.ins c.re dx (reF cl pre.length)) ∧ SqL K H cl ((pre ++ z :: rest).map V.int) ∧ Q (.int z) (upd H re (.ins c.re dx (reF cl ((pre.length + 1 : Nat) : Int))))
def spList (K : PySem.W.Frag) (c : Cs) : Sp := fun vs H Q _ => ∃ (re dx cl : Addr) (pre x rest : List Int), vs = [.ref re] ∧ H re = some (.ins c.re dx (reF cl pre.length)) ∧ SqL K H cl ((pre ++ (putRow x ++ rest)).map V.int) ∧
  ∀ r, H r = none → Q (.ref r) (upd (upd H re (.ins c.re dx (reF cl ((pre.length + 1 + x.length : Nat) : Int)))) r (.lst (x.map V.int)))
def spLists (K : PySem.W.Frag) (c : Cs) : Sp := fun vs H Q _ => ∃ (re dx cl : Addr) (pre rest : List Int) (xs : List (List Int)), vs = [.ref re] ∧ H re = some (.ins c.re dx (reF cl pre.length)) ∧ SqL K H cl ((pre ++ ((xs.length : Int) :: (putRows xs ++ rest))).map V.int) ∧ xs.length ≤ 100000 ∧
  ∀ H' D as, RowsAt H' D as xs → H' re = some (.ins c.re dx (reF cl ((pre.length + 1 + (putRows xs).length : Nat) : Int))) → But re H H' → H D = none → (∀ b ∈ as, H b = none) → Q (.ref D) H'
section
variable {P : Program} {w : World} {K : PySem.W.Frag} {mg : Str → Option Value} {base : Heap} {c : Cs}
theorem SqL.insU {H : Hp} {a b C dx : Addr} {fs fs' : List (Str × V)} {xs : List V} (h : SqL K H a xs) (hb : H b = some (.ins C dx fs)) : SqL K (upd H b (.ins C dx fs')) a xs := by
  rcases h with h | h
  · rcases h with h | ⟨o, h⟩
    · exact .inl (.inl (by rw [upd_ne (ne_of h hb (by intro q; cases q))]; exact h))
    · exact .inl (.inr ⟨o, by rw [upd_ne (ne_of h hb (by intro q; cases q))]; exact h⟩)
  · exact .inr h
theorem SqL.butU {H H' : Hp} {a b C dx : Addr} {fs : List (Str × V)} {xs : List V} (h : SqL K H a xs) (hb : H b = some (.ins C dx fs)) (k : But b H H') : SqL K H' a xs := by
  rcases h with h | h
  · rcases h with h | ⟨o, h⟩
    · exact .inl (.inl (k _ _ h (ne_of h hb (by intro q; cases q))))
    · exact .inl (.inr ⟨o, k _ _ h (ne_of h hb (by intro q; cases q))⟩)
  · exact .inr h
theorem sc_readerI : FnScope ["self", "calls"] ["self", "calls"] (defScope s_Reader_init) := ⟨rfl, rfl, rfl, by decide +kernel, rfl, by decide +kernel, by decide +kernel⟩
theorem ok_readerI {f : Addr} {fd : FuncData} (F : Fun K "__init__" "Reader.__init__" s_Reader_init f fd) (T : Txt K mg c) : FnOk P w K mg base (CXe P w) 1 f fd ["self", "calls"] (spReaderInit c) := by
  refine F.okE sc_readerI (fun vs H Q E h => ?_) (fun cdv A outer s H vs Q E hr h => ?_)
  · obtain ⟨re, dx, cl, rfl, _⟩ := h
    rfl
  · obtain ⟨re, dx, cl, rfl, hre, q⟩ := h
    refine ⟨_, pss_cons (ps_fld (pv 0) (pv 1) rfl) (pss_one (ps_fld (pv 0) pe_int rfl)), ?_⟩
    refine ⟨_, rfl, _, rfl, re, c.re, dx, [], rfl, hre, T.rcc, T.re1, (by show 0 < 1000; decide), ?_⟩
    refine ⟨_, rfl, re, c.re, dx, _, rfl, upd_same, T.rcc, T.re2, (by show 1 < 1000; decide), ?_⟩
    rw [upd_upd]
    exact q _ upd_same upd_but
theorem sc_done : FnScope ["self"] ["self"] (defScope s_Reader_is_done) := ⟨rfl, rfl, rfl, by decide +kernel, rfl, by decide +kernel, by decide +kernel⟩
theorem ok_done {f : Addr} {fd : FuncData} (F : Fun K "is_done" "Reader.is_done" s_Reader_is_done f fd) (T : Txt K mg c) : FnOk P w K mg base (CXe P w) 1 f fd ["self"] (spDone K c) := by
  refine F.okE sc_done (fun vs H Q E h => ?_) (fun cdv A outer s H vs Q E hr h => ?_)
  · obtain ⟨re, dx, cl, pre, rest, rfl, _⟩ := h
    rfl
  · obtain ⟨re, dx, cl, pre, rest, rfl, hre, hS, q⟩ := h
    refine ⟨_, pss_one (ps_ret (pe_cmpR op_eq (pe_fld (pv 0) rfl) (pe_callB call_len_seq rfl T.len PySem.boot_len (pa_cons (pe_fld (pv 0) rfl) pa_nil)) (nomark _))), ?_⟩
    refine ⟨_, rfl, re, c.re, dx, _, _, rfl, hre, T.rcc, T.re2, reF2, _, rfl, re, c.re, dx, _, _, rfl, hre, T.rcc, T.re1, reF1, cl, _, rfl, .inl hS, rfl, ?_⟩
    have e : decide (V.int (pre.length : Int) = V.int (((pre ++ rest).map V.int).length : Int)) = decide (rest = []) := by
      rw [List.length_map, List.length_append, Bool.eq_iff_iff, decide_eq_true_iff, decide_eq_true_iff, ← List.length_eq_zero_iff]
      exact ⟨fun h => by have := V.int.inj h; omega, fun h => by rw [h]; rfl⟩
    rw [e]
    exact q
theorem sc_num : FnScope ["self"] ["self"] (defScope s_Reader_read_number) := ⟨rfl, rfl, rfl, by decide +kernel, rfl, by decide +kernel, by decide +kernel⟩
theorem ok_num {f : Addr} {fd : FuncData} (F : Fun K "read_number" "Reader.read_number" s_Reader_read_number f fd) (T : Txt K mg c) : FnOk P w K mg base (CXe P w) 1 f fd ["self"] (spNum K c) := by
  refine F.okE sc_num (fun vs H Q E h => ?_) (fun cdv A outer s H vs Q E hr h => ?_)
  · obtain ⟨re, dx, cl, pre, rest, z, rfl, _⟩ := h
    rfl
  · obtain ⟨re, dx, cl, pre, rest, z, rfl, hre, hS, q⟩ := h
    refine ⟨_, pss_cons (ps_fldaug (pv 0) pe_int in_add) (pss_one (ps_ret (pe_ix ix_list (pe_fld (pv 0) rfl) (pe_op op_sub (pe_fld (pv 0) rfl) pe_int) (fun _ _ => rfl)))), ?_⟩
    refine ⟨_, rfl, re, c.re, dx, _, _, rfl, hre, T.rcc, T.re2, reF2, _, _, rfl, rfl, dx, _, hre, (by show 2 < 1000; decide), ?_⟩
    rw [reFp]
    have e1 : (pre.length : Int) + 1 = ((pre.length + 1 : Nat) : Int) := by omega
    rw [e1]
    have hS' := SqL.insU (fs' := reF cl ((pre.length + 1 : Nat) : Int)) hS hre
    refine ⟨_, rfl, re, c.re, dx, _, _, rfl, upd_same, T.rcc, T.re1, reF1, _, rfl, re, c.re, dx, _, _, rfl, upd_same, T.rcc, T.re2, reF2, _, _, rfl, rfl, cl, _, _, _, rfl, rfl, hS', ?_, q⟩
    rw [show ((pre.length + 1 : Nat) : Int) - 1 = (pre.length : Int) by omega]
    exact atI_nat (by simp)
theorem sc_list : FnScope ["self", "length"] ["self"] (defScope s_Reader_read_list) := ⟨rfl, rfl, rfl, by decide +kernel, rfl, by decide +kernel, by decide +kernel⟩
theorem ok_list {f fn : Addr} {fd fdn : FuncData} (F : Fun K "read_list" "Reader.read_list" s_Reader_read_list f fd) (T : Txt K mg c) (GN : Me P w K mg base c.re "read_number" 1 ["self"] (spNum K c) fn fdn) : FnOk P w K mg base (CXe P w) 2 f fd ["self"] (spList K c) := by
  refine F.okE sc_list (fun vs H Q E h => ?_) (fun cdv A outer s H vs Q E hr h => ?_)
  · obtain ⟨re, dx, cl, pre, x, rest, rfl, _⟩ := h
    rfl
  · obtain ⟨re, dx, cl, pre, x, rest, rfl, hre, hS, q⟩ := h
    have nd := sc_list.nd
    refine ⟨_, pss_cons (ps_set (i := 1) nd rfl (Or.inl rfl) (pe_meth0 (pv 0) T.rcc GN.me GN.ok hr GN.bi .nil pass0E)) (pss_cons (ps_fldaug (pv 0) (pv 1) in_add)
      (pss_one (ps_ret (pe_slice sl_list (pe_fld (pv 0) rfl) (po_some (pe_op op_sub (pe_fld (pv 0) rfl) (pv 1))) (po_some (pe_fld (pv 0) rfl)))))), ?_⟩
    have hS0 : SqL K H cl ((pre ++ (x.length : Int) :: (x ++ rest)).map V.int) := hS
    refine ⟨_, rfl, re, dx, _, rfl, hre, rfl, re, dx, cl, pre, x ++ rest, (x.length : Int), rfl, hre, hS0, ?_⟩
    have hS1 := SqL.insU (fs' := reF cl ((pre.length + 1 : Nat) : Int)) hS0 hre
    refine ⟨_, rfl, re, c.re, dx, _, _, rfl, upd_same, T.rcc, T.re2, reF2, _, rfl, _, _, rfl, rfl, dx, _, upd_same, (by show 2 < 1000; decide), ?_⟩
    rw [reFp, upd_upd]
    have e1 : ((pre.length + 1 : Nat) : Int) + (x.length : Int) = ((pre.length + 1 + x.length : Nat) : Int) := by omega
    rw [e1]
    have hS2 := SqL.insU (fs' := reF cl ((pre.length + 1 + x.length : Nat) : Int)) hS0 hre
    refine ⟨_, rfl, re, c.re, dx, _, _, rfl, upd_same, T.rcc, T.re1, reF1, _, rfl, re, c.re, dx, _, _, rfl, upd_same, T.rcc, T.re2, reF2, _, rfl, _, _, rfl, rfl, _, rfl, _, rfl, re, c.re, dx, _, _, rfl, upd_same, T.rcc, T.re2, reF2, _, rfl, cl, _, rfl, hS2, fun r hr2 => ?_⟩
    have nr : r ≠ re := fun e => by
      rw [e, upd_same] at hr2
      cases hr2
    have hr0 : H r = none := by
      rw [upd_ne nr] at hr2
      exact hr2
    have ec : cutV ((pre ++ (x.length : Int) :: (x ++ rest)).map V.int) (some (((pre.length + 1 + x.length : Nat) : Int) - (x.length : Int))) (some ((pre.length + 1 + x.length : Nat) : Int)) = x.map V.int := by
      rw [show ((pre.length + 1 + x.length : Nat) : Int) - (x.length : Int) = ((pre.length + 1 : Nat) : Int) by omega]
      unfold cutV
      rw [HT.sIx_nat, HT.sIx_nat]
      have hl : ((pre ++ (x.length : Int) :: (x ++ rest)).map V.int).length = pre.length + 1 + x.length + rest.length := by
        simp
        omega
      rw [hl, Nat.min_eq_left (by omega), Nat.min_eq_left (by omega), Nat.add_sub_cancel_left, ← List.map_drop, ← List.map_take]
      congr 1
      rw [show pre ++ (x.length : Int) :: (x ++ rest) = (pre ++ [(x.length : Int)]) ++ (x ++ rest) by simp, List.drop_left' (by simp), List.take_left' rfl]
    show Q (.ref r) (upd _ r (.lst (cutV ((pre ++ (x.length : Int) :: (x ++ rest)).map V.int) (some (((pre.length + 1 + x.length : Nat) : Int) - (x.length : Int))) (some ((pre.length + 1 + x.length : Nat) : Int)))))
    rw [ec]
    exact q r hr0
theorem RowsAt.snocL {H H4 : Hp} {D b : Addr} {as : List Addr} {rows : List (List Int)} {r : List Int} (x : RowsAt H D as rows) (nD : D ∉ as) (s4 : ∀ z zs, H z = some (.lst zs) → H4 z = some (.lst zs)) (nb : b ≠ D) (hb : H4 b = some (.lst (r.map V.int))) :
    RowsAt (upd H4 D (.lst (as.map V.ref ++ [V.ref b]))) D (as ++ [b]) (rows ++ [r]) ∧ D ∉ as ++ [b] := by
  refine ⟨⟨by rw [upd_same, List.map_append]; rfl, by rw [List.length_append, List.length_append, x.len]; rfl, fun i y hy => ?_⟩, ?_⟩
  · by_cases h : i < as.length
    · rw [List.getElem?_append_left h] at hy
      obtain ⟨r', h1, h2⟩ := x.at_ i y hy
      refine ⟨r', by rw [List.getElem?_append_left (by rw [← x.len]; exact h)]; exact h1, ?_⟩
      rw [upd_ne (fun e => nD (by rw [← e]; exact List.mem_of_getElem? hy))]
      exact s4 _ _ h2
    · rw [List.getElem?_append_right (by omega)] at hy
      have e : i - as.length = 0 := by
        have := (List.getElem?_eq_some_iff.mp hy).1
        simp at this
        omega
      rw [e] at hy
      have e2 : b = y := by simpa using hy
      subst e2
      refine ⟨r, by rw [List.getElem?_append_right (by rw [← x.len]; omega), ← x.len, e]; rfl, ?_⟩
      rw [upd_ne nb]
      exact hb
  · rw [List.mem_append, List.mem_singleton]
    exact fun h => h.elim nD fun e => nb e.symm
theorem putRows_snoc (xs : List (List Int)) (x : List Int) : putRows (xs ++ [x]) = putRows xs ++ putRow x := by
  induction xs with
  | nil => simp [PyFlat.putRows]
  | cons y xs ih =>
    show putRow y ++ putRows (xs ++ [x]) = (putRow y ++ putRows xs) ++ putRow x
    rw [ih, List.append_assoc]
theorem sc_lists : FnScope ["self", "turn"] ["self"] (defScope s_Reader_read_lists) := ⟨rfl, rfl, rfl, by decide +kernel, rfl, by decide +kernel, by decide +kernel⟩
theorem ok_lists {f fn fl : Addr} {fd fdn fdl : FuncData} (F : Fun K "read_lists" "Reader.read_lists" s_Reader_read_lists f fd) (T : Txt K mg c) (GN : Me P w K mg base c.re "read_number" 1 ["self"] (spNum K c) fn fdn) (GL : Me P w K mg base c.re "read_list" 2 ["self"] (spList K c) fl fdl) : FnOk P w K mg base (CXe P w) 3 f fd ["self"] (spLists K c) := by
  refine F.okE sc_lists (fun vs H Q E h => ?_) (fun cdv A outer s H vs Q E hr h => ?_)
  · obtain ⟨re, dx, cl, pre, rest, xs, rfl, _⟩ := h
    rfl
  · obtain ⟨re, dx, cl, pre, rest, xs, rfl, hre, hS, hxl, q⟩ := h
    have nd := sc_lists.nd
    have hr1 : Room 1 _ := hr.mono (by decide)
    refine ⟨_, pss_one (ps_ret (pe_lc (own := [("turn", 1)]) rfl nd (pi_range1 rfl T.range (pa_cons (pe_meth0 (pv 0) T.rcc GN.me GN.ok hr1 GN.bi .nil pass0E) pa_nil)) (blkOk_by (N := ["self", "turn"]) (sc := defScope s_Reader_read_lists) (by decide +kernel)) (fun _ _ _ _ _ => pg_name (i := 1) nd rfl (Or.inl rfl)) (fun _ _ _ _ _ => pts_nil)
      (fun _ _ _ _ _ => pe_meth0 (pv 0) T.rcc GL.me GL.ok hr GL.bi .nil pass0E))), ?_⟩
    refine ⟨_, rfl, re, dx, _, rfl, hre, rfl, re, dx, cl, pre, putRows xs ++ rest, (xs.length : Int), rfl, hre, hS, (xs.length : Int), rfl, by omega, by omega, fun D hD => ?_⟩
    rw [Int.toNat_natCast]
    have nDr : D ≠ re := fun e => by
      rw [e, upd_same] at hD
      cases hD
    have hD0 : H D = none := by
      rw [upd_ne nDr] at hD
      exact hD
    refine lc_range (fun i H' => i ≤ xs.length ∧ But re H H' ∧ H' re = some (.ins c.re dx (reF cl ((pre.length + 1 + (putRows (xs.take i)).length : Nat) : Int))) ∧ ∃ as, RowsAt H' D as (xs.take i) ∧ D ∉ as ∧ ∀ b ∈ as, H b = none) ⟨Nat.zero_le _, (upd_but).trans (But.of (Same.upd hD)), ?_, [], ⟨upd_same, rfl, fun i b h => by simp at h⟩, by simp, fun b h => by simp at h⟩ (fun i H1 hi h => ?_) fun H1 h => ?_
    · rw [upd_ne nDr.symm, upd_same]
      rfl
    · obtain ⟨_, b1, hre1, as, R1, nD, nas⟩ := h
      have hx : xs[i]? = some xs[i] := List.getElem?_eq_getElem hi
      have esp : pre ++ ((xs.length : Int) :: (putRows xs ++ rest)) = (pre ++ (xs.length : Int) :: putRows (xs.take i)) ++ (putRow xs[i] ++ (putRows (xs.drop (i + 1)) ++ rest)) := by
        have e2 : putRows xs = putRows (xs.take i) ++ (putRow xs[i] ++ putRows (xs.drop (i + 1))) := by
          have e3 : ∀ (u v : List (List Int)), putRows (u ++ v) = putRows u ++ putRows v := fun u v => by
            induction u with
            | nil => rfl
            | cons y u ih =>
              show putRow y ++ putRows (u ++ v) = (putRow y ++ putRows u) ++ putRows v
              rw [ih, List.append_assoc]
          have e4 : xs = xs.take i ++ (xs[i] :: xs.drop (i + 1)) := by
            rw [← List.drop_eq_getElem_cons hi, List.take_append_drop]
          rw [show putRow xs[i] ++ putRows (xs.drop (i + 1)) = putRows (xs[i] :: xs.drop (i + 1)) from rfl, ← e3, ← e4]
        rw [e2]
        simp only [List.append_assoc, List.cons_append]
      have hS1 : SqL K H1 cl (((pre ++ (xs.length : Int) :: putRows (xs.take i)) ++ (putRow xs[i] ++ (putRows (xs.drop (i + 1)) ++ rest))).map V.int) := by
        rw [← esp]
        exact SqL.butU hS hre b1
      have el : ((pre ++ (xs.length : Int) :: putRows (xs.take i)).length : Int) = ((pre.length + 1 + (putRows (xs.take i)).length : Nat) : Int) := by
        rw [List.length_append, List.length_cons]
        omega
      refine ⟨rfl, ?_⟩
      refine ⟨_, rfl, re, dx, _, rfl, hre1, rfl, re, dx, cl, _, xs[i], _, rfl, by rw [hre1, el], hS1, fun r hr1 => ?_⟩
      have nrr : r ≠ re := fun e => by rw [e, hre1] at hr1; cases hr1
      have nrD : r ≠ D := fun e => by rw [e, R1.lst] at hr1; cases hr1
      have s4 : ∀ z zs, H1 z = some (.lst zs) → (upd (upd H1 re (.ins c.re dx (reF cl (((pre ++ (xs.length : Int) :: putRows (xs.take i)).length + 1 + xs[i].length : Nat) : Int)))) r (.lst (xs[i].map V.int))) z = some (.lst zs) := fun z zs hz => by
        rw [upd_ne (ne_of_none hz hr1), upd_ne (ne_of hz hre1 (by intro q; cases q))]
        exact hz
      obtain ⟨R2, nD2⟩ := R1.snocL nD s4 nrD upd_same
      refine ⟨_, s4 _ _ R1.lst, ?_, hi, fun b o e hb => ?_, ?_, as ++ [r], ?_, nD2, fun b hb => ?_⟩
      · rw [List.length_map, R1.len, List.length_take]
        exact small (by omega)
      · have h1 := b1 _ _ e hb
        rw [upd_ne (ne_of_none e hD0), upd_ne (ne_of_none h1 hr1), upd_ne hb]
        exact h1
      · rw [upd_ne nDr.symm, upd_ne nrr.symm, upd_same, take_nx hx, putRows_snoc]
        have e8 : (pre ++ (xs.length : Int) :: putRows (xs.take i)).length + 1 + xs[i].length = pre.length + 1 + (putRows (xs.take i) ++ putRow xs[i]).length := by
          rw [List.length_append, List.length_append, List.length_cons]
          have : (putRow xs[i]).length = xs[i].length + 1 := rfl
          omega
        rw [e8]
      · rw [take_nx hx]
        exact R2
      · rcases List.mem_append.mp hb with hm | hm
        · exact nas b hm
        · rw [List.mem_singleton.mp hm]
          cases e : H r with
          | none => rfl
          | some o =>
            rw [b1 _ _ e nrr] at hr1
            cases hr1
    · obtain ⟨_, b1, hre1, as, R1, nD, nas⟩ := h
      rw [List.take_length] at R1 hre1
      exact q H1 D as R1 hre1 b1 hD0 nas
end
end Tk
end
section
set_option Elab.async false
set_option linter.all false
set_option maxRecDepth 100000
namespace Tk
open PySem PySem.Spec PyProof.Rows L2
open Kh293Neutral (step asked1 natural)
theorem asked_cases {c : List (List Int)} (h : asked1 c = true) :
    (∃ p m rows, c = [0, p, m] :: rows ∧ 0 ≤ p ∧ 0 ≤ m ∧ 1 ≤ rows.length ∧ rows.length ≤ 32 ∧ rows.all Kh293Neutral.okPlaceRow = true) ∨ c = [[1]] ∨ (∃ w, c = [[2, w]] ∧ 0 ≤ w) ∨ (∃ d w, c = [[3, d, w]] ∧ 0 ≤ d ∧ 0 ≤ w) ∨ c = [[4]] ∨ ∃ d, c = [[5, d]] ∧ 0 ≤ d := by
  have nn : ∀ {z : Int}, natural z 32 = true → 0 ≤ z := fun h => by
    unfold Kh293Neutral.natural at h
    rw [Bool.and_eq_true, decide_eq_true_eq] at h
    exact h.1
  unfold Kh293Neutral.asked1 at h
  split at h
  · rename_i p m s
    simp only [Bool.and_eq_true, decide_eq_true_eq] at h
    exact .inl ⟨p, m, s, rfl, nn h.1.1.1.1, nn h.1.1.1.2, h.1.1.2, h.1.2, h.2⟩
  · exact .inr (.inl rfl)
  · exact .inr (.inr (.inl ⟨_, rfl, nn h⟩))
  · rw [Bool.and_eq_true] at h
    exact .inr (.inr (.inr (.inl ⟨_, _, rfl, nn h.1, nn h.2⟩)))
  · exact .inr (.inr (.inr (.inr (.inl rfl))))
  · exact .inr (.inr (.inr (.inr (.inr ⟨_, rfl, nn h⟩))))
  · cases h
theorem step_begin (o : Option Abs) (p m : Int) (rows : List (List Int)) : step o ([0, p, m] :: rows) = ((Kh293.doing o (.begin_ (some (theScript p.toNat rows)) m.toNat)).1, ansI (Kh293.doing o (.begin_ (some (theScript p.toNat rows)) m.toNat)).2) := rfl
theorem step_say (o : Option Abs) (z : Int) : step o [[2, z]] = ((Kh293.doing o (.say z.toNat)).1, ansI (Kh293.doing o (.say z.toNat)).2) := rfl
theorem step_heard (o : Option Abs) (d z : Int) : step o [[3, d, z]] = ((Kh293.doing o (.heard d.toNat z.toNat)).1, ansI (Kh293.doing o (.heard d.toNat z.toNat)).2) := rfl
theorem step_take (o : Option Abs) : step o [[4]] = ((Kh293.doing o .take).1, ansI (Kh293.doing o .take).2) := rfl
theorem step_kept (o : Option Abs) (d : Int) : step o [[5, d]] = ((Kh293.doing o (.kept d.toNat)).1, ansI (Kh293.doing o (.kept d.toNat)).2) := rfl
theorem step_now (a : Abs) : step (some a) [[1]] = (some a, nowAns a) := by
  have e : step (some a) [[1]] = (some a, (a.kind : Int) :: ((if (a.kind : Int) ≤ 0 then [] else (Kh293.pad 18 (if a.kind = 0 then [] else a.other :: a.words.length :: a.words)).getD 0 0 :: ((Kh293.pad 18 (if a.kind = 0 then [] else a.other :: a.words.length :: a.words)).drop 2).take ((Kh293.pad 18 (if a.kind = 0 then [] else a.other :: a.words.length :: a.words)).getD 1 0)).map Int.ofNat)) := rfl
  rw [e]
  unfold nowAns
  by_cases h : a.kind = 0
  · rw [if_pos h, if_pos (by omega), h]
    rfl
  · rw [if_neg h, if_neg (by omega), if_neg h]
    unfold Kh293.pad
    congr 2
    show (a.other : Int) :: List.map Int.ofNat (List.take a.words.length (a.words ++ _)) = _
    rw [List.take_left' rfl]
def spAnswer (c : Cs) : Sp := fun vs H Q _ => ∃ (k nu L : Addr) (cn : Int) (ns : List Int) (rows : List (List Int)) (as ls : List Addr) (o : Option Abs), vs = [.ref k, .int cn, .ref nu, .ref L] ∧ H nu = some (.lst (ns.map V.int)) ∧ RowsAt H L as rows ∧ KeeperAt c H k ls o ∧ asked1 ((cn :: ns) :: rows) = true ∧ (o.isSome = true ∨ cn = 0) ∧
  Post c H k ls (step o ((cn :: ns) :: rows)).1 (step o ((cn :: ns) :: rows)).2 Q
section
variable {P : Program} {w : World} {K : PySem.W.Frag} {mg : Str → Option Value} {base : Heap} {c : Cs}
theorem sc_answer : FnScope ["keeper", "call", "numbers", "lists"] ["keeper", "call", "numbers", "lists"] (defScope s_answer_of) := ⟨rfl, rfl, rfl, by decide +kernel, rfl, by decide +kernel, by decide +kernel⟩
theorem ok_answer {f fb fn fs fh ft fk : Addr} {fd fdb fdn fds fdh fdt fdk : FuncData} (F : Fun K "answer_of" "answer_of" s_answer_of f fd) (T : Txt K mg c) (GB : Me P w K mg base c.ke "begin" 8 ["self", "p", "me", "lists"] (spBegin c) fb fdb) (GN : Me P w K mg base c.ke "now" 1 ["self"] (spNow c) fn fdn)
    (GS : Me P w K mg base c.ke "say" 1 ["self", "word"] (spSay c) fs fds) (GH : Me P w K mg base c.ke "heard" 2 ["self", "other", "word"] (spHeard c) fh fdh) (GT : Me P w K mg base c.ke "take" 1 ["self"] (spTake c) ft fdt) (GK : Me P w K mg base c.ke "kept" 2 ["self", "other"] (spKept c) fk fdk) :
    FnOk P w K mg base (CXe P w) 9 f fd ["keeper", "call", "numbers", "lists"] (spAnswer c) := by
  refine F.okE sc_answer (fun vs H Q E h => ?_) (fun cdv A outer s H vs Q E hr h => ?_)
  · obtain ⟨k, nu, L, cn, ns, rows, as, ls, o, rfl, _⟩ := h
    rfl
  · obtain ⟨k, nu, L, cn, ns, rows, as, ls, o, rfl, hnu, hR, KK, hask, hon, q⟩ := h
    have hr1 : Room 1 _ := hr.mono (by decide)
    have hr2 : Room 2 _ := hr.mono (by decide)
    refine ⟨_, pss_cons (ps_if (pt_cmpR op_eq (pv 1) (pe_gl rfl T.BEGIN) (nomark _)) (pss_one (ps_ret (pe_meth (pv 0) T.kec GB.me GB.ok hr GB.bi .nil pass0E (pa_cons (pe_ix ix_list (pv 2) pe_int (fun _ _ => rfl)) (pa_cons (pe_ix ix_list (pv 2) pe_int (fun _ _ => rfl)) (pa_cons (pv 3) pa_nil)))))) pss_nil)
      (pss_cons (ps_if (pt_cmpR op_eq (pv 1) (pe_gl rfl T.NOW) (nomark _)) (pss_one (ps_ret (pe_meth0 (pv 0) T.kec GN.me GN.ok hr1 GN.bi .nil pass0E))) pss_nil)
      (pss_cons (ps_if (pt_cmpR op_eq (pv 1) (pe_gl rfl T.SAY) (nomark _)) (pss_one (ps_ret (pe_meth (pv 0) T.kec GS.me GS.ok hr1 GS.bi .nil pass0E (pa_cons (pe_ix ix_list (pv 2) pe_int (fun _ _ => rfl)) pa_nil)))) pss_nil)
      (pss_cons (ps_if (pt_cmpR op_eq (pv 1) (pe_gl rfl T.HEARD) (nomark _)) (pss_one (ps_ret (pe_meth (pv 0) T.kec GH.me GH.ok hr2 GH.bi .nil pass0E (pa_cons (pe_ix ix_list (pv 2) pe_int (fun _ _ => rfl)) (pa_cons (pe_ix ix_list (pv 2) pe_int (fun _ _ => rfl)) pa_nil))))) pss_nil)
      (pss_cons (ps_if (pt_cmpR op_eq (pv 1) (pe_gl rfl T.TAKE) (nomark _)) (pss_one (ps_ret (pe_meth0 (pv 0) T.kec GT.me GT.ok hr1 GT.bi .nil pass0E))) pss_nil)
      (pss_one (ps_ret (pe_meth (pv 0) T.kec GK.me GK.ok hr2 GK.bi .nil pass0E (pa_cons (pe_ix ix_list (pv 2) pe_int (fun _ _ => rfl)) pa_nil)))))))), ?_⟩
    obtain ⟨dx, me, rw, st, ln, hk⟩ := KK.ins
    have a0 : ∀ {x : Int} {r : List Int} {z : Int}, z = 0 → atI ((x :: r).map V.int) z = some (V.int x) := fun {x r z} hz => by
      subst hz
      exact atI_nat (j := 0) rfl
    have a1 : ∀ {x y : Int} {r : List Int} {z : Int}, z = 1 → atI ((x :: y :: r).map V.int) z = some (V.int y) := fun {x y r z} hz => by
      subst hz
      exact atI_nat (j := 1) rfl
    have tn : ∀ {z : Int}, 0 ≤ z → ((z.toNat : Nat) : Int) = z := fun h => Int.toNat_of_nonneg h
    refine ⟨_, rfl, rfl, _, rfl, ?_⟩
    rcases asked_cases hask with ⟨p, m, rows', e, hp, hm, n1, n32, hall⟩ | e | ⟨z, e, hz⟩ | ⟨d, z, e, hd, hz⟩ | e | ⟨d, e, hd⟩
    · have e1 := List.cons.inj e
      have e2 := List.cons.inj e1.1
      obtain ⟨rfl, rfl⟩ : cn = 0 ∧ ns = [p, m] := e2
      obtain rfl : rows = rows' := e1.2
      rw [step_begin] at q
      refine ite3 (fun _ => ?_) fun h => absurd rfl h
      refine ⟨_, rfl, k, dx, _, rfl, hk, rfl, ?_⟩
      refine ⟨_, rfl, nu, _, _, _, rfl, rfl, SqL.of hnu, a0 rfl, _, rfl, nu, _, _, _, rfl, rfl, SqL.of hnu, a1 rfl, _, rfl, ?_⟩
      refine ⟨k, L, p.toNat, m.toNat, as, ls, rows, o, by rw [tn hp, tn hm]; rfl, hR, fun r hr => rowIn_of (List.all_eq_true.mp hall r hr), n1, n32, KK, q⟩
    · obtain ⟨e1, rfl⟩ := List.cons.inj e
      obtain ⟨rfl, rfl⟩ := List.cons.inj e1
      obtain ⟨a, rfl⟩ : ∃ a, o = some a := by
        rcases hon with h | h
        · exact Option.isSome_iff_exists.mp h
        · exact absurd h (by decide)
      rw [step_now] at q
      refine ite3 (fun h => absurd (V.int.inj h) (by decide)) fun _ => ?_
      refine ⟨_, rfl, rfl, _, rfl, ite3 (fun _ => ?_) fun h => absurd rfl h⟩
      refine ⟨_, rfl, k, dx, _, rfl, hk, rfl, k, ls, a, rfl, KK, q⟩
    · obtain ⟨e1, rfl⟩ := List.cons.inj e
      obtain ⟨rfl, rfl⟩ := List.cons.inj e1
      obtain ⟨a, rfl⟩ : ∃ a, o = some a := by
        rcases hon with h | h
        · exact Option.isSome_iff_exists.mp h
        · exact absurd h (by decide)
      rw [step_say] at q
      refine ite3 (fun h => absurd (V.int.inj h) (by decide)) fun _ => ?_
      refine ⟨_, rfl, rfl, _, rfl, ite3 (fun h => absurd (V.int.inj h) (by decide)) fun _ => ?_⟩
      refine ⟨_, rfl, rfl, _, rfl, ite3 (fun _ => ?_) fun h => absurd rfl h⟩
      refine ⟨_, rfl, k, dx, _, rfl, hk, rfl, _, rfl, nu, _, _, _, rfl, rfl, SqL.of hnu, a0 rfl, k, z.toNat, ls, a, by rw [tn hz]; rfl, KK, q⟩
    · obtain ⟨e1, rfl⟩ := List.cons.inj e
      obtain ⟨rfl, rfl⟩ := List.cons.inj e1
      obtain ⟨a, rfl⟩ : ∃ a, o = some a := by
        rcases hon with h | h
        · exact Option.isSome_iff_exists.mp h
        · exact absurd h (by decide)
      rw [step_heard] at q
      refine ite3 (fun h => absurd (V.int.inj h) (by decide)) fun _ => ?_
      refine ⟨_, rfl, rfl, _, rfl, ite3 (fun h => absurd (V.int.inj h) (by decide)) fun _ => ?_⟩
      refine ⟨_, rfl, rfl, _, rfl, ite3 (fun h => absurd (V.int.inj h) (by decide)) fun _ => ?_⟩
      refine ⟨_, rfl, rfl, _, rfl, ite3 (fun _ => ?_) fun h => absurd rfl h⟩
      refine ⟨_, rfl, k, dx, _, rfl, hk, rfl, _, rfl, nu, _, _, _, rfl, rfl, SqL.of hnu, a0 rfl, _, rfl, nu, _, _, _, rfl, rfl, SqL.of hnu, a1 rfl, k, d.toNat, z.toNat, ls, a, by rw [tn hd, tn hz]; rfl, KK, q⟩
    · obtain ⟨e1, rfl⟩ := List.cons.inj e
      obtain ⟨rfl, rfl⟩ := List.cons.inj e1
      obtain ⟨a, rfl⟩ : ∃ a, o = some a := by
        rcases hon with h | h
        · exact Option.isSome_iff_exists.mp h
        · exact absurd h (by decide)
      rw [step_take] at q
      refine ite3 (fun h => absurd (V.int.inj h) (by decide)) fun _ => ?_
      refine ⟨_, rfl, rfl, _, rfl, ite3 (fun h => absurd (V.int.inj h) (by decide)) fun _ => ?_⟩
      refine ⟨_, rfl, rfl, _, rfl, ite3 (fun h => absurd (V.int.inj h) (by decide)) fun _ => ?_⟩
      refine ⟨_, rfl, rfl, _, rfl, ite3 (fun h => absurd (V.int.inj h) (by decide)) fun _ => ?_⟩
      refine ⟨_, rfl, rfl, _, rfl, ite3 (fun _ => ?_) fun h => absurd rfl h⟩
      refine ⟨_, rfl, k, dx, _, rfl, hk, rfl, k, ls, a, rfl, KK, q⟩
    · obtain ⟨e1, rfl⟩ := List.cons.inj e
      obtain ⟨rfl, rfl⟩ := List.cons.inj e1
      obtain ⟨a, rfl⟩ : ∃ a, o = some a := by
        rcases hon with h | h
        · exact Option.isSome_iff_exists.mp h
        · exact absurd h (by decide)
      rw [step_kept] at q
      refine ite3 (fun h => absurd (V.int.inj h) (by decide)) fun _ => ?_
      refine ⟨_, rfl, rfl, _, rfl, ite3 (fun h => absurd (V.int.inj h) (by decide)) fun _ => ?_⟩
      refine ⟨_, rfl, rfl, _, rfl, ite3 (fun h => absurd (V.int.inj h) (by decide)) fun _ => ?_⟩
      refine ⟨_, rfl, rfl, _, rfl, ite3 (fun h => absurd (V.int.inj h) (by decide)) fun _ => ?_⟩
      refine ⟨_, rfl, rfl, _, rfl, ite3 (fun h => absurd (V.int.inj h) (by decide)) fun _ => ?_⟩
      refine ⟨_, rfl, k, dx, _, rfl, hk, rfl, _, rfl, nu, _, _, _, rfl, rfl, SqL.of hnu, a0 rfl, k, d.toNat, ls, a, by rw [tn hd]; rfl, KK, q⟩
end
end Tk
end
section
set_option Elab.async false
set_option linter.all false
set_option maxRecDepth 100000
namespace Tk
open PySem PySem.Spec PyProof.Rows L2
open Kh293Neutral (step asked1 natural)
open PyFlat (putRow putRows told played)
def okFrom : Option Abs → List (List (List Int)) → Prop
  | _, [] => True
  | o, c :: cs => (o.isSome = true ∨ (c.getD 0 []).headD 9 = 0) ∧ okFrom (step o c).1 cs
def foldF (x : Bool × Option Abs) (c : List (List Int)) : Bool × Option Abs := (x.1 && (x.2.isSome || (c.getD 0 []).headD 9 == 0), (step x.2 c).1)
theorem fold_ok : ∀ (cs : List (List (List Int))) (b : Bool) (o : Option Abs), (cs.foldl foldF (b, o)).1 = true → b = true ∧ okFrom o cs
  | [], b, o, h => ⟨h, trivial⟩
  | c :: cs, b, o, h => by
    have ih := fold_ok cs (b && (o.isSome || (c.getD 0 []).headD 9 == 0)) (step o c).1 h
    have h1 := ih.1
    rw [Bool.and_eq_true, Bool.or_eq_true, beq_iff_eq] at h1
    exact ⟨h1.1, h1.2, ih.2⟩
theorem asked_of {cs : List (List (List Int))} (h : Kh293Neutral.asked cs = true) : (∀ c ∈ cs, asked1 c = true) ∧ okFrom none cs := by
  unfold Kh293Neutral.asked at h
  rw [Bool.and_eq_true, Bool.and_eq_true, List.all_eq_true] at h
  exact ⟨h.1.2, (fold_ok cs true none h.2).2⟩
theorem ansI_say (z : Int) : (ansI (Kh293.say z)).length = 1 := rfl
theorem step_len {o : Option Abs} {c : List (List Int)} (h : asked1 c = true) (hon : o.isSome = true ∨ (c.getD 0 []).headD 9 = 0) : (step o c).2.length ≤ 258 := by
  have one : ∀ z : Int, (ansI (Kh293.say z)).length ≤ 258 := fun z => by rw [ansI_say]; decide
  have sm : ∀ {z : Int}, z ≠ 0 → (o.isSome = true ∨ z = 0) → ∃ a, o = some a := fun hz h => Option.isSome_iff_exists.mp (h.resolve_right hz)
  rcases asked_cases h with ⟨p, m, rows', rfl, _⟩ | rfl | ⟨z, rfl, _⟩ | ⟨d, z, rfl, _⟩ | rfl | ⟨d, rfl, _⟩
  · rw [step_begin, doing_begin]
    dsimp only
    split
    · exact one _
    · split <;> exact one _
  · obtain ⟨a, rfl⟩ := sm (z := 1) (by decide) hon
    rw [step_now]
    show (nowAns a).length ≤ 258
    unfold nowAns
    split
    · show 1 ≤ 258
      decide
    · rw [List.length_cons, List.length_cons, List.length_map]
      have : a.words.length ≤ 256 := by
        unfold Kh293.Abs.words Kh292.words
        exact Nat.le_trans (List.length_filter_le _ _) (by rw [List.length_range]; exact Nat.le_refl _)
      omega
  · obtain ⟨a, rfl⟩ := sm (z := 2) (by decide) hon
    rw [step_say, doing_say]
    dsimp only
    split
    · exact one _
    · split <;> exact one _
  · obtain ⟨a, rfl⟩ := sm (z := 3) (by decide) hon
    rw [step_heard, doing_heard]
    dsimp only
    split
    · exact one _
    · split <;> exact one _
  · obtain ⟨a, rfl⟩ := sm (z := 4) (by decide) hon
    rw [step_take, doing_take]
    dsimp only
    split
    · exact one _
    · split
      · exact one _
      · split
        · exact one _
        · show 2 ≤ 258
          decide
  · obtain ⟨a, rfl⟩ := sm (z := 5) (by decide) hon
    rw [step_kept, doing_kept]
    exact one _
def spAns (K : PySem.W.Frag) : Sp := fun vs H Q _ => ∃ (cl : Addr) (ns : List Int), vs = [.ref cl] ∧ SqL K H cl (ns.map V.int) ∧ ns.length ≤ 31000 ∧ PyKh293.answers_asked ns = true ∧ ∀ (H' : Hp) (p : Addr), H' p = some (.lst ((PyKh293.answers ns).map V.int)) → Q (.ref p) H'
section
variable {P : Program} {w : World} {K : PySem.W.Frag} {mg : Str → Option Value} {base : Heap} {c : Cs}
theorem re_ne_ke {C C' dx dx' : Addr} {a b : Int} {d x y : Addr} : HO.ins C dx (keF a x b y) ≠ HO.ins C' dx' (reF d e) := fun q => by
  have := congrArg List.length (HO.ins.inj q).2.2
  exact absurd this (by show ¬ (4 = 2); decide)
theorem ro_ne_re {C C' dx dx' : Addr} {a b e : Int} {d x : Addr} : HO.ins C dx (roF a b d) ≠ HO.ins C' dx' (reF x e) := fun q => by
  have := congrArg List.length (HO.ins.inj q).2.2
  exact absurd this (by show ¬ (3 = 2); decide)
theorem KeeperAt.but {H H' : Hp} {k z : Addr} {ls : List Addr} {o : Option Abs} (x : KeeperAt c H k ls o) (b : But z H H') (nk : z ≠ k) (nl : z ∉ ls) (ni : ∀ C dx a b d, H z ≠ some (.ins C dx (roF a b d))) (nd : ∀ kvs, H z ≠ some (.dK kvs)) : KeeperAt c H' k ls o := by
  cases o with
  | none =>
    obtain ⟨e, dx, me, rw, st, ln, h⟩ := x
    exact ⟨e, dx, me, rw, st, ln, b _ _ h nk.symm⟩
  | some a =>
    obtain ⟨dx, rw, ln, st, l, rds, ls0, rfl, KA⟩ := x
    have n1 : rw ≠ z := fun e => nl (by simp [e])
    have n2 : ln ≠ z := fun e => nl (by simp [e])
    have n3 : ∀ {y}, y ∈ ls0 → y ≠ z := fun hy e => nl (by rw [← e]; simp [hy])
    refine ⟨dx, rw, ln, st, l, rds, ls0, rfl, b _ _ KA.ins nk.symm, KA.ok, KA.me, ?_, KA.rok, KA.cur, b _ _ KA.lns n2, KA.len, KA.klen, KA.nd, fun i y hy => b _ _ (KA.lat i y hy) (n3 (List.mem_of_getElem? hy)), KA.l64, KA.nln, KA.nrw⟩
    obtain ⟨rs, h1, h2, h3⟩ := KA.rws
    refine ⟨rs, b _ _ h1 n1, h2, fun i r e => ?_⟩
    obtain ⟨rd, a1, dr, d, a2, a3⟩ := h3 i r e
    exact ⟨rd, a1, dr, d, b _ _ a2 (fun e => ni _ _ _ _ _ (e ▸ a2)), b _ _ a3 (fun e => nd _ (e ▸ a3))⟩
theorem KeeperAt.lsl {H : Hp} {k z : Addr} {ls : List Addr} {o : Option Abs} (x : KeeperAt c H k ls o) (h : z ∈ ls) : ∃ zs, H z = some (.lst zs) := by
  cases o with
  | none =>
    rw [x.1] at h
    simp at h
  | some a =>
    obtain ⟨dx, rw, ln, st, l, rds, ls0, rfl, KA⟩ := x
    rcases List.mem_cons.mp h with e | h
    · obtain ⟨rs, q, _⟩ := KA.rws
      exact ⟨_, e ▸ q⟩
    · rcases List.mem_cons.mp h with e | h
      · exact ⟨_, e ▸ KA.lns⟩
      · obtain ⟨i, hi⟩ := List.mem_iff_getElem?.mp h
        exact ⟨_, KA.lat i z hi⟩
theorem sc_answers : FnScope ["calls", "keeper", "reader", "found", "call", "numbers", "lists", "answer"] ["calls"] (defScope s_answers) := ⟨rfl, rfl, rfl, by decide +kernel, rfl, by decide +kernel, by decide +kernel⟩
set_option maxHeartbeats 1000000 in
theorem ok_answers {f fk fr fd' fn fl fs fa : Addr} {fd fdk fdr fdd fdn fdl fds fda : FuncData} (F : Fun K "answers" "answers" s_answers f fd) (T : Txt K mg c) (GK : Mr P w K mg base "Keeper" c.ke 1 ["self"] (spKeeperInit c) fk fdk) (GR : Mr P w K mg base "Reader" c.re 1 ["self", "calls"] (spReaderInit c) fr fdr)
    (GD : Me P w K mg base c.re "is_done" 1 ["self"] (spDone K c) fd' fdd) (GN : Me P w K mg base c.re "read_number" 1 ["self"] (spNum K c) fn fdn) (GL : Me P w K mg base c.re "read_list" 2 ["self"] (spList K c) fl fdl) (GS : Me P w K mg base c.re "read_lists" 3 ["self"] (spLists K c) fs fds)
    (GA : Fn P w K mg base "answer_of" 9 ["keeper", "call", "numbers", "lists"] (spAnswer c) fa fda) : FnOk P w K mg base (CXe P w) 10 f fd ["calls"] (spAns K) := by
  refine F.okE sc_answers (fun vs H Q E h => ?_) (fun cdv A outer s H vs Q E hr h => ?_)
  · obtain ⟨cl, ns, rfl, _⟩ := h
    rfl
  · obtain ⟨cl, ns, rfl, hS, hlen, hask, q⟩ := h
    have nd := sc_answers.nd
    have hr1 : Room 1 _ := hr.mono (by decide)
    have hr2 : Room 2 _ := hr.mono (by decide)
    have hr3 : Room 3 _ := hr.mono (by decide)
    refine ⟨_, pss_cons (ps_set (i := 1) nd rfl (Or.inl rfl) (pe_make0 GK.mkk GK.ok hr2 rfl GK.mg GK.bi .nil pass0E))
      (pss_cons (ps_set (i := 2) nd rfl (Or.inl rfl) (pe_make GR.mkk GR.ok hr2 rfl GR.mg GR.bi .nil pass0E (pa_cons (pv 0) pa_nil)))
      (pss_cons (ps_set (i := 3) nd rfl (Or.inl rfl) (pe_lst pa_nil))
      (pss_cons (ps_while ownE (pt_not (pt_val (pe_meth0 (pv 2) T.rcc GD.me GD.ok hr1 GD.bi .nil pass0E)))
        (pss_cons (ps_set (i := 4) nd rfl (Or.inl rfl) (pe_meth0 (pv 2) T.rcc GN.me GN.ok hr1 GN.bi .nil pass0E))
        (pss_cons (ps_set (i := 5) nd rfl (Or.inl rfl) (pe_meth0 (pv 2) T.rcc GL.me GL.ok hr2 GL.bi .nil pass0E))
        (pss_cons (ps_set (i := 6) nd rfl (Or.inl rfl) (pe_meth0 (pv 2) T.rcc GS.me GS.ok hr3 GS.bi .nil pass0E))
        (pss_cons (ps_set (i := 7) nd rfl (Or.inl rfl) (pe_call GA.ok hr rfl GA.mg GA.kp GA.bi .nil pass0E (pa_cons (pv 1) (pa_cons (pv 4) (pa_cons (pv 5) (pa_cons (pv 6) pa_nil))))))
        (pss_cons (ps_expr (pe_bm PySem.F.plainAttrs_list PySem.F.slot_list_append PySem.F.type_list_append mt_append (pv 3) (pa_cons (pe_callB call_len_seq rfl T.len PySem.boot_len (pa_cons (pv 7) pa_nil)) pa_nil)))
        (pss_one (ps_expr (pe_bm PySem.F.plainAttrs_list PySem.F.slot_list_extend PySem.F.type_list_extend mt_extend (pv 3) (pa_cons (pv 7) pa_nil))))))))))
      (pss_one (ps_ret (pv 3)))))), ?_⟩
    unfold PyKh293.answers_asked at hask
    cases ecs : PyKh293.calls ns with
    | none =>
      rw [ecs] at hask
      cases hask
    | some cs =>
    rw [ecs] at hask
    dsimp only at hask
    rw [Bool.and_eq_true] at hask
    have h400 : cs.length ≤ 400 := of_decide_eq_true hask.1
    obtain ⟨hall, hfrom⟩ := asked_of hask.2
    obtain ⟨hput, hokc⟩ := PyWide.put_calls _ _ _ ecs
    have hdue : PyKh293.answers ns = told (played step none cs) := by
      unfold PyKh293.answers
      rw [ecs]
      rfl
    rw [hdue] at q
    intro k dk hk hdk nek
    refine ⟨k, dk, rfl, upd_same, fun H1 K1 b1 => ⟨rfl, ?_⟩⟩
    have s1 : Same H H1 := Same.made hk hdk b1
    refine ⟨_, rfl, fun re dr hre hdr ner => ?_⟩
    refine ⟨re, dr, cl, rfl, upd_same, fun H2 hre2 b2 => ⟨rfl, ?_⟩⟩
    have s2 : Same H1 H2 := Same.made hre hdr b2
    refine ⟨Nat.zero_le _, fun fo hfo => ?_⟩
    have s3 := Same.upd (o := .lst []) hfo
    have hk0 : H k = none := hk
    have hre0 : H re = none := s1.free hre
    have hfo0 : H fo = none := (s1.trans s2).free hfo
    have s03 := (s1.trans s2).trans s3
    refine ⟨fun m σ H' => ∃ (pre : List Int) (cs' : List (List (List Int))) (o : Option Abs) (ls : List Addr) (fl : List Int) (v4 v5 v6 v7 : Option V) (dr : Addr), σ = [some (.ref cl), some (.ref k), some (.ref re), some (.ref fo), v4, v5, v6, v7] ∧ ns = pre ++ PyWide.put cs' ∧ H' re = some (.ins c.re dr (reF cl pre.length)) ∧ Same H H' ∧ (∀ b ∈ ls, H b = none) ∧
      KeeperAt c H' k ls o ∧ H' fo = some (.lst (fl.map V.int)) ∧ fo ∉ ls ∧ told (played step none cs) = fl ++ told (played step o cs') ∧ okFrom o cs' ∧ (∀ c ∈ cs', PyWide.okCall c) ∧ (∀ c ∈ cs', asked1 c = true) ∧ fl.length + 300 * cs'.length ≤ 120000 ∧ m = cs'.length, ⟨_, [], cs, none, [], [], none, none, none, none, dr, rfl, hput, s3 _ _ hre2, s03, fun b h => by simp at h, (K1.same s2).same s3, upd_same, by simp, rfl, hfrom, hokc, hall, by simp; omega, rfl⟩, ?_⟩
    rintro m σ H4 ⟨pre, cs', o, ls, fl, v4, v5, v6, v7, dr4, rfl, hns, hre4, s4, nls, K4, hfo4, nfo, htold, hof, hok, hasks, hfl, rfl⟩
    have hS4 : SqL K H4 cl ((pre ++ PyWide.put cs').map V.int) := by
      rw [← hns]
      exact s4.seq hS
    refine ⟨_, rfl, re, dr4, _, rfl, hre4, rfl, re, dr4, cl, pre, PyWide.put cs', rfl, hre4, hS4, _, rfl, ?_⟩
    cases cs' with
    | nil =>
      refine iteB (fun e => absurd e (by decide)) fun _ => ?_
      refine ⟨_, rfl, q H4 fo ?_⟩
      rw [htold, hfo4]
      show _ = some (HO.lst ((fl ++ []).map V.int))
      rw [List.append_nil]
    | cons cc cs2 =>
    obtain ⟨cn, nums, rows, rfl⟩ := hok cc (by simp)
    have eput : PyWide.put (((cn :: nums) :: rows) :: cs2) = cn :: (putRow nums ++ ((rows.length : Int) :: (putRows rows ++ PyWide.put cs2))) := PyWide.put1_append cn nums rows (PyWide.put cs2)
    have hnn : decide (PyWide.put (((cn :: nums) :: rows) :: cs2) = []) = false := by
      rw [eput, decide_eq_false_iff_not]
      intro h
      cases h
    rw [hnn]
    refine iteT ?_
    refine ⟨fun σ' H' => ∃ m', m' < (((cn :: nums) :: rows) :: cs2).length ∧ ∃ (pre : List Int) (cs' : List (List (List Int))) (o : Option Abs) (ls : List Addr) (fl : List Int) (v4 v5 v6 v7 : Option V) (dr : Addr), σ' = [some (.ref cl), some (.ref k), some (.ref re), some (.ref fo), v4, v5, v6, v7] ∧ ns = pre ++ PyWide.put cs' ∧ H' re = some (.ins c.re dr (reF cl pre.length)) ∧ Same H H' ∧ (∀ b ∈ ls, H b = none) ∧
      KeeperAt c H' k ls o ∧ H' fo = some (.lst (fl.map V.int)) ∧ fo ∉ ls ∧ told (played step none cs) = fl ++ told (played step o cs') ∧ okFrom o cs' ∧ (∀ c ∈ cs', PyWide.okCall c) ∧ (∀ c ∈ cs', asked1 c = true) ∧ fl.length + 300 * cs'.length ≤ 120000 ∧ m' = cs'.length, fun σ' H' h => h, ?_⟩
    rw [eput] at hS4 hns
    refine ⟨_, rfl, re, dr4, _, rfl, hre4, rfl, re, dr4, cl, pre, _, cn, rfl, hre4, hS4, ?_⟩
    have b5 : But re H4 (upd H4 re (.ins c.re dr4 (reF cl ((pre.length + 1 : Nat) : Int)))) := upd_but
    have hre5 := upd_same (H := H4) (a := re) (o := .ins c.re dr4 (reF cl ((pre.length + 1 : Nat) : Int)))
    generalize upd H4 re (.ins c.re dr4 (reF cl ((pre.length + 1 : Nat) : Int))) = H5 at b5 hre5 ⊢
    have hS5 : SqL K H5 cl (((pre ++ [cn]) ++ (putRow nums ++ ((rows.length : Int) :: (putRows rows ++ PyWide.put cs2)))).map V.int) := by
      rw [List.append_assoc]
      exact SqL.butU hS4 hre4 b5
    have e5 : ((pre ++ [cn]).length : Int) = ((pre.length + 1 : Nat) : Int) := by simp
    refine ⟨_, rfl, re, dr4, _, rfl, hre5, rfl, re, dr4, cl, pre ++ [cn], nums, _, rfl, by rw [hre5, e5], hS5, fun nu hnu => ?_⟩
    have nnu : nu ≠ re := (ne_of_none hre5 hnu).symm
    have b6 : But re H5 (upd (upd H5 re (.ins c.re dr4 (reF cl (((pre ++ [cn]).length + 1 + nums.length : Nat) : Int)))) nu (.lst (nums.map V.int))) := fun b o e hb => by
      rw [upd_ne (ne_of_none e hnu), upd_ne hb]
      exact e
    have hnu6 := upd_same (H := upd H5 re (.ins c.re dr4 (reF cl (((pre ++ [cn]).length + 1 + nums.length : Nat) : Int)))) (a := nu) (o := .lst (nums.map V.int))
    have hre6 : (upd (upd H5 re (.ins c.re dr4 (reF cl (((pre ++ [cn]).length + 1 + nums.length : Nat) : Int)))) nu (.lst (nums.map V.int))) re = some (.ins c.re dr4 (reF cl (((pre ++ [cn]).length + 1 + nums.length : Nat) : Int))) := by
      rw [upd_ne nnu.symm, upd_same]
    generalize upd (upd H5 re (.ins c.re dr4 (reF cl (((pre ++ [cn]).length + 1 + nums.length : Nat) : Int)))) nu (.lst (nums.map V.int)) = H6 at b6 hnu6 hre6 ⊢
    have hS6 : SqL K H6 cl ((((pre ++ [cn]) ++ putRow nums) ++ ((rows.length : Int) :: (putRows rows ++ PyWide.put cs2))).map V.int) := by
      rw [List.append_assoc]
      exact SqL.butU hS5 hre5 b6
    have e6 : (((pre ++ [cn]) ++ putRow nums).length : Int) = (((pre ++ [cn]).length + 1 + nums.length : Nat) : Int) := by
      rw [List.length_append]
      have : (putRow nums).length = nums.length + 1 := rfl
      omega
    have hask1 := hasks _ (List.mem_cons_self ..)
    have hrl : rows.length ≤ 32 := by
      rcases asked_cases hask1 with ⟨p, m, rows', e, _, _, _, h, _⟩ | e | ⟨z, e, _⟩ | ⟨d, z, e, _⟩ | e | ⟨d, e, _⟩
      · rw [(List.cons.inj e).2]
        exact h
      all_goals
        rw [(List.cons.inj e).2]
        exact Nat.zero_le _
    refine ⟨_, rfl, re, dr4, _, rfl, hre6, rfl, re, dr4, cl, (pre ++ [cn]) ++ putRow nums, PyWide.put cs2, rows, rfl, by rw [hre6, e6], hS6, by omega, fun H7 D as R7 hre7 b7 hD7 nas7 => ?_⟩
    have b47 : But re H4 H7 := (b5.trans b6).trans b7
    have nrek : re ≠ k := by
      obtain ⟨dx, me, rw, st, ln, h⟩ := K4.ins
      exact fun e => by rw [← e, hre4] at h; exact re_ne_ke (Option.some.inj h).symm
    have nrel : re ∉ ls := fun hm => by
      obtain ⟨zs, h⟩ := K4.lsl hm
      rw [hre4] at h
      cases h
    have K7 : KeeperAt c H7 k ls o := K4.but b47 nrek nrel (fun C dx a b d h => ro_ne_re (Option.some.inj (h.symm.trans hre4))) fun kvs h => by rw [hre4] at h; cases h
    have nfr : fo ≠ re := ne_of hfo4 hre4 (by intro q; cases q)
    have hfo7 := b47 _ _ hfo4 nfr
    have hnu7 := b7 _ _ hnu6 nnu
    have hon : o.isSome = true ∨ cn = 0 := hof.1
    have hlen2 := step_len hask1 hof.1
    refine ⟨_, rfl, _, rfl, _, rfl, _, rfl, k, nu, D, cn, nums, rows, as, ls, o, rfl, hnu7, R7, K7, hask1, hon, fun H8 r ls' hr7 hr8 K8 fr8 nl8 nr8 => ?_⟩
    have nfk : fo ≠ k := by
      obtain ⟨dx, me, rw, st, ln, h⟩ := K4.ins
      exact ne_of hfo4 h (by intro q; cases q)
    have hfo8 := fr8 _ _ hfo7 nfk nfo
    have hre8 := fr8 _ _ hre7 nrek nrel
    have nrf : r ≠ fo := (ne_of_none hfo7 hr7).symm
    have nfo8 : fo ∉ ls' := fun hm => (nl8 fo hm).elim nfo fun h => by rw [hfo7] at h; cases h
    have hsz : fl.length + 300 * (cs2.length + 1) ≤ 120000 := hfl
    have big : 200000 < sizeLine := by decide
    refine ⟨_, rfl, .inl ⟨rfl, _, SqL.of hfo8⟩, _, rfl, r, _, rfl, .inl (SqL.of hr8), fo, _, _, rfl, rfl, hfo8, (by rw [List.length_map]; omega), ?_⟩
    rw [List.length_map]
    have hr9 : (upd H8 fo (.lst (fl.map V.int ++ [.int ((step o ((cn :: nums) :: rows)).2.length : Int)]))) r = some (.lst ((step o ((cn :: nums) :: rows)).2.map V.int)) := by
      rw [upd_ne nrf]
      exact hr8
    refine ⟨_, rfl, .inl ⟨rfl, _, SqL.of upd_same⟩, _, rfl, fo, r, _, _, rfl, rfl, upd_same, hr9, (by rw [List.length_append, List.length_map, List.length_map]; show fl.length + 1 + _ ≤ _; omega), ?_⟩
    rw [upd_upd]
    have efl : (fl.map V.int ++ [V.int ((step o ((cn :: nums) :: rows)).2.length : Int)]) ++ (step o ((cn :: nums) :: rows)).2.map V.int = (fl ++ (((step o ((cn :: nums) :: rows)).2.length : Int) :: (step o ((cn :: nums) :: rows)).2)).map V.int := by
      rw [List.map_append, List.map_cons, List.append_assoc]
      rfl
    rw [efl]
    have b10 : But fo H8 (upd H8 fo (.lst ((fl ++ (((step o ((cn :: nums) :: rows)).2.length : Int) :: (step o ((cn :: nums) :: rows)).2)).map V.int))) := upd_but
    have fr7 : ∀ b, H7 b = none → b ≠ re → H b = none := fun b h hb => by
      cases e : H b with
      | none => rfl
      | some o =>
        rw [b47 _ _ (s4 _ _ e) hb] at h
        cases h
    refine ⟨_, Nat.lt_succ_self _, ((pre ++ [cn]) ++ putRow nums) ++ ((rows.length : Int) :: putRows rows), cs2, (step o ((cn :: nums) :: rows)).1, ls', fl ++ (((step o ((cn :: nums) :: rows)).2.length : Int) :: (step o ((cn :: nums) :: rows)).2), _, _, _, _, dr4, rfl, ?_, ?_, ?_, ?_, K8.but b10 nfk nfo8 (fun C dx a b d h => by rw [hfo8] at h; cases h) (fun kvs h => by rw [hfo8] at h; cases h), upd_same, nfo8, ?_, hof.2, fun x hx => hok x (List.mem_cons_of_mem _ hx), fun x hx => hasks x (List.mem_cons_of_mem _ hx), ?_, rfl⟩
    · rw [hns]
      simp only [List.append_assoc, List.cons_append, List.nil_append]
    · rw [upd_ne nfr.symm, hre8]
      congr 3
      simp only [List.length_append, List.length_cons]
      omega
    · intro b o' e
      rw [upd_ne (ne_of_none e hfo0)]
      exact fr8 _ _ (b47 _ _ (s4 _ _ e) (ne_of_none e hre0)) (ne_of_none e hk0) fun hm => by rw [nls b hm] at e; cases e
    · intro b hb
      rcases nl8 b hb with h | h
      · exact nls b h
      · exact fr7 b h fun e => by rw [e, hre7] at h; cases h
    · rw [htold]
      show fl ++ told ((step o ((cn :: nums) :: rows)).2 :: played step (step o ((cn :: nums) :: rows)).1 cs2) = _
      rw [PyFlat.told, List.flatMap_cons, List.append_assoc]
      rfl
    · rw [List.length_append, List.length_cons]
      omega
end
end Tk
end
section
set_option Elab.async false
set_option linter.all false
set_option maxRecDepth 100000
set_option maxHeartbeats 0
namespace Tk
open PySem PySem.Spec PyProof.Rows L2
structure FnT (K : PySem.W.Frag) (x : Str) (st : Stmt) (f : Addr) (fd : FuncData) : Prop where
  ns : PySem.W.nsIn K mainGlobals x = some (some (.ref f))
  fn : Fun K x x st f fd
  kp : PySem.W.keepIn K (.ref f) = true
theorem fnT_mk {K : PySem.W.Frag} {x : Str} {st : Stmt} {f : Addr} {oc kV dc pm cd ct : Value} {od an : Option Addr} {sl : Array (Option Value)} (a : PySem.W.nsIn K mainGlobals x = some (some (.ref f)))
    (l : K.lookup f = some ⟨oc, od, .func (PySem.W.fnOf x x (defArgs st) (defBody st) (defScope st) .none kV dc pm an cd ct), sl⟩) (c : PySem.W.codeIn K cd x = true) (k : PySem.W.keepIn K (.ref f) = true) : ∃ f fd, FnT K x st f fd :=
  ⟨f, _, a, fun_mk l c k, k⟩
structure MeT (K : PySem.W.Frag) (C : Addr) (m qual : Str) (st : Stmt) (f : Addr) (fd : FuncData) : Prop where
  fi : PySem.W.findIn K (.ref C) m = some (some (.ref f))
  isf : PySem.W.isFn K (.ref f) = true
  fn : Fun K m qual st f fd
  kp : PySem.W.keepIn K (.ref f) = true
theorem meT_mk {K : PySem.W.Frag} {C : Addr} {m qual : Str} {st : Stmt} {f : Addr} {oc kV dc pm cd ct : Value} {od an : Option Addr} {sl : Array (Option Value)} (a : PySem.W.findIn K (.ref C) m = some (some (.ref f))) (i : PySem.W.isFn K (.ref f) = true)
    (l : K.lookup f = some ⟨oc, od, .func (PySem.W.fnOf m qual (defArgs st) (defBody st) (defScope st) .none kV dc pm an cd ct), sl⟩) (c : PySem.W.codeIn K cd qual = true) (k : PySem.W.keepIn K (.ref f) = true) : ∃ f fd, MeT K C m qual st f fd :=
  ⟨f, _, a, i, fun_mk l c k, k⟩
structure ClT (K : PySem.W.Frag) (x : Str) (C : Addr) : Prop where
  ns : PySem.W.nsIn K mainGlobals x = some (some (.ref C))
  cl : Cls K C
  mk_ : PySem.W.makesIn K C = true
  kp : PySem.W.keepIn K (.ref C) = true
theorem clT_mk {K : PySem.W.Frag} {x : Str} {C : Addr} (a : PySem.W.nsIn K mainGlobals x = some (some (.ref C))) (pg : PySem.W.plainGet K C Str.empty = true) (hd : PySem.W.hasDictIn K C = true) (po : PySem.W.plainOver K C = true) (sa : PySem.W.findIn K (.ref C) "__setattr__" = some (some (.builtin "object.__setattr__"))) (mk : PySem.W.makesIn K C = true) (kc : PySem.W.keepIn K (.ref C) = true) : ClT K x C := ⟨a, ⟨pg, hd, po, sa⟩, mk, kc⟩
theorem glob_of {K : PySem.W.Frag} {h : Heap} {mg : Str → Option Value} {x : Str} {i : Int} (X : K.In h) (G : h.Ns mainGlobals mg) (e : ∃ t, PySem.W.nsIn K mainGlobals x = some (some (.int i t))) : Glob mg x (.int i) := let ⟨t, e⟩ := e; ⟨_, PySem.W.mg_of X G e, t, rfl⟩
structure ExcT (K : PySem.W.Frag) (u t : Addr) : Prop where
  nu : PySem.W.nsIn K mainGlobals "Unclear" = some (some (.ref u))
  nt : PySem.W.nsIn K mainGlobals "TooMany" = some (some (.ref t))
  xu : PySem.W.excIn K u [.type "Exception", .type "BaseException", .type "object"] "Exception.__new__" = true
  xt : PySem.W.excIn K t [.type "Exception", .type "BaseException", .type "object"] "Exception.__new__" = true
  m11 : PySem.W.exmOne K (.ref u) (.ref u) = some true
  m21 : PySem.W.exmOne K (.ref t) (.ref u) = some false
  m22 : PySem.W.exmOne K (.ref t) (.ref t) = some true
theorem exm_mk {K : PySem.W.Frag} {cls : Value} {C : Addr} {b : Bool} {x : ClassData} (s1 : PySem.W.subIn K (.ref C) (.type "BaseException") = some true) (ci : PySem.W.clsIn K C = some x) (ty : PySem.W.typeIn K (.ref C) = some (.type "type")) (s2 : PySem.W.subIn K cls (.ref C) = some b) : PySem.W.exmOne K cls (.ref C) = some b := by
  have q : ((PySem.W.clsIn K C).isSome && PySem.W.typeIn K (.ref C) == some (.type "type")) = true := by rw [ci, ty]; rfl
  unfold PySem.W.exmOne
  rw [if_pos (by rw [s1]; rfl)]
  show (if ((PySem.W.clsIn K C).isSome && PySem.W.typeIn K (.ref C) == some (.type "type")) = true then PySem.W.subIn K cls (.ref C) else none) = some b
  rw [if_pos q, s2]
theorem excT_mk {K : PySem.W.Frag} {u t : Addr} {xu xt : ClassData} (a : PySem.W.nsIn K mainGlobals "Unclear" = some (some (.ref u))) (b : PySem.W.nsIn K mainGlobals "TooMany" = some (some (.ref t))) (c : PySem.W.excIn K u [.type "Exception", .type "BaseException", .type "object"] "Exception.__new__" = true) (d : PySem.W.excIn K t [.type "Exception", .type "BaseException", .type "object"] "Exception.__new__" = true)
    (su : PySem.W.subIn K (.ref u) (.type "BaseException") = some true) (st : PySem.W.subIn K (.ref t) (.type "BaseException") = some true) (cu : PySem.W.clsIn K u = some xu) (ct : PySem.W.clsIn K t = some xt) (tu : PySem.W.typeIn K (.ref u) = some (.type "type")) (tt : PySem.W.typeIn K (.ref t) = some (.type "type"))
    (s11 : PySem.W.subIn K (.ref u) (.ref u) = some true) (s21 : PySem.W.subIn K (.ref t) (.ref u) = some false) (s22 : PySem.W.subIn K (.ref t) (.ref t) = some true) : ∃ u t, ExcT K u t := ⟨u, t, a, b, c, d, exm_mk su cu tu s11, exm_mk su cu tu s21, exm_mk st ct tt s22⟩
theorem int_mk {K : PySem.W.Frag} {x : Str} {i : Int} {t : Tok} (a : PySem.W.nsIn K mainGlobals x = some (some (.int i t))) : ∃ t, PySem.W.nsIn K mainGlobals x = some (some (.int i t)) := ⟨t, a⟩
structure ClPlace (K : PySem.W.Frag) (C : Addr) : Prop where
  t : ClT K "Place" C
  a_speaker : NoAttr K C "speaker"
  a_listener : NoAttr K C "listener"
  a_ways : NoAttr K C "ways"
  m_init : ∃ f fd, MeT K C "__init__" "Place.__init__" s_Place_init f fd
theorem clPlace_mk {K : PySem.W.Frag} {C : Addr} {f0 : Addr} {oc0 kV0 dc0 pm0 cd0 ct0 : Value} {od0 an0 : Option Addr} {sl0 : Array (Option Value)}
    (aC : PySem.W.nsIn K mainGlobals "Place" = some (some (.ref C))) (pg : PySem.W.plainGet K C Str.empty = true) (hd : PySem.W.hasDictIn K C = true) (po : PySem.W.plainOver K C = true) (sa : PySem.W.findIn K (.ref C) "__setattr__" = some (some (.builtin "object.__setattr__"))) (mk : PySem.W.makesIn K C = true) (kc : PySem.W.keepIn K (.ref C) = true)
    (n_speaker : PySem.W.findIn K (.ref C) "speaker" = some none)
    (n_listener : PySem.W.findIn K (.ref C) "listener" = some none)
    (n_ways : PySem.W.findIn K (.ref C) "ways" = some none)
    (a0 : PySem.W.findIn K (.ref C) "__init__" = some (some (.ref f0))) (i0 : PySem.W.isFn K (.ref f0) = true) (l0 : K.lookup f0 = some ⟨oc0, od0, .func (PySem.W.fnOf "__init__" "Place.__init__" (defArgs s_Place_init) (defBody s_Place_init) (defScope s_Place_init) .none kV0 dc0 pm0 an0 cd0 ct0), sl0⟩) (c0 : PySem.W.codeIn K cd0 "Place.__init__" = true) (k0 : PySem.W.keepIn K (.ref f0) = true) : ∃ C, ClPlace K C :=
  ⟨C, clT_mk aC pg hd po sa mk kc, n_speaker, n_listener, n_ways, meT_mk a0 i0 l0 c0 k0⟩
structure ClRow (K : PySem.W.Frag) (C : Addr) : Prop where
  t : ClT K "Row" C
  a_kind : NoAttr K C "kind"
  a_other : NoAttr K C "other"
  a_behind : NoAttr K C "behind"
  m_init : ∃ f fd, MeT K C "__init__" "Row.__init__" s_Row_init f fd
theorem clRow_mk {K : PySem.W.Frag} {C : Addr} {f0 : Addr} {oc0 kV0 dc0 pm0 cd0 ct0 : Value} {od0 an0 : Option Addr} {sl0 : Array (Option Value)}
    (aC : PySem.W.nsIn K mainGlobals "Row" = some (some (.ref C))) (pg : PySem.W.plainGet K C Str.empty = true) (hd : PySem.W.hasDictIn K C = true) (po : PySem.W.plainOver K C = true) (sa : PySem.W.findIn K (.ref C) "__setattr__" = some (some (.builtin "object.__setattr__"))) (mk : PySem.W.makesIn K C = true) (kc : PySem.W.keepIn K (.ref C) = true)
    (n_kind : PySem.W.findIn K (.ref C) "kind" = some none)
    (n_other : PySem.W.findIn K (.ref C) "other" = some none)
    (n_behind : PySem.W.findIn K (.ref C) "behind" = some none)
    (a0 : PySem.W.findIn K (.ref C) "__init__" = some (some (.ref f0))) (i0 : PySem.W.isFn K (.ref f0) = true) (l0 : K.lookup f0 = some ⟨oc0, od0, .func (PySem.W.fnOf "__init__" "Row.__init__" (defArgs s_Row_init) (defBody s_Row_init) (defScope s_Row_init) .none kV0 dc0 pm0 an0 cd0 ct0), sl0⟩) (c0 : PySem.W.codeIn K cd0 "Row.__init__" = true) (k0 : PySem.W.keepIn K (.ref f0) = true) : ∃ C, ClRow K C :=
  ⟨C, clT_mk aC pg hd po sa mk kc, n_kind, n_other, n_behind, meT_mk a0 i0 l0 c0 k0⟩
structure ClPart (K : PySem.W.Frag) (C : Addr) : Prop where
  t : ClT K "Part" C
  a_party : NoAttr K C "party"
  a_places : NoAttr K C "places"
  a_arrivals : NoAttr K C "arrivals"
  a_states : NoAttr K C "states"
  a_numbers : NoAttr K C "numbers"
  a_rows : NoAttr K C "rows"
  m_init : ∃ f fd, MeT K C "__init__" "Part.__init__" s_Part_init f fd
  m_find_rows : ∃ f fd, MeT K C "find_rows" "Part.find_rows" s_Part_find_rows f fd
  m_number_of : ∃ f fd, MeT K C "number_of" "Part.number_of" s_Part_number_of f fd
  m_row_of : ∃ f fd, MeT K C "row_of" "Part.row_of" s_Part_row_of f fd
  m_kind_of : ∃ f fd, MeT K C "kind_of" "Part.kind_of" s_Part_kind_of f fd
  m_words_of : ∃ f fd, MeT K C "words_of" "Part.words_of" s_Part_words_of f fd
  m_state_behind : ∃ f fd, MeT K C "state_behind" "Part.state_behind" s_Part_state_behind f fd
theorem clPart_mk {K : PySem.W.Frag} {C : Addr} {f0 : Addr} {oc0 kV0 dc0 pm0 cd0 ct0 : Value} {od0 an0 : Option Addr} {sl0 : Array (Option Value)} {f1 : Addr} {oc1 kV1 dc1 pm1 cd1 ct1 : Value} {od1 an1 : Option Addr} {sl1 : Array (Option Value)} {f2 : Addr} {oc2 kV2 dc2 pm2 cd2 ct2 : Value} {od2 an2 : Option Addr} {sl2 : Array (Option Value)} {f3 : Addr} {oc3 kV3 dc3 pm3 cd3 ct3 : Value} {od3 an3 : Option Addr} {sl3 : Array (Option Value)} {f4 : Addr} {oc4 kV4 dc4 pm4 cd4 ct4 : Value} {od4 an4 : Option Addr} {sl4 : Array (Option Value)} {f5 : Addr} {oc5 kV5 dc5 pm5 cd5 ct5 : Value} {od5 an5 : Option Addr} {sl5 : Array (Option Value)} {f6 : Addr} {oc6 kV6 dc6 pm6 cd6 ct6 : Value} {od6 an6 : Option Addr} {sl6 : Array (Option Value)}
    (aC : PySem.W.nsIn K mainGlobals "Part" = some (some (.ref C))) (pg : PySem.W.plainGet K C Str.empty = true) (hd : PySem.W.hasDictIn K C = true) (po : PySem.W.plainOver K C = true) (sa : PySem.W.findIn K (.ref C) "__setattr__" = some (some (.builtin "object.__setattr__"))) (mk : PySem.W.makesIn K C = true) (kc : PySem.W.keepIn K (.ref C) = true)
    (n_party : PySem.W.findIn K (.ref C) "party" = some none)
    (n_places : PySem.W.findIn K (.ref C) "places" = some none)
    (n_arrivals : PySem.W.findIn K (.ref C) "arrivals" = some none)
    (n_states : PySem.W.findIn K (.ref C) "states" = some none)
    (n_numbers : PySem.W.findIn K (.ref C) "numbers" = some none)
    (n_rows : PySem.W.findIn K (.ref C) "rows" = some none)
    (a0 : PySem.W.findIn K (.ref C) "__init__" = some (some (.ref f0))) (i0 : PySem.W.isFn K (.ref f0) = true) (l0 : K.lookup f0 = some ⟨oc0, od0, .func (PySem.W.fnOf "__init__" "Part.__init__" (defArgs s_Part_init) (defBody s_Part_init) (defScope s_Part_init) .none kV0 dc0 pm0 an0 cd0 ct0), sl0⟩) (c0 : PySem.W.codeIn K cd0 "Part.__init__" = true) (k0 : PySem.W.keepIn K (.ref f0) = true)
    (a1 : PySem.W.findIn K (.ref C) "find_rows" = some (some (.ref f1))) (i1 : PySem.W.isFn K (.ref f1) = true) (l1 : K.lookup f1 = some ⟨oc1, od1, .func (PySem.W.fnOf "find_rows" "Part.find_rows" (defArgs s_Part_find_rows) (defBody s_Part_find_rows) (defScope s_Part_find_rows) .none kV1 dc1 pm1 an1 cd1 ct1), sl1⟩) (c1 : PySem.W.codeIn K cd1 "Part.find_rows" = true) (k1 : PySem.W.keepIn K (.ref f1) = true)
    (a2 : PySem.W.findIn K (.ref C) "number_of" = some (some (.ref f2))) (i2 : PySem.W.isFn K (.ref f2) = true) (l2 : K.lookup f2 = some ⟨oc2, od2, .func (PySem.W.fnOf "number_of" "Part.number_of" (defArgs s_Part_number_of) (defBody s_Part_number_of) (defScope s_Part_number_of) .none kV2 dc2 pm2 an2 cd2 ct2), sl2⟩) (c2 : PySem.W.codeIn K cd2 "Part.number_of" = true) (k2 : PySem.W.keepIn K (.ref f2) = true)
    (a3 : PySem.W.findIn K (.ref C) "row_of" = some (some (.ref f3))) (i3 : PySem.W.isFn K (.ref f3) = true) (l3 : K.lookup f3 = some ⟨oc3, od3, .func (PySem.W.fnOf "row_of" "Part.row_of" (defArgs s_Part_row_of) (defBody s_Part_row_of) (defScope s_Part_row_of) .none kV3 dc3 pm3 an3 cd3 ct3), sl3⟩) (c3 : PySem.W.codeIn K cd3 "Part.row_of" = true) (k3 : PySem.W.keepIn K (.ref f3) = true)
    (a4 : PySem.W.findIn K (.ref C) "kind_of" = some (some (.ref f4))) (i4 : PySem.W.isFn K (.ref f4) = true) (l4 : K.lookup f4 = some ⟨oc4, od4, .func (PySem.W.fnOf "kind_of" "Part.kind_of" (defArgs s_Part_kind_of) (defBody s_Part_kind_of) (defScope s_Part_kind_of) .none kV4 dc4 pm4 an4 cd4 ct4), sl4⟩) (c4 : PySem.W.codeIn K cd4 "Part.kind_of" = true) (k4 : PySem.W.keepIn K (.ref f4) = true)
    (a5 : PySem.W.findIn K (.ref C) "words_of" = some (some (.ref f5))) (i5 : PySem.W.isFn K (.ref f5) = true) (l5 : K.lookup f5 = some ⟨oc5, od5, .func (PySem.W.fnOf "words_of" "Part.words_of" (defArgs s_Part_words_of) (defBody s_Part_words_of) (defScope s_Part_words_of) .none kV5 dc5 pm5 an5 cd5 ct5), sl5⟩) (c5 : PySem.W.codeIn K cd5 "Part.words_of" = true) (k5 : PySem.W.keepIn K (.ref f5) = true)
    (a6 : PySem.W.findIn K (.ref C) "state_behind" = some (some (.ref f6))) (i6 : PySem.W.isFn K (.ref f6) = true) (l6 : K.lookup f6 = some ⟨oc6, od6, .func (PySem.W.fnOf "state_behind" "Part.state_behind" (defArgs s_Part_state_behind) (defBody s_Part_state_behind) (defScope s_Part_state_behind) .none kV6 dc6 pm6 an6 cd6 ct6), sl6⟩) (c6 : PySem.W.codeIn K cd6 "Part.state_behind" = true) (k6 : PySem.W.keepIn K (.ref f6) = true) : ∃ C, ClPart K C :=
  ⟨C, clT_mk aC pg hd po sa mk kc, n_party, n_places, n_arrivals, n_states, n_numbers, n_rows, meT_mk a0 i0 l0 c0 k0, meT_mk a1 i1 l1 c1 k1, meT_mk a2 i2 l2 c2 k2, meT_mk a3 i3 l3 c3 k3, meT_mk a4 i4 l4 c4 k4, meT_mk a5 i5 l5 c5 k5, meT_mk a6 i6 l6 c6 k6⟩
structure ClKeeper (K : PySem.W.Frag) (C : Addr) : Prop where
  t : ClT K "Keeper" C
  a_me : NoAttr K C "me"
  a_rows : NoAttr K C "rows"
  a_state : NoAttr K C "state"
  a_lines : NoAttr K C "lines"
  m_init : ∃ f fd, MeT K C "__init__" "Keeper.__init__" s_Keeper_init f fd
  m_begin : ∃ f fd, MeT K C "begin" "Keeper.begin" s_Keeper_begin f fd
  m_now : ∃ f fd, MeT K C "now" "Keeper.now" s_Keeper_now f fd
  m_say : ∃ f fd, MeT K C "say" "Keeper.say" s_Keeper_say f fd
  m_heard : ∃ f fd, MeT K C "heard" "Keeper.heard" s_Keeper_heard f fd
  m_take : ∃ f fd, MeT K C "take" "Keeper.take" s_Keeper_take f fd
  m_kept : ∃ f fd, MeT K C "kept" "Keeper.kept" s_Keeper_kept f fd
  m_is_another : ∃ f fd, MeT K C "is_another" "Keeper.is_another" s_Keeper_is_another f fd
theorem clKeeper_mk {K : PySem.W.Frag} {C : Addr} {f0 : Addr} {oc0 kV0 dc0 pm0 cd0 ct0 : Value} {od0 an0 : Option Addr} {sl0 : Array (Option Value)} {f1 : Addr} {oc1 kV1 dc1 pm1 cd1 ct1 : Value} {od1 an1 : Option Addr} {sl1 : Array (Option Value)} {f2 : Addr} {oc2 kV2 dc2 pm2 cd2 ct2 : Value} {od2 an2 : Option Addr} {sl2 : Array (Option Value)} {f3 : Addr} {oc3 kV3 dc3 pm3 cd3 ct3 : Value} {od3 an3 : Option Addr} {sl3 : Array (Option Value)} {f4 : Addr} {oc4 kV4 dc4 pm4 cd4 ct4 : Value} {od4 an4 : Option Addr} {sl4 : Array (Option Value)} {f5 : Addr} {oc5 kV5 dc5 pm5 cd5 ct5 : Value} {od5 an5 : Option Addr} {sl5 : Array (Option Value)} {f6 : Addr} {oc6 kV6 dc6 pm6 cd6 ct6 : Value} {od6 an6 : Option Addr} {sl6 : Array (Option Value)} {f7 : Addr} {oc7 kV7 dc7 pm7 cd7 ct7 : Value} {od7 an7 : Option Addr} {sl7 : Array (Option Value)}
    (aC : PySem.W.nsIn K mainGlobals "Keeper" = some (some (.ref C))) (pg : PySem.W.plainGet K C Str.empty = true) (hd : PySem.W.hasDictIn K C = true) (po : PySem.W.plainOver K C = true) (sa : PySem.W.findIn K (.ref C) "__setattr__" = some (some (.builtin "object.__setattr__"))) (mk : PySem.W.makesIn K C = true) (kc : PySem.W.keepIn K (.ref C) = true)
    (n_me : PySem.W.findIn K (.ref C) "me" = some none)
    (n_rows : PySem.W.findIn K (.ref C) "rows" = some none)
    (n_state : PySem.W.findIn K (.ref C) "state" = some none)
    (n_lines : PySem.W.findIn K (.ref C) "lines" = some none)
    (a0 : PySem.W.findIn K (.ref C) "__init__" = some (some (.ref f0))) (i0 : PySem.W.isFn K (.ref f0) = true) (l0 : K.lookup f0 = some ⟨oc0, od0, .func (PySem.W.fnOf "__init__" "Keeper.__init__" (defArgs s_Keeper_init) (defBody s_Keeper_init) (defScope s_Keeper_init) .none kV0 dc0 pm0 an0 cd0 ct0), sl0⟩) (c0 : PySem.W.codeIn K cd0 "Keeper.__init__" = true) (k0 : PySem.W.keepIn K (.ref f0) = true)
    (a1 : PySem.W.findIn K (.ref C) "begin" = some (some (.ref f1))) (i1 : PySem.W.isFn K (.ref f1) = true) (l1 : K.lookup f1 = some ⟨oc1, od1, .func (PySem.W.fnOf "begin" "Keeper.begin" (defArgs s_Keeper_begin) (defBody s_Keeper_begin) (defScope s_Keeper_begin) .none kV1 dc1 pm1 an1 cd1 ct1), sl1⟩) (c1 : PySem.W.codeIn K cd1 "Keeper.begin" = true) (k1 : PySem.W.keepIn K (.ref f1) = true)
    (a2 : PySem.W.findIn K (.ref C) "now" = some (some (.ref f2))) (i2 : PySem.W.isFn K (.ref f2) = true) (l2 : K.lookup f2 = some ⟨oc2, od2, .func (PySem.W.fnOf "now" "Keeper.now" (defArgs s_Keeper_now) (defBody s_Keeper_now) (defScope s_Keeper_now) .none kV2 dc2 pm2 an2 cd2 ct2), sl2⟩) (c2 : PySem.W.codeIn K cd2 "Keeper.now" = true) (k2 : PySem.W.keepIn K (.ref f2) = true)
    (a3 : PySem.W.findIn K (.ref C) "say" = some (some (.ref f3))) (i3 : PySem.W.isFn K (.ref f3) = true) (l3 : K.lookup f3 = some ⟨oc3, od3, .func (PySem.W.fnOf "say" "Keeper.say" (defArgs s_Keeper_say) (defBody s_Keeper_say) (defScope s_Keeper_say) .none kV3 dc3 pm3 an3 cd3 ct3), sl3⟩) (c3 : PySem.W.codeIn K cd3 "Keeper.say" = true) (k3 : PySem.W.keepIn K (.ref f3) = true)
    (a4 : PySem.W.findIn K (.ref C) "heard" = some (some (.ref f4))) (i4 : PySem.W.isFn K (.ref f4) = true) (l4 : K.lookup f4 = some ⟨oc4, od4, .func (PySem.W.fnOf "heard" "Keeper.heard" (defArgs s_Keeper_heard) (defBody s_Keeper_heard) (defScope s_Keeper_heard) .none kV4 dc4 pm4 an4 cd4 ct4), sl4⟩) (c4 : PySem.W.codeIn K cd4 "Keeper.heard" = true) (k4 : PySem.W.keepIn K (.ref f4) = true)
    (a5 : PySem.W.findIn K (.ref C) "take" = some (some (.ref f5))) (i5 : PySem.W.isFn K (.ref f5) = true) (l5 : K.lookup f5 = some ⟨oc5, od5, .func (PySem.W.fnOf "take" "Keeper.take" (defArgs s_Keeper_take) (defBody s_Keeper_take) (defScope s_Keeper_take) .none kV5 dc5 pm5 an5 cd5 ct5), sl5⟩) (c5 : PySem.W.codeIn K cd5 "Keeper.take" = true) (k5 : PySem.W.keepIn K (.ref f5) = true)
    (a6 : PySem.W.findIn K (.ref C) "kept" = some (some (.ref f6))) (i6 : PySem.W.isFn K (.ref f6) = true) (l6 : K.lookup f6 = some ⟨oc6, od6, .func (PySem.W.fnOf "kept" "Keeper.kept" (defArgs s_Keeper_kept) (defBody s_Keeper_kept) (defScope s_Keeper_kept) .none kV6 dc6 pm6 an6 cd6 ct6), sl6⟩) (c6 : PySem.W.codeIn K cd6 "Keeper.kept" = true) (k6 : PySem.W.keepIn K (.ref f6) = true)
    (a7 : PySem.W.findIn K (.ref C) "is_another" = some (some (.ref f7))) (i7 : PySem.W.isFn K (.ref f7) = true) (l7 : K.lookup f7 = some ⟨oc7, od7, .func (PySem.W.fnOf "is_another" "Keeper.is_another" (defArgs s_Keeper_is_another) (defBody s_Keeper_is_another) (defScope s_Keeper_is_another) .none kV7 dc7 pm7 an7 cd7 ct7), sl7⟩) (c7 : PySem.W.codeIn K cd7 "Keeper.is_another" = true) (k7 : PySem.W.keepIn K (.ref f7) = true) : ∃ C, ClKeeper K C :=
  ⟨C, clT_mk aC pg hd po sa mk kc, n_me, n_rows, n_state, n_lines, meT_mk a0 i0 l0 c0 k0, meT_mk a1 i1 l1 c1 k1, meT_mk a2 i2 l2 c2 k2, meT_mk a3 i3 l3 c3 k3, meT_mk a4 i4 l4 c4 k4, meT_mk a5 i5 l5 c5 k5, meT_mk a6 i6 l6 c6 k6, meT_mk a7 i7 l7 c7 k7⟩
structure ClReader (K : PySem.W.Frag) (C : Addr) : Prop where
  t : ClT K "Reader" C
  a_calls : NoAttr K C "calls"
  a_position : NoAttr K C "position"
  m_init : ∃ f fd, MeT K C "__init__" "Reader.__init__" s_Reader_init f fd
  m_is_done : ∃ f fd, MeT K C "is_done" "Reader.is_done" s_Reader_is_done f fd
  m_read_number : ∃ f fd, MeT K C "read_number" "Reader.read_number" s_Reader_read_number f fd
  m_read_list : ∃ f fd, MeT K C "read_list" "Reader.read_list" s_Reader_read_list f fd
  m_read_lists : ∃ f fd, MeT K C "read_lists" "Reader.read_lists" s_Reader_read_lists f fd
theorem clReader_mk {K : PySem.W.Frag} {C : Addr} {f0 : Addr} {oc0 kV0 dc0 pm0 cd0 ct0 : Value} {od0 an0 : Option Addr} {sl0 : Array (Option Value)} {f1 : Addr} {oc1 kV1 dc1 pm1 cd1 ct1 : Value} {od1 an1 : Option Addr} {sl1 : Array (Option Value)} {f2 : Addr} {oc2 kV2 dc2 pm2 cd2 ct2 : Value} {od2 an2 : Option Addr} {sl2 : Array (Option Value)} {f3 : Addr} {oc3 kV3 dc3 pm3 cd3 ct3 : Value} {od3 an3 : Option Addr} {sl3 : Array (Option Value)} {f4 : Addr} {oc4 kV4 dc4 pm4 cd4 ct4 : Value} {od4 an4 : Option Addr} {sl4 : Array (Option Value)}
    (aC : PySem.W.nsIn K mainGlobals "Reader" = some (some (.ref C))) (pg : PySem.W.plainGet K C Str.empty = true) (hd : PySem.W.hasDictIn K C = true) (po : PySem.W.plainOver K C = true) (sa : PySem.W.findIn K (.ref C) "__setattr__" = some (some (.builtin "object.__setattr__"))) (mk : PySem.W.makesIn K C = true) (kc : PySem.W.keepIn K (.ref C) = true)
    (n_calls : PySem.W.findIn K (.ref C) "calls" = some none)
    (n_position : PySem.W.findIn K (.ref C) "position" = some none)
    (a0 : PySem.W.findIn K (.ref C) "__init__" = some (some (.ref f0))) (i0 : PySem.W.isFn K (.ref f0) = true) (l0 : K.lookup f0 = some ⟨oc0, od0, .func (PySem.W.fnOf "__init__" "Reader.__init__" (defArgs s_Reader_init) (defBody s_Reader_init) (defScope s_Reader_init) .none kV0 dc0 pm0 an0 cd0 ct0), sl0⟩) (c0 : PySem.W.codeIn K cd0 "Reader.__init__" = true) (k0 : PySem.W.keepIn K (.ref f0) = true)
    (a1 : PySem.W.findIn K (.ref C) "is_done" = some (some (.ref f1))) (i1 : PySem.W.isFn K (.ref f1) = true) (l1 : K.lookup f1 = some ⟨oc1, od1, .func (PySem.W.fnOf "is_done" "Reader.is_done" (defArgs s_Reader_is_done) (defBody s_Reader_is_done) (defScope s_Reader_is_done) .none kV1 dc1 pm1 an1 cd1 ct1), sl1⟩) (c1 : PySem.W.codeIn K cd1 "Reader.is_done" = true) (k1 : PySem.W.keepIn K (.ref f1) = true)
    (a2 : PySem.W.findIn K (.ref C) "read_number" = some (some (.ref f2))) (i2 : PySem.W.isFn K (.ref f2) = true) (l2 : K.lookup f2 = some ⟨oc2, od2, .func (PySem.W.fnOf "read_number" "Reader.read_number" (defArgs s_Reader_read_number) (defBody s_Reader_read_number) (defScope s_Reader_read_number) .none kV2 dc2 pm2 an2 cd2 ct2), sl2⟩) (c2 : PySem.W.codeIn K cd2 "Reader.read_number" = true) (k2 : PySem.W.keepIn K (.ref f2) = true)
    (a3 : PySem.W.findIn K (.ref C) "read_list" = some (some (.ref f3))) (i3 : PySem.W.isFn K (.ref f3) = true) (l3 : K.lookup f3 = some ⟨oc3, od3, .func (PySem.W.fnOf "read_list" "Reader.read_list" (defArgs s_Reader_read_list) (defBody s_Reader_read_list) (defScope s_Reader_read_list) .none kV3 dc3 pm3 an3 cd3 ct3), sl3⟩) (c3 : PySem.W.codeIn K cd3 "Reader.read_list" = true) (k3 : PySem.W.keepIn K (.ref f3) = true)
    (a4 : PySem.W.findIn K (.ref C) "read_lists" = some (some (.ref f4))) (i4 : PySem.W.isFn K (.ref f4) = true) (l4 : K.lookup f4 = some ⟨oc4, od4, .func (PySem.W.fnOf "read_lists" "Reader.read_lists" (defArgs s_Reader_read_lists) (defBody s_Reader_read_lists) (defScope s_Reader_read_lists) .none kV4 dc4 pm4 an4 cd4 ct4), sl4⟩) (c4 : PySem.W.codeIn K cd4 "Reader.read_lists" = true) (k4 : PySem.W.keepIn K (.ref f4) = true) : ∃ C, ClReader K C :=
  ⟨C, clT_mk aC pg hd po sa mk kc, n_calls, n_position, meT_mk a0 i0 l0 c0 k0, meT_mk a1 i1 l1 c1 k1, meT_mk a2 i2 l2 c2 k2, meT_mk a3 i3 l3 c3 k3, meT_mk a4 i4 l4 c4 k4⟩
theorem all_ok {P : Program} {w : World} {K : PySem.W.Frag} {h : Heap} {mg : Str → Option Value} {fa : Addr} (X : K.In h) (G : h.Ns mainGlobals mg) (hfa : mg "answers" = some (.ref fa))
    (cPlace : ∃ C, ClPlace K C)
    (cRow : ∃ C, ClRow K C)
    (cPart : ∃ C, ClPart K C)
    (cKeeper : ∃ C, ClKeeper K C)
    (cReader : ∃ C, ClReader K C)
    (eX : ∃ u t, ExcT K u t)
    (f_words_of_row : ∃ f fd, FnT K "words_of_row" s_words_of_row f fd)
    (f_nexts_of_row : ∃ f fd, FnT K "nexts_of_row" s_nexts_of_row f fd)
    (f_are_two_parties : ∃ f fd, FnT K "are_two_parties" s_are_two_parties f fd)
    (f_are_ways : ∃ f fd, FnT K "are_ways" s_are_ways f fd)
    (f_is_script : ∃ f fd, FnT K "is_script" s_is_script f fd)
    (f_is_same_line : ∃ f fd, FnT K "is_same_line" s_is_same_line f fd)
    (f_is_same_speech : ∃ f fd, FnT K "is_same_speech" s_is_same_speech f fd)
    (f_is_end : ∃ f fd, FnT K "is_end" s_is_end f fd)
    (f_walk_from : ∃ f fd, FnT K "walk_from" s_walk_from f fd)
    (f_ends_of : ∃ f fd, FnT K "ends_of" s_ends_of f fd)
    (f_arrivals_of : ∃ f fd, FnT K "arrivals_of" s_arrivals_of f fd)
    (f_rows_of : ∃ f fd, FnT K "rows_of" s_rows_of f fd)
    (f_all_rows : ∃ f fd, FnT K "all_rows" s_all_rows f fd)
    (f_answer_of : ∃ f fd, FnT K "answer_of" s_answer_of f fd)
    (f_answers : ∃ f fd, FnT K "answers" s_answers f fd)
    (b_len : PySem.W.nsIn K mainGlobals "len" = some none)
    (b_set : PySem.W.nsIn K mainGlobals "set" = some none)
    (b_dict : PySem.W.nsIn K mainGlobals "dict" = some none)
    (b_zip : PySem.W.nsIn K mainGlobals "zip" = some none)
    (b_all : PySem.W.nsIn K mainGlobals "all" = some none)
    (b_any : PySem.W.nsIn K mainGlobals "any" = some none)
    (b_sorted : PySem.W.nsIn K mainGlobals "sorted" = some none)
    (b_list : PySem.W.nsIn K mainGlobals "list" = some none)
    (b_tuple : PySem.W.nsIn K mainGlobals "tuple" = some none)
    (b_range : PySem.W.nsIn K mainGlobals "range" = some none)
    (b_enumerate : PySem.W.nsIn K mainGlobals "enumerate" = some none)
    (g_OVER : ∃ t, PySem.W.nsIn K mainGlobals "OVER" = some (some (.int (255) t)))
    (g_FEWEST : ∃ t, PySem.W.nsIn K mainGlobals "FEWEST_PARTIES" = some (some (.int (2) t)))
    (g_MOSTP : ∃ t, PySem.W.nsIn K mainGlobals "MOST_PARTIES" = some (some (.int (8) t)))
    (g_NOTHING : ∃ t, PySem.W.nsIn K mainGlobals "NOTHING" = some (some (.int (0) t)))
    (g_SPEAKS : ∃ t, PySem.W.nsIn K mainGlobals "SPEAKS" = some (some (.int (1) t)))
    (g_LISTENS : ∃ t, PySem.W.nsIn K mainGlobals "LISTENS" = some (some (.int (2) t)))
    (g_MOSTW : ∃ t, PySem.W.nsIn K mainGlobals "MOST_WORDS" = some (some (.int (16) t)))
    (g_MOSTS : ∃ t, PySem.W.nsIn K mainGlobals "MOST_STATES" = some (some (.int (64) t)))
    (g_NOT_NOW : ∃ t, PySem.W.nsIn K mainGlobals "NOT_NOW" = some (some (.int (-1) t)))
    (g_NOTHING_CAME : ∃ t, PySem.W.nsIn K mainGlobals "NOTHING_CAME" = some (some (.int (-11) t)))
    (g_NOT_AS_TOLD : ∃ t, PySem.W.nsIn K mainGlobals "NOT_AS_TOLD" = some (some (.int (-22) t)))
    (g_NO_ROOM : ∃ t, PySem.W.nsIn K mainGlobals "NO_ROOM" = some (some (.int (-28) t)))
    (g_CANNOT : ∃ t, PySem.W.nsIn K mainGlobals "CANNOT_BE_KEPT" = some (some (.int (-71) t)))
    (g_NOT_ITS : ∃ t, PySem.W.nsIn K mainGlobals "NOT_ITS_TURN" = some (some (.int (-71) t)))
    (g_TOO_LARGE : ∃ t, PySem.W.nsIn K mainGlobals "TOO_LARGE" = some (some (.int (-75) t)))
    (g_LAST : ∃ t, PySem.W.nsIn K mainGlobals "LAST_WORD" = some (some (.int (255) t)))
    (g_MOSTK : ∃ t, PySem.W.nsIn K mainGlobals "MOST_KEPT" = some (some (.int (64) t)))
    (g_BEGIN : ∃ t, PySem.W.nsIn K mainGlobals "BEGIN" = some (some (.int (0) t)))
    (g_NOW : ∃ t, PySem.W.nsIn K mainGlobals "NOW" = some (some (.int (1) t)))
    (g_SAY : ∃ t, PySem.W.nsIn K mainGlobals "SAY" = some (some (.int (2) t)))
    (g_HEARD : ∃ t, PySem.W.nsIn K mainGlobals "HEARD" = some (some (.int (3) t)))
    (g_TAKE : ∃ t, PySem.W.nsIn K mainGlobals "TAKE" = some (some (.int (4) t))) :
    ∃ fd : FuncData, (∀ (s : Shared) (us : List Value), us.length = (["calls"] : List Str).length → BindsTo s fd ⟨us, []⟩ ((["calls"] : List Str).zip us)) ∧ ∀ base : Heap, K.In base → base.Ns mainGlobals mg → FnOk P w K mg base (CXe P w) 10 fa fd ["calls"] (spAns K) := by
  obtain ⟨CPlace, cPlace⟩ := cPlace
  obtain ⟨CRow, cRow⟩ := cRow
  obtain ⟨CPart, cPart⟩ := cPart
  obtain ⟨CKeeper, cKeeper⟩ := cKeeper
  obtain ⟨CReader, cReader⟩ := cReader
  obtain ⟨Cun, Ctm, eX⟩ := eX
  obtain ⟨a_words_of_row, fd_words_of_row, f_words_of_row⟩ := f_words_of_row
  obtain ⟨a_nexts_of_row, fd_nexts_of_row, f_nexts_of_row⟩ := f_nexts_of_row
  obtain ⟨a_are_two_parties, fd_are_two_parties, f_are_two_parties⟩ := f_are_two_parties
  obtain ⟨a_are_ways, fd_are_ways, f_are_ways⟩ := f_are_ways
  obtain ⟨a_is_script, fd_is_script, f_is_script⟩ := f_is_script
  obtain ⟨a_is_same_line, fd_is_same_line, f_is_same_line⟩ := f_is_same_line
  obtain ⟨a_is_same_speech, fd_is_same_speech, f_is_same_speech⟩ := f_is_same_speech
  obtain ⟨a_is_end, fd_is_end, f_is_end⟩ := f_is_end
  obtain ⟨a_walk_from, fd_walk_from, f_walk_from⟩ := f_walk_from
  obtain ⟨a_ends_of, fd_ends_of, f_ends_of⟩ := f_ends_of
  obtain ⟨a_arrivals_of, fd_arrivals_of, f_arrivals_of⟩ := f_arrivals_of
  obtain ⟨a_rows_of, fd_rows_of, f_rows_of⟩ := f_rows_of
  obtain ⟨a_all_rows, fd_all_rows, f_all_rows⟩ := f_all_rows
  obtain ⟨a_answer_of, fd_answer_of, f_answer_of⟩ := f_answer_of
  obtain ⟨a_answers, fd_answers, f_answers⟩ := f_answers
  obtain ⟨am_Place_init, fdm_Place_init, m_Place_init⟩ := cPlace.m_init
  obtain ⟨am_Row_init, fdm_Row_init, m_Row_init⟩ := cRow.m_init
  obtain ⟨am_Part_init, fdm_Part_init, m_Part_init⟩ := cPart.m_init
  obtain ⟨am_Part_find_rows, fdm_Part_find_rows, m_Part_find_rows⟩ := cPart.m_find_rows
  obtain ⟨am_Part_number_of, fdm_Part_number_of, m_Part_number_of⟩ := cPart.m_number_of
  obtain ⟨am_Part_row_of, fdm_Part_row_of, m_Part_row_of⟩ := cPart.m_row_of
  obtain ⟨am_Part_kind_of, fdm_Part_kind_of, m_Part_kind_of⟩ := cPart.m_kind_of
  obtain ⟨am_Part_words_of, fdm_Part_words_of, m_Part_words_of⟩ := cPart.m_words_of
  obtain ⟨am_Part_state_behind, fdm_Part_state_behind, m_Part_state_behind⟩ := cPart.m_state_behind
  obtain ⟨am_Keeper_init, fdm_Keeper_init, m_Keeper_init⟩ := cKeeper.m_init
  obtain ⟨am_Keeper_begin, fdm_Keeper_begin, m_Keeper_begin⟩ := cKeeper.m_begin
  obtain ⟨am_Keeper_now, fdm_Keeper_now, m_Keeper_now⟩ := cKeeper.m_now
  obtain ⟨am_Keeper_say, fdm_Keeper_say, m_Keeper_say⟩ := cKeeper.m_say
  obtain ⟨am_Keeper_heard, fdm_Keeper_heard, m_Keeper_heard⟩ := cKeeper.m_heard
  obtain ⟨am_Keeper_take, fdm_Keeper_take, m_Keeper_take⟩ := cKeeper.m_take
  obtain ⟨am_Keeper_kept, fdm_Keeper_kept, m_Keeper_kept⟩ := cKeeper.m_kept
  obtain ⟨am_Keeper_is_another, fdm_Keeper_is_another, m_Keeper_is_another⟩ := cKeeper.m_is_another
  obtain ⟨am_Reader_init, fdm_Reader_init, m_Reader_init⟩ := cReader.m_init
  obtain ⟨am_Reader_is_done, fdm_Reader_is_done, m_Reader_is_done⟩ := cReader.m_is_done
  obtain ⟨am_Reader_read_number, fdm_Reader_read_number, m_Reader_read_number⟩ := cReader.m_read_number
  obtain ⟨am_Reader_read_list, fdm_Reader_read_list, m_Reader_read_list⟩ := cReader.m_read_list
  obtain ⟨am_Reader_read_lists, fdm_Reader_read_lists, m_Reader_read_lists⟩ := cReader.m_read_lists
  let cs : Cs := ⟨CPlace, Cun, Ctm, CRow, CPart, CKeeper, CReader⟩
  have T : Txt K mg cs := ⟨PySem.W.mg_none_of X G b_len, PySem.W.mg_none_of X G b_set, PySem.W.mg_none_of X G b_dict, PySem.W.mg_none_of X G b_zip, PySem.W.mg_none_of X G b_all, PySem.W.mg_none_of X G b_any, PySem.W.mg_none_of X G b_sorted, PySem.W.mg_none_of X G b_list, PySem.W.mg_none_of X G b_tuple, PySem.W.mg_none_of X G b_range, PySem.W.mg_none_of X G b_enumerate, glob_of X G g_OVER, glob_of X G g_FEWEST, glob_of X G g_MOSTP, glob_of X G g_NOTHING, glob_of X G g_SPEAKS, glob_of X G g_LISTENS, glob_of X G g_MOSTW, glob_of X G g_MOSTS, glob_of X G g_NOT_NOW, glob_of X G g_NOTHING_CAME, glob_of X G g_NOT_AS_TOLD, glob_of X G g_NO_ROOM, glob_of X G g_CANNOT, glob_of X G g_NOT_ITS, glob_of X G g_TOO_LARGE, glob_of X G g_LAST, glob_of X G g_MOSTK, glob_of X G g_BEGIN, glob_of X G g_NOW, glob_of X G g_SAY, glob_of X G g_HEARD, glob_of X G g_TAKE, cPlace.t.cl, cPlace.a_speaker, cPlace.a_listener, cPlace.a_ways, cRow.t.cl, cRow.a_kind, cRow.a_other, cRow.a_behind, cPart.t.cl, cPart.a_party, cPart.a_places, cPart.a_arrivals, cPart.a_states, cPart.a_numbers, cPart.a_rows, cKeeper.t.cl, cKeeper.a_me, cKeeper.a_rows, cKeeper.a_state, cKeeper.a_lines, cReader.t.cl, cReader.a_calls, cReader.a_position, ⟨eX.nu, eX.xu, PySem.F.excBase_Exception⟩, ⟨eX.nt, eX.xt, PySem.F.excBase_Exception⟩⟩
  have TE : TxtE K mg cs := ⟨PySem.W.mg_of X G eX.nu, PySem.W.mg_of X G eX.nt, eX.m11, eX.m21, eX.m22⟩
  have bi_words_of_row := f_words_of_row.fn.binds (ps := ["row"]) fun _ _ _ _ _ _ us hl => match us, hl with | [_], _ => rfl
  have bi_nexts_of_row := f_nexts_of_row.fn.binds (ps := ["row"]) fun _ _ _ _ _ _ us hl => match us, hl with | [_], _ => rfl
  have bi_are_two_parties := f_are_two_parties.fn.binds (ps := ["p", "row"]) fun _ _ _ _ _ _ us hl => match us, hl with | [_, _], _ => rfl
  have bi_are_ways := f_are_ways.fn.binds (ps := ["n", "row"]) fun _ _ _ _ _ _ us hl => match us, hl with | [_, _], _ => rfl
  have bi_is_script := f_is_script.fn.binds (ps := ["p", "rows"]) fun _ _ _ _ _ _ us hl => match us, hl with | [_, _], _ => rfl
  have bi_is_same_line := f_is_same_line.fn.binds (ps := ["one", "another"]) fun _ _ _ _ _ _ us hl => match us, hl with | [_, _], _ => rfl
  have bi_is_same_speech := f_is_same_speech.fn.binds (ps := ["one", "another"]) fun _ _ _ _ _ _ us hl => match us, hl with | [_, _], _ => rfl
  have bi_is_end := f_is_end.fn.binds (ps := ["party", "places", "at"]) fun _ _ _ _ _ _ us hl => match us, hl with | [_, _, _], _ => rfl
  have bi_walk_from := f_walk_from.fn.binds (ps := ["party", "places", "start"]) fun _ _ _ _ _ _ us hl => match us, hl with | [_, _, _], _ => rfl
  have bi_ends_of := f_ends_of.fn.binds (ps := ["party", "places", "walk"]) fun _ _ _ _ _ _ us hl => match us, hl with | [_, _, _], _ => rfl
  have bi_arrivals_of := f_arrivals_of.fn.binds (ps := ["party", "places"]) fun _ _ _ _ _ _ us hl => match us, hl with | [_, _], _ => rfl
  have bi_rows_of := f_rows_of.fn.binds (ps := ["party", "places"]) fun _ _ _ _ _ _ us hl => match us, hl with | [_, _], _ => rfl
  have bi_all_rows := f_all_rows.fn.binds (ps := ["p", "places"]) fun _ _ _ _ _ _ us hl => match us, hl with | [_, _], _ => rfl
  have bi_answer_of := f_answer_of.fn.binds (ps := ["keeper", "call", "numbers", "lists"]) fun _ _ _ _ _ _ us hl => match us, hl with | [_, _, _, _], _ => rfl
  have bi_answers := f_answers.fn.binds (ps := ["calls"]) fun _ _ _ _ _ _ us hl => match us, hl with | [_], _ => rfl
  have bm_Place_init := m_Place_init.fn.binds (ps := ["self", "row"]) fun _ _ _ _ _ _ us hl => match us, hl with | [_, _], _ => rfl
  have bm_Row_init := m_Row_init.fn.binds (ps := ["self", "kind", "other", "behind"]) fun _ _ _ _ _ _ us hl => match us, hl with | [_, _, _, _], _ => rfl
  have bm_Part_init := m_Part_init.fn.binds (ps := ["self", "party", "places"]) fun _ _ _ _ _ _ us hl => match us, hl with | [_, _, _], _ => rfl
  have bm_Part_find_rows := m_Part_find_rows.fn.binds (ps := ["self"]) fun _ _ _ _ _ _ us hl => match us, hl with | [_], _ => rfl
  have bm_Part_number_of := m_Part_number_of.fn.binds (ps := ["self", "state"]) fun _ _ _ _ _ _ us hl => match us, hl with | [_, _], _ => rfl
  have bm_Part_row_of := m_Part_row_of.fn.binds (ps := ["self", "state"]) fun _ _ _ _ _ _ us hl => match us, hl with | [_, _], _ => rfl
  have bm_Part_kind_of := m_Part_kind_of.fn.binds (ps := ["self", "state"]) fun _ _ _ _ _ _ us hl => match us, hl with | [_, _], _ => rfl
  have bm_Part_words_of := m_Part_words_of.fn.binds (ps := ["self", "state"]) fun _ _ _ _ _ _ us hl => match us, hl with | [_, _], _ => rfl
  have bm_Part_state_behind := m_Part_state_behind.fn.binds (ps := ["self", "state", "word"]) fun _ _ _ _ _ _ us hl => match us, hl with | [_, _, _], _ => rfl
  have bm_Keeper_init := m_Keeper_init.fn.binds (ps := ["self"]) fun _ _ _ _ _ _ us hl => match us, hl with | [_], _ => rfl
  have bm_Keeper_begin := m_Keeper_begin.fn.binds (ps := ["self", "p", "me", "lists"]) fun _ _ _ _ _ _ us hl => match us, hl with | [_, _, _, _], _ => rfl
  have bm_Keeper_now := m_Keeper_now.fn.binds (ps := ["self"]) fun _ _ _ _ _ _ us hl => match us, hl with | [_], _ => rfl
  have bm_Keeper_say := m_Keeper_say.fn.binds (ps := ["self", "word"]) fun _ _ _ _ _ _ us hl => match us, hl with | [_, _], _ => rfl
  have bm_Keeper_heard := m_Keeper_heard.fn.binds (ps := ["self", "other", "word"]) fun _ _ _ _ _ _ us hl => match us, hl with | [_, _, _], _ => rfl
  have bm_Keeper_take := m_Keeper_take.fn.binds (ps := ["self"]) fun _ _ _ _ _ _ us hl => match us, hl with | [_], _ => rfl
  have bm_Keeper_kept := m_Keeper_kept.fn.binds (ps := ["self", "other"]) fun _ _ _ _ _ _ us hl => match us, hl with | [_, _], _ => rfl
  have bm_Keeper_is_another := m_Keeper_is_another.fn.binds (ps := ["self", "party"]) fun _ _ _ _ _ _ us hl => match us, hl with | [_, _], _ => rfl
  have bm_Reader_init := m_Reader_init.fn.binds (ps := ["self", "calls"]) fun _ _ _ _ _ _ us hl => match us, hl with | [_, _], _ => rfl
  have bm_Reader_is_done := m_Reader_is_done.fn.binds (ps := ["self"]) fun _ _ _ _ _ _ us hl => match us, hl with | [_], _ => rfl
  have bm_Reader_read_number := m_Reader_read_number.fn.binds (ps := ["self"]) fun _ _ _ _ _ _ us hl => match us, hl with | [_], _ => rfl
  have bm_Reader_read_list := m_Reader_read_list.fn.binds (ps := ["self"]) fun _ _ _ _ _ _ us hl => match us, hl with | [_], _ => rfl
  have bm_Reader_read_lists := m_Reader_read_lists.fn.binds (ps := ["self"]) fun _ _ _ _ _ _ us hl => match us, hl with | [_], _ => rfl
  have e := hfa.symm.trans (PySem.W.mg_of X G f_answers.ns)
  cases e
  refine ⟨fd_answers, fun s us hu => ?_, fun base kb nb => ?_⟩
  · obtain ⟨oc, od, kV, doc, pm, an, cdv, ct, osl, rfl, lk, hcd⟩ := f_answers.fn.ex
    match us, hu with
    | [_], _ => exact .of_eq rfl
  have G_words_of_row : Fn P w K mg base "words_of_row" 1 ["row"] (spAlt K 2) a_words_of_row fd_words_of_row := ⟨ok_words f_words_of_row.fn, PySem.W.mg_of X G f_words_of_row.ns, f_words_of_row.kp, bi_words_of_row⟩
  have G_nexts_of_row : Fn P w K mg base "nexts_of_row" 1 ["row"] (spAlt K 3) a_nexts_of_row fd_nexts_of_row := ⟨ok_nexts f_nexts_of_row.fn, PySem.W.mg_of X G f_nexts_of_row.ns, f_nexts_of_row.kp, bi_nexts_of_row⟩
  have G_are_two_parties : Fn P w K mg base "are_two_parties" 1 ["p", "row"] (spTwo K) a_are_two_parties fd_are_two_parties := ⟨ok_two f_are_two_parties.fn, PySem.W.mg_of X G f_are_two_parties.ns, f_are_two_parties.kp, bi_are_two_parties⟩
  have G_are_ways : Fn P w K mg base "are_ways" 2 ["n", "row"] (spWays K) a_are_ways fd_are_ways := ⟨ok_ways f_are_ways.fn T G_words_of_row G_nexts_of_row, PySem.W.mg_of X G f_are_ways.ns, f_are_ways.kp, bi_are_ways⟩
  have G_is_script : Fn P w K mg base "is_script" 3 ["p", "rows"] (spScript K) a_is_script fd_is_script := ⟨ok_script f_is_script.fn T G_are_two_parties G_are_ways, PySem.W.mg_of X G f_is_script.ns, f_is_script.kp, bi_is_script⟩
  have G_Place_init : Mr P w K mg base "Place" CPlace 2 ["self", "row"] (spPlaceInit K cs) am_Place_init fdm_Place_init := ⟨ok_placeI m_Place_init.fn T G_words_of_row G_nexts_of_row, ⟨cPlace.t.mk_, m_Place_init.fi, m_Place_init.isf, cPlace.t.kp⟩, PySem.W.mg_of X G cPlace.t.ns, bm_Place_init⟩
  have G_Row_init : Mr P w K mg base "Row" CRow 1 ["self", "kind", "other", "behind"] (spRowInit cs) am_Row_init fdm_Row_init := ⟨ok_rowI m_Row_init.fn T, ⟨cRow.t.mk_, m_Row_init.fi, m_Row_init.isf, cRow.t.kp⟩, PySem.W.mg_of X G cRow.t.ns, bm_Row_init⟩
  have G_is_same_line : Fn P w K mg base "is_same_line" 1 ["one", "another"] (spLine cs) a_is_same_line fd_is_same_line := ⟨ok_line f_is_same_line.fn T, PySem.W.mg_of X G f_is_same_line.ns, f_is_same_line.kp, bi_is_same_line⟩
  have G_is_same_speech : Fn P w K mg base "is_same_speech" 2 ["one", "another"] (spSpeech cs) a_is_same_speech fd_is_same_speech := ⟨ok_speech f_is_same_speech.fn T G_is_same_line, PySem.W.mg_of X G f_is_same_speech.ns, f_is_same_speech.kp, bi_is_same_speech⟩
  have G_is_end : Fn P w K mg base "is_end" 1 ["party", "places", "at"] (spEnd cs) a_is_end fd_is_end := ⟨ok_end f_is_end.fn T, PySem.W.mg_of X G f_is_end.ns, f_is_end.kp, bi_is_end⟩
  have G_walk_from : Fn P w K mg base "walk_from" 2 ["party", "places", "start"] (spWalk cs) a_walk_from fd_walk_from := ⟨ok_walk f_walk_from.fn T G_is_end, PySem.W.mg_of X G f_walk_from.ns, f_walk_from.kp, bi_walk_from⟩
  have G_ends_of : Fn P w K mg base "ends_of" 2 ["party", "places", "walk"] (spEnds cs) a_ends_of fd_ends_of := ⟨ok_ends f_ends_of.fn T G_is_end, PySem.W.mg_of X G f_ends_of.ns, f_ends_of.kp, bi_ends_of⟩
  have G_arrivals_of : Fn P w K mg base "arrivals_of" 3 ["party", "places"] (spArr cs) a_arrivals_of fd_arrivals_of := ⟨ok_arr f_arrivals_of.fn T G_walk_from G_ends_of, PySem.W.mg_of X G f_arrivals_of.ns, f_arrivals_of.kp, bi_arrivals_of⟩
  have G_Part_kind_of : Me P w K mg base CPart "kind_of" 3 ["self", "state"] (spKind cs) am_Part_kind_of fdm_Part_kind_of := ⟨ok_kind m_Part_kind_of.fn T G_is_same_line G_is_same_speech, ⟨m_Part_kind_of.fi, m_Part_kind_of.isf, m_Part_kind_of.kp⟩, bm_Part_kind_of⟩
  have G_Part_words_of : Me P w K mg base CPart "words_of" 1 ["self", "state"] (spWords cs) am_Part_words_of fdm_Part_words_of := ⟨ok_wordsP m_Part_words_of.fn T, ⟨m_Part_words_of.fi, m_Part_words_of.isf, m_Part_words_of.kp⟩, bm_Part_words_of⟩
  have G_Part_state_behind : Me P w K mg base CPart "state_behind" 1 ["self", "state", "word"] (spBehind cs) am_Part_state_behind fdm_Part_state_behind := ⟨ok_behind m_Part_state_behind.fn T, ⟨m_Part_state_behind.fi, m_Part_state_behind.isf, m_Part_state_behind.kp⟩, bm_Part_state_behind⟩
  have G_Part_number_of : Me P w K mg base CPart "number_of" 1 ["self", "state"] (spNumber cs) am_Part_number_of fdm_Part_number_of := ⟨ok_number m_Part_number_of.fn T, ⟨m_Part_number_of.fi, m_Part_number_of.isf, m_Part_number_of.kp⟩, bm_Part_number_of⟩
  have G_Part_row_of : Me P w K mg base CPart "row_of" 4 ["self", "state"] (spRow cs) am_Part_row_of fdm_Part_row_of := ⟨ok_row m_Part_row_of.fn T G_Part_kind_of G_Part_words_of G_Part_state_behind G_Part_number_of G_Row_init, ⟨m_Part_row_of.fi, m_Part_row_of.isf, m_Part_row_of.kp⟩, bm_Part_row_of⟩
  have G_Part_init : Mr P w K mg base "Part" CPart 4 ["self", "party", "places"] (spPartInit cs) am_Part_init fdm_Part_init := ⟨ok_partI m_Part_init.fn T G_arrivals_of, ⟨cPart.t.mk_, m_Part_init.fi, m_Part_init.isf, cPart.t.kp⟩, PySem.W.mg_of X G cPart.t.ns, bm_Part_init⟩
  have G_Part_find_rows : Me P w K mg base CPart "find_rows" 5 ["self"] (spFind cs) am_Part_find_rows fdm_Part_find_rows := ⟨ok_find m_Part_find_rows.fn T G_Part_number_of G_Part_row_of, ⟨m_Part_find_rows.fi, m_Part_find_rows.isf, m_Part_find_rows.kp⟩, bm_Part_find_rows⟩
  have G_rows_of : Fn P w K mg base "rows_of" 6 ["party", "places"] (spRowsOf cs) a_rows_of fd_rows_of := ⟨ok_rowsOf f_rows_of.fn T G_Part_init G_Part_find_rows, PySem.W.mg_of X G f_rows_of.ns, f_rows_of.kp, bi_rows_of⟩
  have G_all_rows : Fn P w K mg base "all_rows" 7 ["p", "places"] (spAll cs) a_all_rows fd_all_rows := ⟨ok_all f_all_rows.fn T G_rows_of, PySem.W.mg_of X G f_all_rows.ns, f_all_rows.kp, bi_all_rows⟩
  have G_Keeper_is_another : Me P w K mg base CKeeper "is_another" 1 ["self", "party"] (spAnother cs) am_Keeper_is_another fdm_Keeper_is_another := ⟨ok_another m_Keeper_is_another.fn T, ⟨m_Keeper_is_another.fi, m_Keeper_is_another.isf, m_Keeper_is_another.kp⟩, bm_Keeper_is_another⟩
  have G_Keeper_now : Me P w K mg base CKeeper "now" 1 ["self"] (spNow cs) am_Keeper_now fdm_Keeper_now := ⟨ok_now m_Keeper_now.fn T, ⟨m_Keeper_now.fi, m_Keeper_now.isf, m_Keeper_now.kp⟩, bm_Keeper_now⟩
  have G_Keeper_say : Me P w K mg base CKeeper "say" 1 ["self", "word"] (spSay cs) am_Keeper_say fdm_Keeper_say := ⟨ok_say m_Keeper_say.fn T, ⟨m_Keeper_say.fi, m_Keeper_say.isf, m_Keeper_say.kp⟩, bm_Keeper_say⟩
  have G_Keeper_heard : Me P w K mg base CKeeper "heard" 2 ["self", "other", "word"] (spHeard cs) am_Keeper_heard fdm_Keeper_heard := ⟨ok_heard m_Keeper_heard.fn T G_Keeper_is_another, ⟨m_Keeper_heard.fi, m_Keeper_heard.isf, m_Keeper_heard.kp⟩, bm_Keeper_heard⟩
  have G_Keeper_take : Me P w K mg base CKeeper "take" 1 ["self"] (spTake cs) am_Keeper_take fdm_Keeper_take := ⟨ok_take m_Keeper_take.fn T, ⟨m_Keeper_take.fi, m_Keeper_take.isf, m_Keeper_take.kp⟩, bm_Keeper_take⟩
  have G_Keeper_kept : Me P w K mg base CKeeper "kept" 2 ["self", "other"] (spKept cs) am_Keeper_kept fdm_Keeper_kept := ⟨ok_kept m_Keeper_kept.fn T G_Keeper_is_another, ⟨m_Keeper_kept.fi, m_Keeper_kept.isf, m_Keeper_kept.kp⟩, bm_Keeper_kept⟩
  have G_Keeper_begin : Me P w K mg base CKeeper "begin" 8 ["self", "p", "me", "lists"] (spBegin cs) am_Keeper_begin fdm_Keeper_begin := ⟨ok_begin m_Keeper_begin.fn T TE G_is_script G_all_rows G_Place_init, ⟨m_Keeper_begin.fi, m_Keeper_begin.isf, m_Keeper_begin.kp⟩, bm_Keeper_begin⟩
  have G_Keeper_init : Mr P w K mg base "Keeper" CKeeper 1 ["self"] (spKeeperInit cs) am_Keeper_init fdm_Keeper_init := ⟨ok_keeperI m_Keeper_init.fn T, ⟨cKeeper.t.mk_, m_Keeper_init.fi, m_Keeper_init.isf, cKeeper.t.kp⟩, PySem.W.mg_of X G cKeeper.t.ns, bm_Keeper_init⟩
  have G_Reader_init : Mr P w K mg base "Reader" CReader 1 ["self", "calls"] (spReaderInit cs) am_Reader_init fdm_Reader_init := ⟨ok_readerI m_Reader_init.fn T, ⟨cReader.t.mk_, m_Reader_init.fi, m_Reader_init.isf, cReader.t.kp⟩, PySem.W.mg_of X G cReader.t.ns, bm_Reader_init⟩
  have G_Reader_is_done : Me P w K mg base CReader "is_done" 1 ["self"] (spDone K cs) am_Reader_is_done fdm_Reader_is_done := ⟨ok_done m_Reader_is_done.fn T, ⟨m_Reader_is_done.fi, m_Reader_is_done.isf, m_Reader_is_done.kp⟩, bm_Reader_is_done⟩
  have G_Reader_read_number : Me P w K mg base CReader "read_number" 1 ["self"] (spNum K cs) am_Reader_read_number fdm_Reader_read_number := ⟨ok_num m_Reader_read_number.fn T, ⟨m_Reader_read_number.fi, m_Reader_read_number.isf, m_Reader_read_number.kp⟩, bm_Reader_read_number⟩
  have G_Reader_read_list : Me P w K mg base CReader "read_list" 2 ["self"] (spList K cs) am_Reader_read_list fdm_Reader_read_list := ⟨ok_list m_Reader_read_list.fn T G_Reader_read_number, ⟨m_Reader_read_list.fi, m_Reader_read_list.isf, m_Reader_read_list.kp⟩, bm_Reader_read_list⟩
  have G_Reader_read_lists : Me P w K mg base CReader "read_lists" 3 ["self"] (spLists K cs) am_Reader_read_lists fdm_Reader_read_lists := ⟨ok_lists m_Reader_read_lists.fn T G_Reader_read_number G_Reader_read_list, ⟨m_Reader_read_lists.fi, m_Reader_read_lists.isf, m_Reader_read_lists.kp⟩, bm_Reader_read_lists⟩
  have G_answer_of : Fn P w K mg base "answer_of" 9 ["keeper", "call", "numbers", "lists"] (spAnswer cs) a_answer_of fd_answer_of := ⟨ok_answer f_answer_of.fn T G_Keeper_begin G_Keeper_now G_Keeper_say G_Keeper_heard G_Keeper_take G_Keeper_kept, PySem.W.mg_of X G f_answer_of.ns, f_answer_of.kp, bi_answer_of⟩
  exact ok_answers f_answers.fn T G_Keeper_init G_Reader_init G_Reader_is_done G_Reader_read_number G_Reader_read_list G_Reader_read_lists G_answer_of
theorem walk_specE {r : PySem.W.OpenSpec} {k : Nat} {q : Program} {loose : List Str} {XP : (Str → Option Value) → Heap → Prop} {YP : World → Heap → Prop} {d : DefRec} {K : Params → PySem.W.Frag} {CX : World → CXT} {ps : List Str} {sp : PySem.W.Frag → Sp}
    (hwell : r.wellSaid = true) (hdf : d.params.defaults = []) (hlen : r.args.length = ps.length) (hr : Room k callerA)
    (hY : ∀ (w : World) (h : Heap), YP w h → (K w.params).In h)
    (F : ∀ (w : World) (mg : Str → Option Value) (fa : Addr) (h : Heap), YP w h → (K w.params).In h → h.Ns mainGlobals mg → mg d.name = some (.ref fa) →
      ∃ fd : FuncData, (∀ (s : Shared) (us : List Value), us.length = ps.length → BindsTo s fd ⟨us, []⟩ (ps.zip us)) ∧
        ∀ base : Heap, (K w.params).In base → base.Ns mainGlobals mg → FnOk r.prog w (K w.params) mg base (CX w) k fa fd ps (sp (K w.params)))
    (hsp : ∀ (K : PySem.W.Frag) (H : Hp) (xs : List V) (a : PySem.W.Codec.denoteAll r.args), OnlyF H → PySem.W.Codec.withinAll r.args a = true → PySem.W.Codec.app r.args r.asked a = true → DwAll K H xs (PySem.W.Codec.encAll r.args a) →
      sp K xs H (fun v H' => Dw K H' v (r.ret.enc (PySem.W.Codec.app r.args r.f a))) fun _ _ _ => False)
    (hCX : ∀ (w : World) (H : Hp) (s : Shared) (e : Value) (s' : Shared), CX w [] H s (fun _ _ _ => False) e s' → False) :
    PySem.W.WalkOS q loose XP YP r d [] (fun f vs => PySem.call f vs) :=
  walk_spec (K := K) (CX := CX) (sp := fun w => sp (K w.params)) hwell hdf hlen hr hY F (fun w H xs a h1 h2 h3 h4 => hsp (K w.params) H xs a h1 h2 h3 h4) hCX
end Tk
end
set_option Elab.async false
set_option linter.all false
theorem PySem.W.Fast.tw755595844033164608 : True := trivial
theorem PySem.W.Fast.tw16601876704663874912 : True := trivial
theorem PySem.W.Fast.tw12954725742388326848 : True := trivial
theorem PySem.W.Fast.tw442388606761081408 : True := trivial
theorem PySem.W.Fast.tw15787659586804310624 : True := trivial
theorem PySem.W.Fast.tw9340810444270344864 : True := trivial
theorem PySem.W.Fast.tw11583710981383955264 : True := trivial
theorem PySem.W.Fast.tw9203736254636622145 : True := trivial
theorem PySem.W.Fast.tw5511448558367948193 : True := trivial
theorem PySem.W.Fast.tw690834871886624225 : True := trivial
theorem PySem.W.Fast.tw641215516400413698 : True := trivial
theorem PySem.W.Fast.tw16594264820225109122 : True := trivial
theorem PySem.W.Fast.tw7412536909050212546 : True := trivial
theorem PySem.W.Fast.tw13024676837652506978 : True := trivial
theorem PySem.W.Fast.tw14916435883382078882 : True := trivial
theorem PySem.W.Fast.tw129537317660736962 : True := trivial
theorem PySem.W.Fast.tw5706079153741136322 : True := trivial
theorem PySem.W.Fast.tw14794491729716247138 : True := trivial
theorem PySem.W.Fast.tw8095165846283659906 : True := trivial
theorem PySem.W.Fast.tw680595695339525762 : True := trivial
theorem PySem.W.Fast.tw11354984488308218658 : True := trivial
theorem PySem.W.Fast.tw14372060439786356771 : True := trivial
theorem PySem.W.Fast.tw15577001267533410435 : True := trivial
theorem PySem.W.Fast.tw1202411912939882659 : True := trivial
theorem PySem.W.Fast.tw8765610705167989987 : True := trivial
theorem PySem.W.Fast.tw9765560249166795011 : True := trivial
theorem PySem.W.Fast.tw4239624708226813219 : True := trivial
theorem PySem.W.Fast.tw10098607357941359011 : True := trivial
theorem PySem.W.Fast.tw8271054139858654691 : True := trivial
theorem PySem.W.Fast.tw14851325505350131491 : True := trivial
theorem PySem.W.Fast.tw14055126580127669219 : True := trivial
theorem PySem.W.Fast.tw3877553542516843044 : True := trivial
theorem PySem.W.Fast.tw2621120448555363940 : True := trivial
theorem PySem.W.Fast.tw8426381795832619748 : True := trivial
theorem PySem.W.Fast.tw16970515770026542884 : True := trivial
theorem PySem.W.Fast.tw15492589125436525444 : True := trivial
theorem PySem.W.Fast.tw12131020169373391780 : True := trivial
theorem PySem.W.Fast.tw12433447727962694596 : True := trivial
theorem PySem.W.Fast.tw10186349108205096932 : True := trivial
theorem PySem.W.Fast.tw3282304574198361125 : True := trivial
theorem PySem.W.Fast.tw8961301434041227397 : True := trivial
theorem PySem.W.Fast.tw8715104078484546757 : True := trivial
theorem PySem.W.Fast.tw13164113535019237605 : True := trivial
theorem PySem.W.Fast.tw4731188286003220869 : True := trivial
theorem PySem.W.Fast.tw16086453627198140837 : True := trivial
theorem PySem.W.Fast.tw18445822708116070981 : True := trivial
theorem PySem.W.Fast.tw14341071060868092549 : True := trivial
theorem PySem.W.Fast.tw753311053416750310 : True := trivial
theorem PySem.W.Fast.tw13474584004079334694 : True := trivial
theorem PySem.W.Fast.tw1650251095310688678 : True := trivial
theorem PySem.W.Fast.tw3483797269657246150 : True := trivial
theorem PySem.W.Fast.tw9447149325431764486 : True := trivial
theorem PySem.W.Fast.tw6629581841804456454 : True := trivial
theorem PySem.W.Fast.tw1473000221020332774 : True := trivial
theorem PySem.W.Fast.tw8722688370286170982 : True := trivial
theorem PySem.W.Fast.tw17507280614696244519 : True := trivial
theorem PySem.W.Fast.tw13070397657618391431 : True := trivial
theorem PySem.W.Fast.tw10942472725667282375 : True := trivial
theorem PySem.W.Fast.tw3652642732590897703 : True := trivial
theorem PySem.W.Fast.tw1424168741041591847 : True := trivial
theorem PySem.W.Fast.tw11317561282326914599 : True := trivial
theorem PySem.W.Fast.tw1020796238123406023 : True := trivial
theorem PySem.W.Fast.tw1741682084282985351 : True := trivial
theorem PySem.W.Fast.tw3173729324800759848 : True := trivial
theorem PySem.W.Fast.tw608038591515435208 : True := trivial
theorem PySem.W.Fast.tw13814423425687088392 : True := trivial
theorem PySem.W.Fast.tw6438025419700751784 : True := trivial
theorem PySem.W.Fast.tw10186289444923935272 : True := trivial
theorem PySem.W.Fast.tw5950332774824816200 : True := trivial
theorem PySem.W.Fast.tw2344473114053413448 : True := trivial
theorem PySem.W.Fast.tw15391189518227476104 : True := trivial
theorem PySem.W.Fast.tw737905329119889160 : True := trivial
theorem PySem.W.Fast.tw651907735961291913 : True := trivial
theorem PySem.W.Fast.tw4662531273671402857 : True := trivial
theorem PySem.W.Fast.tw14584504748584169833 : True := trivial
theorem PySem.W.Fast.tw18321005448593605001 : True := trivial
theorem PySem.W.Fast.tw16941316677231664745 : True := trivial
theorem PySem.W.Fast.tw18169185505583253225 : True := trivial
theorem PySem.W.Fast.tw9748106182754484969 : True := trivial
theorem PySem.W.Fast.tw30871735916515145 : True := trivial
theorem PySem.W.Fast.tw12035887060304126825 : True := trivial
theorem PySem.W.Fast.tw18036322486465917865 : True := trivial
theorem PySem.W.Fast.tw6614045865771994122 : True := trivial
theorem PySem.W.Fast.tw2203592772604949802 : True := trivial
theorem PySem.W.Fast.tw12244787216987098794 : True := trivial
theorem PySem.W.Fast.tw9421591621628207882 : True := trivial
theorem PySem.W.Fast.tw13911280409552883626 : True := trivial
theorem PySem.W.Fast.tw16165138350754210923 : True := trivial
theorem PySem.W.Fast.tw8208294164621570251 : True := trivial
theorem PySem.W.Fast.tw8474498264097452267 : True := trivial
theorem PySem.W.Fast.tw12103497421170921867 : True := trivial
theorem PySem.W.Fast.tw17967799904306297323 : True := trivial
theorem PySem.W.Fast.tw14355940027710901292 : True := trivial
theorem PySem.W.Fast.tw14248462134331376812 : True := trivial
theorem PySem.W.Fast.tw2248457267108382028 : True := trivial
theorem PySem.W.Fast.tw2951417125221072300 : True := trivial
theorem PySem.W.Fast.tw5794898135514691020 : True := trivial
theorem PySem.W.Fast.tw2497505354491531724 : True := trivial
theorem PySem.W.Fast.tw15968989700486867468 : True := trivial
theorem PySem.W.Fast.tw2143015771695033260 : True := trivial
theorem PySem.W.Fast.tw1344001647662244141 : True := trivial
theorem PySem.W.Fast.tw13679649117655542061 : True := trivial
theorem PySem.W.Fast.tw10309380647965199789 : True := trivial
theorem PySem.W.Fast.tw16502176680364937837 : True := trivial
theorem PySem.W.Fast.tw9007935549974912813 : True := trivial
theorem PySem.W.Fast.tw6262363534731042605 : True := trivial
theorem PySem.W.Fast.tw714904855011256141 : True := trivial
theorem PySem.W.Fast.tw2549219720802454413 : True := trivial
theorem PySem.W.Fast.tw16553061791260236781 : True := trivial
theorem PySem.W.Fast.tw9091199162535298254 : True := trivial
theorem PySem.W.Fast.tw12935985842142538062 : True := trivial
theorem PySem.W.Fast.tw2346670556227142062 : True := trivial
theorem PySem.W.Fast.tw3379408092586767310 : True := trivial
theorem PySem.W.Fast.tw7689273874871596207 : True := trivial
theorem PySem.W.Fast.tw38871195922482383 : True := trivial
theorem PySem.W.Fast.tw2846604990416924943 : True := trivial
theorem PySem.W.Fast.tw8458804215392492015 : True := trivial
theorem PySem.W.Fast.tw2002915267912828655 : True := trivial
theorem PySem.W.Fast.tw2803193860156498703 : True := trivial
theorem PySem.W.Fast.tw6639446638540985103 : True := trivial
theorem PySem.W.Fast.tw771472702279271440 : True := trivial
theorem PySem.W.Fast.tw10858740879746557136 : True := trivial
theorem PySem.W.Fast.tw5346788768358153424 : True := trivial
theorem PySem.W.Fast.tw13922651458646823216 : True := trivial
theorem PySem.W.Fast.tw14117428891490536752 : True := trivial
theorem PySem.W.Fast.tw348093039131111056 : True := trivial
theorem PySem.W.Fast.tw16921292768496744240 : True := trivial
theorem PySem.W.Fast.tw8453796579008583536 : True := trivial
theorem PySem.W.Fast.tw15973303839789138832 : True := trivial
theorem PySem.W.Fast.tw11708107261738795313 : True := trivial
theorem PySem.W.Fast.tw16691750144592354641 : True := trivial
theorem PySem.W.Fast.tw15780384007355455953 : True := trivial
theorem PySem.W.Fast.tw3169289034995228305 : True := trivial
theorem PySem.W.Fast.tw17746671965864480465 : True := trivial
theorem PySem.W.Fast.tw1867026750286162929 : True := trivial
theorem PySem.W.Fast.tw16027766710553264370 : True := trivial
theorem PySem.W.Fast.tw17857195951108489458 : True := trivial
theorem PySem.W.Fast.tw4593284597640743250 : True := trivial
theorem PySem.W.Fast.tw5696394165035639282 : True := trivial
theorem PySem.W.Fast.tw15900332403723791186 : True := trivial
theorem PySem.W.Fast.tw18329926727366819923 : True := trivial
theorem PySem.W.Fast.tw4762443314340609139 : True := trivial
theorem PySem.W.Fast.tw6098396034411756691 : True := trivial
theorem PySem.W.Fast.tw8164552350419993331 : True := trivial
theorem PySem.W.Fast.tw15339068561017112371 : True := trivial
theorem PySem.W.Fast.tw924725062909998963 : True := trivial
theorem PySem.W.Fast.tw11505706995593754644 : True := trivial
theorem PySem.W.Fast.tw9414676961249465396 : True := trivial
theorem PySem.W.Fast.tw13904022303042972980 : True := trivial
theorem PySem.W.Fast.tw13897156090410522132 : True := trivial
theorem PySem.W.Fast.tw1808462059472480820 : True := trivial
theorem PySem.W.Fast.tw18269783088410792596 : True := trivial
theorem PySem.W.Fast.tw9695152585678129044 : True := trivial
theorem PySem.W.Fast.tw17432772910309353460 : True := trivial
theorem PySem.W.Fast.tw8848156753969293397 : True := trivial
theorem PySem.W.Fast.tw10697671165037714613 : True := trivial
theorem PySem.W.Fast.tw608335529270341813 : True := trivial
theorem PySem.W.Fast.tw115355355377790325 : True := trivial
theorem PySem.W.Fast.tw8315767710745846197 : True := trivial
theorem PySem.W.Fast.tw10677542735396829685 : True := trivial
theorem PySem.W.Fast.tw8440902710631759445 : True := trivial
theorem PySem.W.Fast.tw8602971714245146197 : True := trivial
theorem PySem.W.Fast.tw16304893033716777653 : True := trivial
theorem PySem.W.Fast.tw6045368371841624789 : True := trivial
theorem PySem.W.Fast.tw15229876109879777013 : True := trivial
theorem PySem.W.Fast.tw12848233641599209301 : True := trivial
theorem PySem.W.Fast.tw18210700260584233813 : True := trivial
theorem PySem.W.Fast.tw10385020298118950773 : True := trivial
theorem PySem.W.Fast.tw5518758446285525877 : True := trivial
theorem PySem.W.Fast.tw1149418385346411766 : True := trivial
theorem PySem.W.Fast.tw10268729774599823638 : True := trivial
theorem PySem.W.Fast.tw1185477907167760950 : True := trivial
theorem PySem.W.Fast.tw17834226723840721622 : True := trivial
theorem PySem.W.Fast.tw12093278832731037430 : True := trivial
theorem PySem.W.Fast.tw6438364610772681622 : True := trivial
theorem PySem.W.Fast.tw8633837784262089718 : True := trivial
theorem PySem.W.Fast.tw16032490577648577623 : True := trivial
theorem PySem.W.Fast.tw2959295844163944823 : True := trivial
theorem PySem.W.Fast.tw4532367389094324663 : True := trivial
theorem PySem.W.Fast.tw18390264139084538359 : True := trivial
theorem PySem.W.Fast.tw2198358084532802103 : True := trivial
theorem PySem.W.Fast.tw7949805836861202999 : True := trivial
theorem PySem.W.Fast.tw1157011895685724759 : True := trivial
theorem PySem.W.Fast.tw4786857911278449303 : True := trivial
theorem PySem.W.Fast.tw18423600610469667511 : True := trivial
theorem PySem.W.Fast.tw16962412789391385559 : True := trivial
theorem PySem.W.Fast.tw11254162352457125879 : True := trivial
theorem PySem.W.Fast.tw5894444145770468408 : True := trivial
theorem PySem.W.Fast.tw4209226590426985720 : True := trivial
theorem PySem.W.Fast.tw8525977945205241560 : True := trivial
theorem PySem.W.Fast.tw3213945296854073144 : True := trivial
theorem PySem.W.Fast.tw17649702908247940056 : True := trivial
theorem PySem.W.Fast.tw12162843761779702937 : True := trivial
theorem PySem.W.Fast.tw6370675465529546361 : True := trivial
theorem PySem.W.Fast.tw13535876375646150329 : True := trivial
theorem PySem.W.Fast.tw13286998018167683833 : True := trivial
theorem PySem.W.Fast.tw14102246454714207065 : True := trivial
theorem PySem.W.Fast.tw11834181288582464538 : True := trivial
theorem PySem.W.Fast.tw8898099651880493274 : True := trivial
theorem PySem.W.Fast.tw12694022915630720570 : True := trivial
theorem PySem.W.Fast.tw10733358260444698234 : True := trivial
theorem PySem.W.Fast.tw1621392697241072410 : True := trivial
theorem PySem.W.Fast.tw11304622220067132250 : True := trivial
theorem PySem.W.Fast.tw2999359405481680826 : True := trivial
theorem PySem.W.Fast.tw7584729698722503995 : True := trivial
theorem PySem.W.Fast.tw1590922629475583323 : True := trivial
theorem PySem.W.Fast.tw9069855489641716187 : True := trivial
theorem PySem.W.Fast.tw16804124032259276988 : True := trivial
theorem PySem.W.Fast.tw14509900120012563644 : True := trivial
theorem PySem.W.Fast.tw14679602685093193980 : True := trivial
theorem PySem.W.Fast.tw5794830543299237372 : True := trivial
theorem PySem.W.Fast.tw13855587182738420284 : True := trivial
theorem PySem.W.Fast.tw4848257739402158748 : True := trivial
theorem PySem.W.Fast.tw12282819401003974364 : True := trivial
theorem PySem.W.Fast.tw15492048562568343260 : True := trivial
theorem PySem.W.Fast.tw940984634343429980 : True := trivial
theorem PySem.W.Fast.tw11493902920768032732 : True := trivial
theorem PySem.W.Fast.tw12659806083679381629 : True := trivial
theorem PySem.W.Fast.tw6744454297999279229 : True := trivial
theorem PySem.W.Fast.tw15448024879865732413 : True := trivial
theorem PySem.W.Fast.tw4201264428277138845 : True := trivial
theorem PySem.W.Fast.tw5796648384325557693 : True := trivial
theorem PySem.W.Fast.tw18332741720250310301 : True := trivial
theorem PySem.W.Fast.tw5733388801235328733 : True := trivial
theorem PySem.W.Fast.tw10485545621060034301 : True := trivial
theorem PySem.W.Fast.tw133653548737586941 : True := trivial
theorem PySem.W.Fast.tw1704330572944919389 : True := trivial
theorem PySem.W.Fast.tw11216672206411656478 : True := trivial
theorem PySem.W.Fast.tw16448038991563553086 : True := trivial
theorem PySem.W.Fast.tw6244589011545355646 : True := trivial
theorem PySem.W.Fast.tw12260991575704379902 : True := trivial
theorem PySem.W.Fast.tw5077576863138893534 : True := trivial
theorem PySem.W.Fast.tw13738038221405329246 : True := trivial
theorem PySem.W.Fast.tw6991000121885705086 : True := trivial
theorem PySem.W.Fast.tw18061181447531416446 : True := trivial
theorem PySem.W.Fast.tw1156329377296076734 : True := trivial
theorem PySem.W.Fast.tw13603273380996171903 : True := trivial
theorem PySem.W.Fast.tw8544095857315018463 : True := trivial
theorem PySem.W.Fast.tw15077391203422262015 : True := trivial
theorem PySem.W.Fast.tw12463060594750712735 : True := trivial
open PySem PySem.W PyProof.Rows
open PySem.W (Codec)
set_option maxRecDepth 100000 in
set_option maxHeartbeats 0 in
theorem PySem.Challenge.cw_talkkeeper_s01_answers_holds : PySem.Challenge.rw_talkkeeper_s01_answers.Holds := by
  w_on; k_headS; (case hw => exact ⟨[.list []], by decide +kernel, by decide +kernel⟩)
  k_fillS
  refine Tk.walk_specE (r := PySem.Challenge.rw_talkkeeper_s01_answers) (k := 10) (CX := fun w => L2.CXe PySem.Challenge.rw_talkkeeper_s01_answers.prog w) (ps := ["calls"]) (sp := Tk.spAns) (by decide +kernel) rfl rfl ⟨rfl, by decide, by decide⟩ (fun w h Y => PySem.W.kIn_of Y) ?F ?S ?C
  case F =>
    intro w mg fa h Y KX G hmg
    have cPlace : ∃ C, Tk.ClPlace (L2.KOf KX) C := by
      dsimp only [L2.KOf]
      refine' Tk.clPlace_mk ?aC ?pg ?hd ?po ?sa ?mk ?kc ?n_speaker ?n_listener ?n_ways ?a0 ?i0 ?l0 ?c0 ?k0
      (case aC => k_is); (case pg => k_is); (case hd => k_is); (case po => k_is); (case sa => k_is); (case mk => k_is); (case kc => k_is); (case n_speaker => k_is); (case n_listener => k_is); (case n_ways => k_is); (case a0 => k_is); (case i0 => k_is); (case l0 => k_is); (case c0 => k_is); (case k0 => k_is)
    have cRow : ∃ C, Tk.ClRow (L2.KOf KX) C := by
      dsimp only [L2.KOf]
      refine' Tk.clRow_mk ?aC ?pg ?hd ?po ?sa ?mk ?kc ?n_kind ?n_other ?n_behind ?a0 ?i0 ?l0 ?c0 ?k0
      (case aC => k_is); (case pg => k_is); (case hd => k_is); (case po => k_is); (case sa => k_is); (case mk => k_is); (case kc => k_is); (case n_kind => k_is); (case n_other => k_is); (case n_behind => k_is); (case a0 => k_is); (case i0 => k_is); (case l0 => k_is); (case c0 => k_is); (case k0 => k_is)
    have cPart : ∃ C, Tk.ClPart (L2.KOf KX) C := by
      dsimp only [L2.KOf]
      refine' Tk.clPart_mk ?aC ?pg ?hd ?po ?sa ?mk ?kc ?n_party ?n_places ?n_arrivals ?n_states ?n_numbers ?n_rows ?a0 ?i0 ?l0 ?c0 ?k0 ?a1 ?i1 ?l1 ?c1 ?k1 ?a2 ?i2 ?l2 ?c2 ?k2 ?a3 ?i3 ?l3 ?c3 ?k3 ?a4 ?i4 ?l4 ?c4 ?k4 ?a5 ?i5 ?l5 ?c5 ?k5 ?a6 ?i6 ?l6 ?c6 ?k6
      (case aC => k_is); (case pg => k_is); (case hd => k_is); (case po => k_is); (case sa => k_is); (case mk => k_is); (case kc => k_is); (case n_party => k_is); (case n_places => k_is); (case n_arrivals => k_is); (case n_states => k_is); (case n_numbers => k_is); (case n_rows => k_is); (case a0 => k_is); (case i0 => k_is); (case l0 => k_is); (case c0 => k_is); (case k0 => k_is); (case a1 => k_is); (case i1 => k_is); (case l1 => k_is); (case c1 => k_is); (case k1 => k_is); (case a2 => k_is); (case i2 => k_is); (case l2 => k_is); (case c2 => k_is); (case k2 => k_is); (case a3 => k_is); (case i3 => k_is); (case l3 => k_is); (case c3 => k_is); (case k3 => k_is); (case a4 => k_is); (case i4 => k_is); (case l4 => k_is); (case c4 => k_is); (case k4 => k_is); (case a5 => k_is); (case i5 => k_is); (case l5 => k_is); (case c5 => k_is); (case k5 => k_is); (case a6 => k_is); (case i6 => k_is); (case l6 => k_is); (case c6 => k_is); (case k6 => k_is)
    have cKeeper : ∃ C, Tk.ClKeeper (L2.KOf KX) C := by
      dsimp only [L2.KOf]
      refine' Tk.clKeeper_mk ?aC ?pg ?hd ?po ?sa ?mk ?kc ?n_me ?n_rows ?n_state ?n_lines ?a0 ?i0 ?l0 ?c0 ?k0 ?a1 ?i1 ?l1 ?c1 ?k1 ?a2 ?i2 ?l2 ?c2 ?k2 ?a3 ?i3 ?l3 ?c3 ?k3 ?a4 ?i4 ?l4 ?c4 ?k4 ?a5 ?i5 ?l5 ?c5 ?k5 ?a6 ?i6 ?l6 ?c6 ?k6 ?a7 ?i7 ?l7 ?c7 ?k7
      (case aC => k_is); (case pg => k_is); (case hd => k_is); (case po => k_is); (case sa => k_is); (case mk => k_is); (case kc => k_is); (case n_me => k_is); (case n_rows => k_is); (case n_state => k_is); (case n_lines => k_is); (case a0 => k_is); (case i0 => k_is); (case l0 => k_is); (case c0 => k_is); (case k0 => k_is); (case a1 => k_is); (case i1 => k_is); (case l1 => k_is); (case c1 => k_is); (case k1 => k_is); (case a2 => k_is); (case i2 => k_is); (case l2 => k_is); (case c2 => k_is); (case k2 => k_is); (case a3 => k_is); (case i3 => k_is); (case l3 => k_is); (case c3 => k_is); (case k3 => k_is); (case a4 => k_is); (case i4 => k_is); (case l4 => k_is); (case c4 => k_is); (case k4 => k_is); (case a5 => k_is); (case i5 => k_is); (case l5 => k_is); (case c5 => k_is); (case k5 => k_is); (case a6 => k_is); (case i6 => k_is); (case l6 => k_is); (case c6 => k_is); (case k6 => k_is); (case a7 => k_is); (case i7 => k_is); (case l7 => k_is); (case c7 => k_is); (case k7 => k_is)
    have cReader : ∃ C, Tk.ClReader (L2.KOf KX) C := by
      dsimp only [L2.KOf]
      refine' Tk.clReader_mk ?aC ?pg ?hd ?po ?sa ?mk ?kc ?n_calls ?n_position ?a0 ?i0 ?l0 ?c0 ?k0 ?a1 ?i1 ?l1 ?c1 ?k1 ?a2 ?i2 ?l2 ?c2 ?k2 ?a3 ?i3 ?l3 ?c3 ?k3 ?a4 ?i4 ?l4 ?c4 ?k4
      (case aC => k_is); (case pg => k_is); (case hd => k_is); (case po => k_is); (case sa => k_is); (case mk => k_is); (case kc => k_is); (case n_calls => k_is); (case n_position => k_is); (case a0 => k_is); (case i0 => k_is); (case l0 => k_is); (case c0 => k_is); (case k0 => k_is); (case a1 => k_is); (case i1 => k_is); (case l1 => k_is); (case c1 => k_is); (case k1 => k_is); (case a2 => k_is); (case i2 => k_is); (case l2 => k_is); (case c2 => k_is); (case k2 => k_is); (case a3 => k_is); (case i3 => k_is); (case l3 => k_is); (case c3 => k_is); (case k3 => k_is); (case a4 => k_is); (case i4 => k_is); (case l4 => k_is); (case c4 => k_is); (case k4 => k_is)
    have eX : ∃ u t, Tk.ExcT (L2.KOf KX) u t := by
      dsimp only [L2.KOf]
      refine' Tk.excT_mk ?a ?b ?c ?d ?su ?st ?cu ?ct ?tu ?tt ?s11 ?s21 ?s22
      (case a => k_is); (case b => k_is); (case c => k_exc); (case d => k_exc); (case su => k_is); (case st => k_is); (case cu => k_is); (case ct => k_is); (case tu => k_is); (case tt => k_is); (case s11 => k_is); (case s21 => k_is); (case s22 => k_is)
    have f_words_of_row : ∃ f fd, Tk.FnT (L2.KOf KX) "words_of_row" Tk.s_words_of_row f fd := by
      dsimp only [L2.KOf]
      refine' Tk.fnT_mk ?a ?l ?c ?k
      (case a => k_is); (case l => k_is); (case c => k_is); (case k => k_is)
    have f_nexts_of_row : ∃ f fd, Tk.FnT (L2.KOf KX) "nexts_of_row" Tk.s_nexts_of_row f fd := by
      dsimp only [L2.KOf]
      refine' Tk.fnT_mk ?a ?l ?c ?k
      (case a => k_is); (case l => k_is); (case c => k_is); (case k => k_is)
    have f_are_two_parties : ∃ f fd, Tk.FnT (L2.KOf KX) "are_two_parties" Tk.s_are_two_parties f fd := by
      dsimp only [L2.KOf]
      refine' Tk.fnT_mk ?a ?l ?c ?k
      (case a => k_is); (case l => k_is); (case c => k_is); (case k => k_is)
    have f_are_ways : ∃ f fd, Tk.FnT (L2.KOf KX) "are_ways" Tk.s_are_ways f fd := by
      dsimp only [L2.KOf]
      refine' Tk.fnT_mk ?a ?l ?c ?k
      (case a => k_is); (case l => k_is); (case c => k_is); (case k => k_is)
    have f_is_script : ∃ f fd, Tk.FnT (L2.KOf KX) "is_script" Tk.s_is_script f fd := by
      dsimp only [L2.KOf]
      refine' Tk.fnT_mk ?a ?l ?c ?k
      (case a => k_is); (case l => k_is); (case c => k_is); (case k => k_is)
    have f_is_same_line : ∃ f fd, Tk.FnT (L2.KOf KX) "is_same_line" Tk.s_is_same_line f fd := by
      dsimp only [L2.KOf]
      refine' Tk.fnT_mk ?a ?l ?c ?k
      (case a => k_is); (case l => k_is); (case c => k_is); (case k => k_is)
    have f_is_same_speech : ∃ f fd, Tk.FnT (L2.KOf KX) "is_same_speech" Tk.s_is_same_speech f fd := by
      dsimp only [L2.KOf]
      refine' Tk.fnT_mk ?a ?l ?c ?k
      (case a => k_is); (case l => k_is); (case c => k_is); (case k => k_is)
    have f_is_end : ∃ f fd, Tk.FnT (L2.KOf KX) "is_end" Tk.s_is_end f fd := by
      dsimp only [L2.KOf]
      refine' Tk.fnT_mk ?a ?l ?c ?k
      (case a => k_is); (case l => k_is); (case c => k_is); (case k => k_is)
    have f_walk_from : ∃ f fd, Tk.FnT (L2.KOf KX) "walk_from" Tk.s_walk_from f fd := by
      dsimp only [L2.KOf]
      refine' Tk.fnT_mk ?a ?l ?c ?k
      (case a => k_is); (case l => k_is); (case c => k_is); (case k => k_is)
    have f_ends_of : ∃ f fd, Tk.FnT (L2.KOf KX) "ends_of" Tk.s_ends_of f fd := by
      dsimp only [L2.KOf]
      refine' Tk.fnT_mk ?a ?l ?c ?k
      (case a => k_is); (case l => k_is); (case c => k_is); (case k => k_is)
    have f_arrivals_of : ∃ f fd, Tk.FnT (L2.KOf KX) "arrivals_of" Tk.s_arrivals_of f fd := by
      dsimp only [L2.KOf]
      refine' Tk.fnT_mk ?a ?l ?c ?k
      (case a => k_is); (case l => k_is); (case c => k_is); (case k => k_is)
    have f_rows_of : ∃ f fd, Tk.FnT (L2.KOf KX) "rows_of" Tk.s_rows_of f fd := by
      dsimp only [L2.KOf]
      refine' Tk.fnT_mk ?a ?l ?c ?k
      (case a => k_is); (case l => k_is); (case c => k_is); (case k => k_is)
    have f_all_rows : ∃ f fd, Tk.FnT (L2.KOf KX) "all_rows" Tk.s_all_rows f fd := by
      dsimp only [L2.KOf]
      refine' Tk.fnT_mk ?a ?l ?c ?k
      (case a => k_is); (case l => k_is); (case c => k_is); (case k => k_is)
    have f_answer_of : ∃ f fd, Tk.FnT (L2.KOf KX) "answer_of" Tk.s_answer_of f fd := by
      dsimp only [L2.KOf]
      refine' Tk.fnT_mk ?a ?l ?c ?k
      (case a => k_is); (case l => k_is); (case c => k_is); (case k => k_is)
    have f_answers : ∃ f fd, Tk.FnT (L2.KOf KX) "answers" Tk.s_answers f fd := by
      dsimp only [L2.KOf]
      refine' Tk.fnT_mk ?a ?l ?c ?k
      (case a => k_is); (case l => k_is); (case c => k_is); (case k => k_is)
    have b_len : nsIn (L2.KOf KX) mainGlobals "len" = some none := by
      dsimp only [L2.KOf]
      k_is
    have b_set : nsIn (L2.KOf KX) mainGlobals "set" = some none := by
      dsimp only [L2.KOf]
      k_is
    have b_dict : nsIn (L2.KOf KX) mainGlobals "dict" = some none := by
      dsimp only [L2.KOf]
      k_is
    have b_zip : nsIn (L2.KOf KX) mainGlobals "zip" = some none := by
      dsimp only [L2.KOf]
      k_is
    have b_all : nsIn (L2.KOf KX) mainGlobals "all" = some none := by
      dsimp only [L2.KOf]
      k_is
    have b_any : nsIn (L2.KOf KX) mainGlobals "any" = some none := by
      dsimp only [L2.KOf]
      k_is
    have b_sorted : nsIn (L2.KOf KX) mainGlobals "sorted" = some none := by
      dsimp only [L2.KOf]
      k_is
    have b_list : nsIn (L2.KOf KX) mainGlobals "list" = some none := by
      dsimp only [L2.KOf]
      k_is
    have b_tuple : nsIn (L2.KOf KX) mainGlobals "tuple" = some none := by
      dsimp only [L2.KOf]
      k_is
    have b_range : nsIn (L2.KOf KX) mainGlobals "range" = some none := by
      dsimp only [L2.KOf]
      k_is
    have b_enumerate : nsIn (L2.KOf KX) mainGlobals "enumerate" = some none := by
      dsimp only [L2.KOf]
      k_is
    have g_OVER : ∃ t, nsIn (L2.KOf KX) mainGlobals "OVER" = some (some (.int (255) t)) := by
      dsimp only [L2.KOf]
      refine' Tk.int_mk ?a
      (case a => k_is)
    have g_FEWEST : ∃ t, nsIn (L2.KOf KX) mainGlobals "FEWEST_PARTIES" = some (some (.int (2) t)) := by
      dsimp only [L2.KOf]
      refine' Tk.int_mk ?a
      (case a => k_is)
    have g_MOSTP : ∃ t, nsIn (L2.KOf KX) mainGlobals "MOST_PARTIES" = some (some (.int (8) t)) := by
      dsimp only [L2.KOf]
      refine' Tk.int_mk ?a
      (case a => k_is)
    have g_NOTHING : ∃ t, nsIn (L2.KOf KX) mainGlobals "NOTHING" = some (some (.int (0) t)) := by
      dsimp only [L2.KOf]
      refine' Tk.int_mk ?a
      (case a => k_is)
    have g_SPEAKS : ∃ t, nsIn (L2.KOf KX) mainGlobals "SPEAKS" = some (some (.int (1) t)) := by
      dsimp only [L2.KOf]
      refine' Tk.int_mk ?a
      (case a => k_is)
    have g_LISTENS : ∃ t, nsIn (L2.KOf KX) mainGlobals "LISTENS" = some (some (.int (2) t)) := by
      dsimp only [L2.KOf]
      refine' Tk.int_mk ?a
      (case a => k_is)
    have g_MOSTW : ∃ t, nsIn (L2.KOf KX) mainGlobals "MOST_WORDS" = some (some (.int (16) t)) := by
      dsimp only [L2.KOf]
      refine' Tk.int_mk ?a
      (case a => k_is)
    have g_MOSTS : ∃ t, nsIn (L2.KOf KX) mainGlobals "MOST_STATES" = some (some (.int (64) t)) := by
      dsimp only [L2.KOf]
      refine' Tk.int_mk ?a
      (case a => k_is)
    have g_NOT_NOW : ∃ t, nsIn (L2.KOf KX) mainGlobals "NOT_NOW" = some (some (.int (-1) t)) := by
      dsimp only [L2.KOf]
      refine' Tk.int_mk ?a
      (case a => k_is)
    have g_NOTHING_CAME : ∃ t, nsIn (L2.KOf KX) mainGlobals "NOTHING_CAME" = some (some (.int (-11) t)) := by
      dsimp only [L2.KOf]
      refine' Tk.int_mk ?a
      (case a => k_is)
    have g_NOT_AS_TOLD : ∃ t, nsIn (L2.KOf KX) mainGlobals "NOT_AS_TOLD" = some (some (.int (-22) t)) := by
      dsimp only [L2.KOf]
      refine' Tk.int_mk ?a
      (case a => k_is)
    have g_NO_ROOM : ∃ t, nsIn (L2.KOf KX) mainGlobals "NO_ROOM" = some (some (.int (-28) t)) := by
      dsimp only [L2.KOf]
      refine' Tk.int_mk ?a
      (case a => k_is)
    have g_CANNOT : ∃ t, nsIn (L2.KOf KX) mainGlobals "CANNOT_BE_KEPT" = some (some (.int (-71) t)) := by
      dsimp only [L2.KOf]
      refine' Tk.int_mk ?a
      (case a => k_is)
    have g_NOT_ITS : ∃ t, nsIn (L2.KOf KX) mainGlobals "NOT_ITS_TURN" = some (some (.int (-71) t)) := by
      dsimp only [L2.KOf]
      refine' Tk.int_mk ?a
      (case a => k_is)
    have g_TOO_LARGE : ∃ t, nsIn (L2.KOf KX) mainGlobals "TOO_LARGE" = some (some (.int (-75) t)) := by
      dsimp only [L2.KOf]
      refine' Tk.int_mk ?a
      (case a => k_is)
    have g_LAST : ∃ t, nsIn (L2.KOf KX) mainGlobals "LAST_WORD" = some (some (.int (255) t)) := by
      dsimp only [L2.KOf]
      refine' Tk.int_mk ?a
      (case a => k_is)
    have g_MOSTK : ∃ t, nsIn (L2.KOf KX) mainGlobals "MOST_KEPT" = some (some (.int (64) t)) := by
      dsimp only [L2.KOf]
      refine' Tk.int_mk ?a
      (case a => k_is)
    have g_BEGIN : ∃ t, nsIn (L2.KOf KX) mainGlobals "BEGIN" = some (some (.int (0) t)) := by
      dsimp only [L2.KOf]
      refine' Tk.int_mk ?a
      (case a => k_is)
    have g_NOW : ∃ t, nsIn (L2.KOf KX) mainGlobals "NOW" = some (some (.int (1) t)) := by
      dsimp only [L2.KOf]
      refine' Tk.int_mk ?a
      (case a => k_is)
    have g_SAY : ∃ t, nsIn (L2.KOf KX) mainGlobals "SAY" = some (some (.int (2) t)) := by
      dsimp only [L2.KOf]
      refine' Tk.int_mk ?a
      (case a => k_is)
    have g_HEARD : ∃ t, nsIn (L2.KOf KX) mainGlobals "HEARD" = some (some (.int (3) t)) := by
      dsimp only [L2.KOf]
      refine' Tk.int_mk ?a
      (case a => k_is)
    have g_TAKE : ∃ t, nsIn (L2.KOf KX) mainGlobals "TAKE" = some (some (.int (4) t)) := by
      dsimp only [L2.KOf]
      refine' Tk.int_mk ?a
      (case a => k_is)
    exact Tk.all_ok KX G hmg cPlace cRow cPart cKeeper cReader eX f_words_of_row f_nexts_of_row f_are_two_parties f_are_ways f_is_script f_is_same_line f_is_same_speech f_is_end f_walk_from f_ends_of f_arrivals_of f_rows_of f_all_rows f_answer_of f_answers b_len b_set b_dict b_zip b_all b_any b_sorted b_list b_tuple b_range b_enumerate g_OVER g_FEWEST g_MOSTP g_NOTHING g_SPEAKS g_LISTENS g_MOSTW g_MOSTS g_NOT_NOW g_NOTHING_CAME g_NOT_AS_TOLD g_NO_ROOM g_CANNOT g_NOT_ITS g_TOO_LARGE g_LAST g_MOSTK g_BEGIN g_NOW g_SAY g_HEARD g_TAKE
  case S =>
    intro w H xs a hO hwi hask hx
    cases hx with
    | cons h1 h2 =>
      cases h2
      cases h1 with
      | lst hs ha =>
        have e := L2.ints_dw a.1 _ ha
        subst e
        have q : ((Codec.inLen 0 31000 a.1 && a.1.all (Codec.inInt 0 4294967295)) && true) = true := hwi
        rw [Bool.and_eq_true, Bool.and_eq_true] at q
        exact ⟨_, a.1, rfl, hs, (Codec.inNat_iff.mp q.1.1).2, hask, fun H' p hp => .lst (L2.SqL.of hp) (L2.dw_ints _)⟩
  case C =>
    intro w H s e s' h
    obtain ⟨a, cls, a0, H', B, _, _, _, _, _, q⟩ := h
    exact q
