import PyProof.Rows.All
import Wide.All
import OpenK.AllK
import Wide.FinOn
import Lean
import PyProof.EqAt
import PyProof.EqKinds
import PyProof.TupleCall
import PyProof.StrLawsTight
import PyProof.FitsReplace
import KE.KSortTup
import PyProof.TupleKey
import PyProof.SetKind
import PyProof.IsRules
import PyProof.Rows.SetFrom
import PyProof.CollectWalk
import PyProof.DictUpdate
import PyProof.AutoListH
import PyProof.SeqI3
import PyProof.EnumStmt
import PyProof.EnumMake
import PyProof.Rows.CallKwBuiltin
import PyProof.NeKinds
import PyProof.StationsW
import PyProof.ExcClass3
import PyProof.PassesOwn
import OpenK.KOwn
import PyProof.RulesAs
import PyProof.RulesDel
import KE.KIsAll
import PyProof.ExcArgsOwn
import PyProof.StrLawsIn
import PyProof.Rows.Range3
import PyProof.Rows.FStr
import PyProof.DictItems
import PyProof.AttrMissHeap
import PyProof.ListCopy
import KE.KDictOf
import KE.KDictSum
import PyProof.Rows.SortRev
import PyProof.Rows.IntMath
import PySem.Challenge.RW_levelbench_k73_whole_broken_off
set_option Elab.async false
set_option linter.all false
set_option maxRecDepth 100000
namespace L2
open PySem PySem.Spec PyProof.Rows
abbrev Key := Sum Int Str
def keyIs : Key → Value → Bool
  | .inl k, v => Value.isInt k v
  | .inr x, v => Value.isStrOf x v
def keyH (w : World) : Key → Int
  | .inl k => hashInt k
  | .inr x => hashStr w x
theorem keyIs_shape : ∀ {k : Key} {v : Value}, keyIs k v = true → (∃ i t, k = Sum.inl i ∧ v = Value.int i t) ∨ (∃ x t, k = Sum.inr x ∧ v = Value.str x t)
  | .inl i, v, h => by
    obtain ⟨t, e⟩ := Value.isInt_shape (k := i) (v := v) h
    exact .inl ⟨i, t, rfl, e⟩
  | .inr x, v, h => by
    obtain ⟨t, e⟩ := Value.isStrOf_shape (x := x) (v := v) h
    exact .inr ⟨x, t, rfl, e⟩
theorem keyIs_int (i : Int) (t : Tok) : keyIs (.inl i) (.int i t) = true := by simp [keyIs, Value.isInt]
theorem keyIs_str (x : Str) (t : Tok) : keyIs (.inr x) (.str x t) = true := by simp [keyIs, Value.isStrOf]
theorem key_ll (a b : Int) : decide ((Sum.inl a : Key) = Sum.inl b) = (a == b) := by
  by_cases e : a = b
  · subst e; simp
  · have h : ¬ (Sum.inl a : Key) = Sum.inl b := fun q => e (Sum.inl.inj q)
    rw [decide_eq_false h]
    exact (beq_eq_false_iff_ne.mpr e).symm
theorem key_rr (a b : Str) : decide ((Sum.inr a : Key) = Sum.inr b) = decide (a = b) := by
  by_cases e : a = b
  · subst e; simp
  · have h : ¬ (Sum.inr a : Key) = Sum.inr b := fun q => e (Sum.inr.inj q)
    rw [decide_eq_false h, decide_eq_false e]
theorem key_lr (a : Int) (b : Str) : decide ((Sum.inl a : Key) = Sum.inr b) = false := decide_eq_false (fun q => nomatch q)
theorem key_rl (a : Str) (b : Int) : decide ((Sum.inr a : Key) = Sum.inl b) = false := decide_eq_false (fun q => nomatch q)
def mixKind (prog : Program) (w : World) : PySem.KeyKind prog w Key where
  is := keyIs
  hash := keyH w
  inj := fun v a b ha hb => by
    rcases keyIs_shape ha with ⟨i, t, rfl, rfl⟩ | ⟨x, t, rfl, rfl⟩
    · rcases keyIs_shape hb with ⟨j, u, rfl, e⟩ | ⟨y, u, rfl, e⟩
      · injection e with e1 _; rw [e1]
      · exact nomatch e
    · rcases keyIs_shape hb with ⟨j, u, rfl, e⟩ | ⟨y, u, rfl, e⟩
      · exact nomatch e
      · injection e with e1 _; rw [e1]
  byValue := fun k v h => by
    rcases keyIs_shape h with ⟨i, t, rfl, rfl⟩ | ⟨x, t, rfl, rfl⟩ <;> rfl
  pyHash := fun hv h => by
    rcases keyIs_shape hv with ⟨i, t, rfl, rfl⟩ | ⟨x, t, rfl, rfl⟩
    · exact wpAny_pyHash_int h
    · exact wpAny_pyHash_str h
  eqBool := fun hu hv h => by
    rcases keyIs_shape hu with ⟨i, t, rfl, rfl⟩ | ⟨x, t, rfl, rfl⟩
    · rcases keyIs_shape hv with ⟨j, u, rfl, rfl⟩ | ⟨y, u, rfl, rfl⟩
      · rw [key_ll] at h; exact wpAny_eqBool_int h
      · rw [key_lr] at h; exact SeqAt.EqAt.int_str i t y u _ _ _ _ h
    · rcases keyIs_shape hv with ⟨j, u, rfl, rfl⟩ | ⟨y, u, rfl, rfl⟩
      · rw [key_rl] at h; exact SeqAt.EqAt.str_int x t j u _ _ _ _ h
      · rw [key_rr] at h; exact wpAny_eqBool_str h
  «strs» := fun k x t v h => by
    rcases keyIs_shape h with ⟨i, u, rfl, e⟩ | ⟨y, u, rfl, e⟩
    · exact nomatch e
    · injection e with e1 _
      subst e1
      cases v <;> rfl
theorem mixKind_int (prog : Program) (w : World) (i : Int) (t : Tok) : (mixKind prog w).is (.inl i) (.int i t) = true := keyIs_int i t
theorem mixKind_str (prog : Program) (w : World) (x : Str) (t : Tok) : (mixKind prog w).is (.inr x) (.str x t) = true := keyIs_str x t
end L2
namespace L2
open PySem PySem.Spec PyProof.Rows
inductive V where
  | non | bl (b : Bool) | int (i : Int) | str (x : Str) | byt (b : Array UInt8) | flt (b : UInt64) | ref (a : Addr) | ty (n : String)
  deriving DecidableEq
def RelV : V → Value → Prop
  | .non, u => u = Value.none
  | .bl b, u => u = Value.bool b
  | .int i, u => ∃ t, u = Value.int i t
  | .str x, u => ∃ t, u = Value.str x t
  | .byt b, u => ∃ t, u = Value.bytes b t
  | .flt b, u => ∃ t, u = Value.float b t
  | .ref a, u => u = Value.ref a
  | .ty n, u => u = Value.type n
abbrev Vals : List V → List Value → Prop := Paired RelV
theorem Vals.length {xs : List V} {us : List Value} (r : Vals xs us) : xs.length = us.length := Paired.length r
theorem Vals.get : ∀ {xs : List V} {us : List Value} {i : Nat} {x : V}, Vals xs us → xs[i]? = some x → ∃ u, us[i]? = some u ∧ RelV x u
  | _, _, _, _, .nil, e => by simp at e
  | _, _, 0, _, .cons r _, e => by simp at e; subst e; exact ⟨_, rfl, r⟩
  | _, _, i + 1, x, .cons _ t, e => by
    obtain ⟨u, h1, h2⟩ := Vals.get (i := i) (x := x) t (by simpa using e)
    exact ⟨u, by simpa using h1, h2⟩
theorem Vals.set {x : V} {u : Value} (r : RelV x u) : ∀ {xs : List V} {us : List Value} (i : Nat), Vals xs us → Vals (xs.set i x) (us.set i u)
  | _, _, _, .nil => .nil
  | _, _, 0, .cons _ t => .cons r t
  | _, _, i + 1, .cons q t => .cons q (Vals.set r i t)
theorem Vals.append : ∀ {xs ys : List V} {us ws : List Value}, Vals xs us → Vals ys ws → Vals (xs ++ ys) (us ++ ws)
  | _, _, _, _, .nil, s => s
  | _, _, _, _, .cons r t, s => .cons r (Vals.append t s)
theorem Vals.take : ∀ {xs : List V} {us : List Value} (n : Nat), Vals xs us → Vals (xs.take n) (us.take n)
  | _, _, 0, _ => .nil
  | _, _, _ + 1, .nil => .nil
  | _, _, n + 1, .cons r t => .cons r (Vals.take n t)
theorem Vals.drop : ∀ {xs : List V} {us : List Value} (n : Nat), Vals xs us → Vals (xs.drop n) (us.drop n)
  | _, _, 0, r => r
  | _, _, _ + 1, .nil => .nil
  | _, _, n + 1, .cons _ t => Vals.drop n t
def RelO : Option V → Option Value → Prop
  | some v, some u => RelV v u
  | none, none => True
  | _, _ => False
def KV {κ : Type} : List (κ × V) → List (κ × Value) → Prop := Paired fun (p : κ × V) (q : κ × Value) => p.1 = q.1 ∧ RelV p.2 q.2
def kV : Key → V
  | .inl i => .int i
  | .inr x => .str x
inductive HO where
  | lst (xs : List V)
  | tup (xs : List V)
  | dK (kvs : List (Key × V)) | dT (kvs : List (List Key × V))
  | set (S : Int → Bool) (n : Nat)
  | ins (C dx : Addr) (fs : List (Str × V))
  | own (x : Addr)
  | xd (fs : List (Str × V))
  | met (f x : Addr)
  | rng (lo hi : Int)
  | frz (o : Obj) (u : HO)
  | tbl (ps : Array Value)
  | ext (φ : Heap → Prop)
abbrev Hp := Addr → Option HO
def upd (H : Hp) (a : Addr) (o : HO) : Hp := fun b => if b = a then some o else H b
theorem upd_same {H : Hp} {a : Addr} {o : HO} : upd H a o a = some o := by unfold upd; rw [if_pos rfl]
theorem upd_ne {H : Hp} {a b : Addr} {o : HO} (h : b ≠ a) : upd H a o b = H b := by unfold upd; rw [if_neg h]
theorem upd_upd {H : Hp} {a : Addr} {o u : HO} : upd (upd H a o) a u = upd H a u := by
  funext b; unfold upd; split <;> rfl
theorem ne_of {H : Hp} {a b : Addr} {o u : HO} (h : H a = some o) (h' : H b = some u) (d : o ≠ u) : a ≠ b := by
  intro e; subst e; rw [h] at h'; exact d (Option.some.inj h')
theorem ne_of_none {H : Hp} {a b : Addr} {o : HO} (h : H a = some o) (h' : H b = none) : a ≠ b := by
  intro e; subst e; rw [h] at h'; cases h'
section
variable (P : Program) (w : World)
def ObjOk (H : Hp) (h : Heap) (a : Addr) : HO → Prop
  | .lst xs => xs.length ≤ sizeLine ∧ ∃ (its : List Value) (n : Nat), Vals xs its ∧ h.get? a = some { cls := .type "list", data := .seq its.toArray n }
  | .tup xs => xs.length ≤ sizeLine ∧ ∃ its : List Value, Vals xs its ∧ IsTup h a its.toArray
  | .dK kvs => kvs.length ≤ sizeLine ∧ (a == sysModules) = false ∧ ∃ vs, KV kvs vs ∧ h.DictOf (mixKind P w) a vs
  | .dT kvs => kvs.length ≤ sizeLine ∧ (a == sysModules) = false ∧ ∃ xs : List (List Key × Addr × Value),
      Paired (fun (p : List Key × V) (q : List Key × Addr × Value) => p.1 = q.1 ∧ H q.2.1 = some (.tup (p.1.map kV)) ∧ RelV p.2 q.2.2) kvs xs ∧
      ∃ o es ep, h.get? a = some o ∧ o.ExactDict ∧ o.data = .dict es ep ∧ es.toList = xs.map (entryOfKey (tupleKind (mixKind P w))) ∧ (xs.map (·.1)).Nodup
  | .set S n => h.SetOf (intKind P w) a S n
  | .ins C dx fs => H dx = some (.own a) ∧ fs.length ≤ 1000 ∧ dx ≠ a ∧ h.get? a = some (PySem.W.instObj C dx) ∧
      ∃ mA, h.Ns1 dx mA ∧ (∀ f, RelO (fs.lookup f) (mA f)) ∧ PySem.Within mA (fs.map (·.1))
  | .own _ => ∃ o, h.get? a = some o
  | .xd fs => ∃ mA, h.Ns1 a mA ∧ ∀ f, RelO (fs.lookup f) (mA f)
  | .rng lo hi => ∃ t u v, h.get? a = some { cls := .type "range", data := .fields #[.int lo t, .int hi u, .int 1 v] }
  | .frz o u => h.get? a = some o ∧ ObjOk H h a u
  | .tbl ps => h.get? a = some { cls := .none, data := .fields ps }
  | .met f x => h.get? a = some (PySem.W.methodObj (.ref f) (.ref x))
  | .ext φ => φ h ∧ (∃ o, h.get? a = some o) ∧ ∀ h1 h2 : Heap, φ h1 → (∀ o, h1.get? a = some o → h2.get? a = some o) → φ h2
def HOk (H : Hp) (h : Heap) : Prop := ∀ a o, H a = some o → ObjOk P w H h a o
end
section
variable {P : Program} {w : World} {H H' : Hp} {h h' : Heap} {a : Addr} {o : HO}
theorem ObjOk.lt (x : ObjOk P w H h a o) : a < h.objs.size := by
  cases o with
  | lst xs => obtain ⟨_, _, _, _, e⟩ := x; exact Heap.lt_size e
  | tup xs => obtain ⟨_, _, _, p⟩ := x; exact p.lt
  | dK kvs => obtain ⟨_, _, _, _, o, _, _, e, _⟩ := x; exact Heap.lt_size e
  | dT kvs => obtain ⟨_, _, _, _, o, _, _, e, _⟩ := x; exact Heap.lt_size e
  | set S n => obtain ⟨o, _, _, _, e, _⟩ := x; exact Heap.lt_size e
  | ins C dx fs => obtain ⟨_, _, _, e, _⟩ := x; exact Heap.lt_size e
  | own y => obtain ⟨_, e⟩ := x; exact Heap.lt_size e
  | xd fs => obtain ⟨_, ⟨_, _, _, e, _⟩, _⟩ := x; exact Heap.lt_size e
  | rng lo hi => obtain ⟨_, _, _, e⟩ := x; exact Heap.lt_size e
  | frz ob u => obtain ⟨e, _⟩ := x; exact Heap.lt_size e
  | tbl ps => exact Heap.lt_size (show h.get? a = some _ from x)
  | met f y => exact Heap.lt_size (show h.get? a = some _ from x)
  | ext φ => obtain ⟨_, ⟨_, e⟩, _⟩ := x; exact Heap.lt_size e
theorem Paired.mapP {α β : Type} {F G : α → β → Prop} : ∀ {l₁ : List α} {l₂ : List β}, Paired F l₁ l₂ → (∀ a b, F a b → G a b) → Paired G l₁ l₂
  | _, _, .nil, _ => .nil
  | _, _, .cons r t, f => .cons (f _ _ r) (Paired.mapP t f)
theorem ObjOk.stay (x : ObjOk P w H h a o) (k : ∀ b u, (b = a ∨ H b = some (.own a)) → h.get? b = some u → h'.get? b = some u)
    (ho : ∀ b, H b = some (.own a) → H' b = some (.own a)) (ht : ∀ b xs, H b = some (.tup xs) → H' b = some (.tup xs)) : ObjOk P w H' h' a o := by
  induction o with
  | lst xs => obtain ⟨z, its, n, r, e⟩ := x; exact ⟨z, its, n, r, k _ _ (.inl rfl) e⟩
  | tup xs => obtain ⟨z, its, r, ob, e, c⟩ := x; exact ⟨z, its, r, ob, k _ _ (.inl rfl) e, c⟩
  | dK kvs => obtain ⟨z, y, vs, r, ob, es, ep, e, c⟩ := x; exact ⟨z, y, vs, r, ob, es, ep, k _ _ (.inl rfl) e, c⟩
  | dT kvs =>
    obtain ⟨z, y, xs, r, ob, es, ep, e, c⟩ := x
    exact ⟨z, y, xs, Paired.mapP r fun p q z => ⟨z.1, ht _ _ z.2.1, z.2.2⟩, ob, es, ep, k _ _ (.inl rfl) e, c⟩
  | set S n => obtain ⟨ob, es, ep, t, e, c⟩ := x; exact ⟨ob, es, ep, t, k _ _ (.inl rfl) e, c⟩
  | ins C dx fs =>
    obtain ⟨d, z, ne, e, mA, ⟨od, es, ep, e2, c⟩, r⟩ := x
    exact ⟨ho _ d, z, ne, k _ _ (.inl rfl) e, mA, ⟨od, es, ep, k _ _ (.inr d) e2, c⟩, r⟩
  | own y => obtain ⟨ob, e⟩ := x; exact ⟨ob, k _ _ (.inl rfl) e⟩
  | xd fs => obtain ⟨mA, ⟨od, es, ep, e, c⟩, r⟩ := x; exact ⟨mA, ⟨od, es, ep, k _ _ (.inl rfl) e, c⟩, r⟩
  | rng lo hi => obtain ⟨t, u, v, e⟩ := x; exact ⟨t, u, v, k _ _ (.inl rfl) e⟩
  | frz ob u ih => obtain ⟨e, q⟩ := x; exact ⟨k _ _ (.inl rfl) e, ih q⟩
  | tbl ps =>
    have e : h.get? a = some { cls := .none, data := .fields ps } := x
    show h'.get? a = some { cls := .none, data := .fields ps }
    exact k a _ (.inl rfl) e
  | met f y =>
    have e : h.get? a = some (PySem.W.methodObj (.ref f) (.ref y)) := x
    show h'.get? a = some (PySem.W.methodObj (.ref f) (.ref y))
    exact k a _ (.inl rfl) e
  | ext φ => obtain ⟨p, ⟨o, e⟩, st⟩ := x; exact ⟨st _ _ p fun o q => k _ _ (.inl rfl) q, ⟨o, k _ _ (.inl rfl) e⟩, st⟩
theorem HOk.lt (x : HOk P w H h) (e : H a = some o) : a < h.objs.size := (x a o e).lt
theorem HOk.fresh (x : HOk P w H h) (e : h.objs.size ≤ a) : H a = none := by
  cases q : H a with
  | none => rfl
  | some u => exact absurd (Nat.lt_of_lt_of_le (x.lt q) e) (Nat.lt_irrefl _)
theorem HOk.kept (x : HOk P w H h) (k : ∀ b u, h.get? b = some u → h'.get? b = some u) : HOk P w H h' := fun a o e =>
  (x a o e).stay (fun b u _ q => k b u q) (fun _ q => q) fun _ _ q => q
theorem HOk.laid (x : HOk P w H h) (k : ∀ b u, h.get? b = some u → h'.get? b = some u) (hp : h.objs.size ≤ a) (new : ObjOk P w (upd H a o) h' a o) : HOk P w (upd H a o) h' := fun b u e => by
  have hn := x.fresh hp
  by_cases hb : b = a
  · subst hb; rw [upd_same] at e; cases e; exact new
  · rw [upd_ne hb] at e
    exact (x b u e).stay (fun c v _ q => k c v q) (fun c q => by rw [upd_ne (ne_of_none q hn)]; exact q) fun c xs q => by rw [upd_ne (ne_of_none q hn)]; exact q
end
def Rd (H : Hp) (a : Addr) (u : HO) : Prop := H a = some u ∨ ∃ o, H a = some (.frz o u)
theorem Rd.ok {P : Program} {w : World} {H : Hp} {h : Heap} {a : Addr} {u : HO} (r : Rd H a u) (x : HOk P w H h) : ObjOk P w H h a u := by
  rcases r with r | ⟨o, r⟩
  · exact x a u r
  · obtain ⟨_, q⟩ := x a _ r
    exact q
def Mut : Option HO → Prop
  | some (.lst _) => True
  | some (.dK _) => True
  | some (.dT _) => True
  | some (.set _ _) => True
  | some (.ins _ _ _) => True
  | some (.ext _) => True
  | _ => False
section
variable {P : Program} {w : World} {H : Hp} {h h' : Heap} {x e : Addr} {o' : HO}
theorem HOk.write (ok : HOk P w H h) (mu : Mut (H x)) (he : e = x ∨ H e = some (.own x)) (k : ∀ b u, b ≠ e → h.get? b = some u → h'.get? b = some u) (heo : ∃ u, h'.get? e = some u)
    (new : ObjOk P w (upd H x o') h' x o') : HOk P w (upd H x o') h' := fun b u q => by
  have nown : ∀ c y, H c = some (.own y) → c ≠ x := fun c y r z => by subst z; rw [r] at mu; exact mu
  have ntup : ∀ c xs, H c = some (.tup xs) → c ≠ x := fun c xs r z => by subst z; rw [r] at mu; exact mu
  by_cases hb : b = x
  · subst hb; rw [upd_same] at q; cases q; exact new
  · rw [upd_ne hb] at q
    by_cases hbe : b = e
    · have q' : H b = some (.own x) := by
        rcases he with z | z
        · exact absurd (hbe.trans z) hb
        · rw [hbe]; exact z
      rw [q] at q'; cases q'
      obtain ⟨v, hv⟩ := heo
      exact ⟨v, by rw [hbe]; exact hv⟩
    · refine (ok b u q).stay (fun c v hc r => k c v ?_ r) (fun c r => by rw [upd_ne (nown c b r)]; exact r) fun c xs r => by rw [upd_ne (ntup c xs r)]; exact r
      rcases hc with rfl | hc
      · exact hbe
      · rintro rfl
        rcases he with z | z
        · exact nown c b hc z
        · rw [hc] at z; cases z; exact hb rfl
end
structure Un (fs ex : List Addr) (H H' : Hp) (h h' : Heap) : Prop where
  keep : ∀ b o, h.get? b = some o → H b = none → b ∉ fs → b ∉ ex → h'.get? b = some o
  slot : ∀ b o, h.get? b = some o → H b = none → b ∈ fs → b ∉ ex → ∃ sl, h'.get? b = some { o with slots := sl }
  free : ∀ b o, h.get? b = some o → H b = none → b ∉ ex → H' b = none
  there : ∀ b o, h.get? b = some o → b ∉ ex → ∃ o', h'.get? b = some o'
  tups : ∀ b xs, H b = some (.tup xs) → H' b = some (.tup xs)
  frzs : ∀ b o u, H b = some (.frz o u) → H' b = some (.frz o u)
  tbls : ∀ b ps, H b = some (.tbl ps) → ∃ more, H' b = some (.tbl (ps ++ more))
section
variable {fs fs' ex ex' : List Addr} {H H1 H2 : Hp} {h h1 h2 h' : Heap} {a x e : Addr} {o : HO}
theorem Un.any (u : Un fs ex H H1 h h1) {b : Addr} {ob : Obj} (q : h.get? b = some ob) (n : H b = none) (hx : b ∉ ex) : ∃ sl, h1.get? b = some { ob with slots := sl } := by
  by_cases hb : b ∈ fs
  · exact u.slot b ob q n hb hx
  · exact ⟨ob.slots, u.keep b ob q n hb hx⟩
theorem Un.kept (k : ∀ b u, h.get? b = some u → h'.get? b = some u) : Un fs ex H H h h' :=
  ⟨fun b ob q _ _ _ => k b ob q, fun b ob q _ _ _ => ⟨ob.slots, k b ob q⟩, fun _ _ _ n _ => n, fun b ob q _ => ⟨ob, k b ob q⟩, fun _ _ q => q, fun _ _ _ q => q, fun _ ps q => ⟨#[], by rw [q]; simp⟩⟩
theorem Un.refl : Un fs ex H H h h := Un.kept fun _ _ q => q
theorem Un.laid (k : ∀ b u, h.get? b = some u → h'.get? b = some u) (hp : h.objs.size ≤ a) (hn : H a = none) : Un fs ex H (upd H a o) h h' where
  keep := fun b u q _ _ _ => k b u q
  slot := fun b u q _ _ _ => ⟨u.slots, k b u q⟩
  free := fun b u q n _ => by rw [upd_ne (Nat.ne_of_lt (Nat.lt_of_lt_of_le (Heap.lt_size q) hp))]; exact n
  there := fun b u q _ => ⟨u, k b u q⟩
  tups := fun b xs q => by rw [upd_ne (ne_of_none q hn)]; exact q
  frzs := fun b u xs q => by rw [upd_ne (ne_of_none q hn)]; exact q
  tbls := fun b ps q => ⟨#[], by rw [upd_ne (ne_of_none q hn), q]; simp⟩
theorem Un.write (mu : Mut (H x)) (he : e = x ∨ H e = some (.own x)) (k : ∀ b u, b ≠ e → h.get? b = some u → h'.get? b = some u) (heo : ∃ u, h'.get? e = some u) : Un fs ex H (upd H x o) h h' := by
  have hx : ∀ b, H b = none → b ≠ x := fun b n z => by subst z; rw [n] at mu; exact mu
  have hb : ∀ b, H b = none → b ≠ e := fun b n z => by
    subst z
    rcases he with r | r
    · exact hx b n r
    · rw [n] at r; cases r
  have hm : ∀ b u, H b = some u → ¬ Mut (some u) → b ≠ x := fun b u q nm z => by subst z; rw [q] at mu; exact nm mu
  refine ⟨fun b u q n _ _ => k b u (hb b n) q, fun b u q n _ _ => ⟨u.slots, k b u (hb b n) q⟩, fun b u q n _ => by rw [upd_ne (hx b n)]; exact n, fun b u q _ => ?_,
    fun b xs q => by rw [upd_ne (hm b _ q fun z => z)]; exact q, fun b u xs q => by rw [upd_ne (hm b _ q fun z => z)]; exact q, fun b ps q => ⟨#[], by rw [upd_ne (hm b _ q fun z => z), q]; simp⟩⟩
  by_cases hbe : b = e
  · subst hbe; exact heo
  · exact ⟨u, k b u hbe q⟩
end
def trk (h : Heap) (H : Hp) : List Addr := (List.range h.objs.size).filter fun a => (H a).isSome
def hidT (h : Heap) (H : Hp) : Heap := PySem.W.hideAll h (trk h H)
theorem hidT_size (h : Heap) (H : Hp) : (hidT h H).objs.size = h.objs.size := PySem.W.hideAll_size _ _
theorem hidT_get {h : Heap} {H : Hp} {b : Addr} {o : Obj} (e : h.get? b = some o) (n : H b = none) : (hidT h H).get? b = some o :=
  PySem.W.hideAll_get _ e fun hm => by
    have q : (H b).isSome = true := (List.mem_filter.mp hm).2
    rw [n] at q; simp at q
theorem of_hidT {h : Heap} {H : Hp} {b : Addr} {o : Obj} (e : (hidT h H).get? b = some o) : h.get? b = some o ∧ H b = none := by
  have e' : h.get? b = some o := PySem.W.of_hideAll (trk h H) e
  refine ⟨e', ?_⟩
  cases q : H b with
  | none => rfl
  | some x =>
    have hm : b ∈ trk h H := List.mem_filter.mpr ⟨List.mem_range.mpr (Heap.lt_size e'), by simp [q]⟩
    have z : (hidT h H).get? b = none := PySem.W.hideAll_none (trk h H) hm
    rw [z] at e; cases e
end L2
namespace L2
open PySem PySem.Spec PyProof.Rows
structure Mod (K : PySem.W.Frag) (mg : Str → Option Value) (base : Heap) : Prop where
  kin : K.In base
  glob : base.Ns mainGlobals mg
  blt : ∃ mb, base.Ns builtinsNs mb ∧ ∀ x : Str, x ≠ "__name__" → mb x = bootBuiltins x
  nolimit : base.NoLimit
structure Cx where
  prog : Program
  w : World
  K : PySem.W.Frag
  mg : Str → Option Value
  base : Heap
  A : Around
  N : List Str
  s₀ : Shared
  H₀ : Hp
  env : Env
  outer : List Env
  stack : List Env
  ex : List Addr
  fn : Str → Bool
  calm : Bool
  pn : List (Addr × Obj)
  xe : Value → Shared → Prop
def frs (l : List Env) : List Addr := l.filterMap (·.frame)
abbrev Cx.fs (X : Cx) : List Addr := frs X.outer
def Vis (sc : Scope) (x : Str) : Prop := sc.names.lookup x = some .local ∨ sc.names.lookup x = some .cell ∨ sc.names.lookup x = some .free
def Loc (sc : Scope) (x : Str) : Prop := sc.names.lookup x = some .local ∨ sc.names.lookup x = some .cell
def Look (env : Env) (h : Heap) (m : Str → Option Value) (x : Str) (u : Value) : Prop :=
  (env.kindOf x = some .local ∧ m x = some u) ∨ ((env.kindOf x = some .cell ∨ env.kindOf x = some .free) ∧ ∃ c, env.cells.lookup x = some c ∧ h.IsCell c (some u))
structure Cx.Ok (X : Cx) : Prop where
  mod : Mod X.K X.mg X.base
  kind : X.env.scope.kind = .function
  glob : X.env.globals = mainGlobals
  blt : X.env.builtins = builtinsNs
  above : X.s₀.heap.objs.size ≤ X.env.locals
  inj : ∀ x y c, X.env.cells.lookup x = some c → X.env.cells.lookup y = some c → x = y
  has : ∀ x, (X.env.kindOf x = some .cell ∨ X.env.kindOf x = some .free) → ∃ c, X.env.cells.lookup x = some c
  cab : ∀ x c, X.fn x = true → X.env.cells.lookup x = some c → X.s₀.heap.objs.size ≤ c
  hd : X.calm = true → X.A.handled = none
  frames : X.A.frames = some X.stack
  stk : X.stack = X.outer ∨ (X.stack = X.env :: X.outer ∧ X.env.frame = some X.env.locals)
  exf : ∀ b ∈ X.ex, b ≠ X.env.locals ∧ ∀ x c, X.env.cells.lookup x = some c → c ≠ b
  bs : ∀ b o, X.base.get? b = some o → X.s₀.heap.get? b = some o ∧ X.H₀ b = none
  bsz : X.base.objs.size ≤ X.s₀.heap.objs.size
  noex : ∀ b o, X.base.get? b = some o → b ∉ X.ex
  exfs : ∀ b ∈ X.ex, b ∉ X.fs
  funs : X.s₀.heap.FunFrames X.base X.outer
  frf : ∀ b ∈ X.fs, X.H₀ b = none
structure Inv (X : Cx) (pins : List (Addr × Obj)) (σ : List (Option V)) (H : Hp) (s : Shared) : Prop where
  ok : X.Ok
  os : s.os = X.s₀.os
  bare : AllBare s.gens
  base : Un X.fs X.ex X.H₀ H X.s₀.heap s.heap
  loc : ∃ m, s.heap.Ns X.env.locals m ∧ ∀ (i : Nat) (x : Str) (v : V), X.N[i]? = some x → σ[i]? = some (some v) → Vis X.env.scope x → ∃ u, RelV v u ∧ Look X.env s.heap m x u
  cell : ∀ x c, X.env.cells.lookup x = some c → ∃ v, s.heap.IsCell c v
  free : H X.env.locals = none
  freeC : ∀ x c, X.env.cells.lookup x = some c → H c = none
  pin : ∀ p ∈ X.pn ++ pins, s.heap.get? p.1 = some p.2 ∧ H p.1 = none ∧ p.1 ≠ X.env.locals ∧ p.1 ∉ X.fs ∧ ∀ v, p.2.data ≠ .cell v
  hok : HOk X.prog X.w H s.heap
  len : σ.length = X.N.length
section
variable {X : Cx} {pins : List (Addr × Obj)} {σ : List (Option V)} {H H' : Hp} {s : Shared} {h' : Heap}
theorem Cx.Ok.nofr (ok : X.Ok) {b : Addr} {o : Obj} (e : X.base.get? b = some o) : b ∉ X.fs := fun hb => by
  have := (ok.funs.mem hb).1
  rw [e] at this; cases this
theorem Inv.bs (I : Inv X pins σ H s) : ∀ b o, X.base.get? b = some o → s.heap.get? b = some o ∧ H b = none := fun b o e =>
  ⟨I.base.keep b o (I.ok.bs b o e).1 (I.ok.bs b o e).2 (I.ok.nofr e) (I.ok.noex b o e), I.base.free b o (I.ok.bs b o e).1 (I.ok.bs b o e).2 (I.ok.noex b o e)⟩
theorem Inv.bk (I : Inv X pins σ H s) : ∀ b o, X.base.get? b = some o → s.heap.get? b = some o := fun b o e => (I.bs b o e).1
theorem Inv.mod (I : Inv X pins σ H s) : Mod X.K X.mg X.base := I.ok.mod
theorem Inv.kIn (I : Inv X pins σ H s) : X.K.In s.heap := I.ok.mod.kin.keeps I.bk
theorem Inv.lt (I : Inv X pins σ H s) : X.env.locals < s.heap.objs.size := let ⟨_, hn, _⟩ := I.loc; hn.lt
theorem Inv.sz (I : Inv X pins σ H s) : X.s₀.heap.objs.size ≤ s.heap.objs.size := Nat.le_trans I.ok.above (Nat.le_of_lt I.lt)
theorem Inv.nofs (I : Inv X pins σ H s) {a : Addr} (h : s.heap.objs.size ≤ a) : a ∉ X.fs := fun hb => by
  obtain ⟨_, o, ho, _⟩ := I.ok.funs.mem hb
  exact absurd (Nat.lt_of_lt_of_le (Heap.lt_size ho) (Nat.le_trans I.sz h)) (Nat.lt_irrefl _)
theorem Inv.cne (I : Inv X pins σ H s) : ∀ x c, X.env.cells.lookup x = some c → c ≠ X.env.locals := fun x c e z => by
  obtain ⟨v, o, ho, hd⟩ := I.cell x c e
  obtain ⟨m, ⟨o', es, ep, ho', hd', _⟩, _⟩ := I.loc
  rw [z, ho'] at ho; cases ho; rw [hd'] at hd; cases hd
theorem Inv.funs (I : Inv X pins σ H s) : s.heap.FunFrames X.base X.outer := by
  have all : ∀ (l : List Env), (∀ b ∈ frs l, b ∈ X.fs) → X.s₀.heap.FunFrames X.base l → s.heap.FunFrames X.base l := by
    intro l
    induction l with
    | nil => intro _ _; trivial
    | cons env r ih =>
      intro hs hl
      obtain ⟨hk, ⟨L, o, hf, hn, ho, hd⟩, hr⟩ := hl
      have hL : L ∈ X.fs := hs L (by unfold frs; rw [List.filterMap_cons, hf]; exact List.mem_cons_self)
      obtain ⟨sl, e⟩ := I.base.slot L o ho (I.ok.frf L hL) hL fun z => I.ok.exfs L z hL
      exact ⟨hk, ⟨L, _, hf, hn, e, hd⟩, ih (fun b hb => hs b (by unfold frs; rw [List.filterMap_cons, hf]; exact List.mem_cons_of_mem _ hb)) hr⟩
  exact all X.outer (fun _ hb => hb) I.ok.funs
theorem Inv.stack (I : Inv X pins σ H s) : s.heap.FunFrames X.base X.stack := by
  rcases I.ok.stk with e | ⟨e, hf⟩
  · rw [e]; exact I.funs
  · rw [e]
    obtain ⟨m, hn, _⟩ := I.loc
    refine .cons (by rw [I.ok.kind]; decide) hf hn ?_ I.funs
    exact Heap.get?_none_of_le (Nat.le_trans I.ok.bsz I.ok.above)
theorem Inv.stkSub (I : Inv X pins σ H s) : ∀ b ∈ frs X.stack, b ∈ X.env.locals :: X.fs := fun b hb => by
  rcases I.ok.stk with e | ⟨e, hf⟩
  · rw [e] at hb; exact List.mem_cons_of_mem _ hb
  · rw [e] at hb
    unfold frs at hb
    rw [List.filterMap_cons, hf] at hb
    exact hb
theorem Inv.stkFree (I : Inv X pins σ H s) : ∀ b ∈ frs X.stack, H b = none := fun b hb => by
  rcases List.mem_cons.mp (I.stkSub b hb) with e | hb
  · rw [e]; exact I.free
  · obtain ⟨_, o, ho, _⟩ := I.ok.funs.mem hb
    exact I.base.free b o ho (I.ok.frf b hb) fun z => I.ok.exfs b z hb
theorem Inv.step {g' : Array GenState} {t' : Nat} {d' : Drawn} {ch : List Addr} (I : Inv X pins σ H s)
    (hch : ∀ b ∈ ch, (b ∈ X.ex ∨ X.s₀.heap.objs.size ≤ b) ∧ b ≠ X.env.locals ∧ (∀ x c, X.env.cells.lookup x = some c → c ≠ b) ∧ ∀ p ∈ X.pn ++ pins, p.1 ≠ b)
    (keep : ∀ b o, b ≠ X.env.locals → b ∉ X.fs → b ∉ ch → s.heap.get? b = some o → H b = none → h'.get? b = some o)
    (slot : ∀ b o, b ≠ X.env.locals → b ∈ X.fs → b ∉ ch → s.heap.get? b = some o → H b = none → ∃ sl, h'.get? b = some { o with slots := sl }) (free : ∀ b o, b ∉ ch → s.heap.get? b = some o → H b = none → H' b = none)
    (there : ∀ b o, b ∉ ch → s.heap.get? b = some o → ∃ o', h'.get? b = some o')
    (tups : ∀ b xs, H b = some (.tup xs) → H' b = some (.tup xs)) (frzs : ∀ b o u, H b = some (.frz o u) → H' b = some (.frz o u)) (tbls : ∀ b ps, H b = some (.tbl ps) → ∃ more, H' b = some (.tbl (ps ++ more)))
    (ns : ∀ m, s.heap.Ns X.env.locals m → h'.Ns X.env.locals m) (hok : HOk X.prog X.w H' h') (hg : AllBare g') :
    Inv X pins σ H' { s with heap := h', gens := g', drawn := d', toks := t' } := by
  have neL : ∀ b o, X.s₀.heap.get? b = some o → b ≠ X.env.locals := fun b o e => Nat.ne_of_lt (Nat.lt_of_lt_of_le (Heap.lt_size e) I.ok.above)
  have neC : ∀ b o, X.s₀.heap.get? b = some o → b ∉ X.ex → b ∉ ch := fun b o e hx hb => by
    rcases (hch b hb).1 with z | z
    · exact hx z
    · exact absurd (Nat.lt_of_lt_of_le (Heap.lt_size e) z) (Nat.lt_irrefl _)
  have cellK : ∀ x c, X.env.cells.lookup x = some c → ∀ v, s.heap.IsCell c v → h'.IsCell c v := fun x c e v ⟨o, ho, hd⟩ => by
    have nch : c ∉ ch := fun z => (hch c z).2.2.1 x c e rfl
    by_cases hc : c ∈ X.fs
    · obtain ⟨sl, q⟩ := slot c o (I.cne x c e) hc nch ho (I.freeC x c e)
      exact ⟨_, q, hd⟩
    · exact ⟨o, keep c o (I.cne x c e) hc nch ho (I.freeC x c e), hd⟩
  refine ⟨I.ok, I.os, hg, ⟨fun b o e n hb hx => ?_, fun b o e n hb hx => ?_, fun b o e n hx => ?_, fun b o e hx => ?_, fun b xs e => tups b xs (I.base.tups b xs e), fun b o xs e => frzs b o xs (I.base.frzs b o xs e), fun b ps e => ?_⟩, ?_, fun x c e => ?_, ?_, fun x c e => ?_, fun p hp => ?_, hok, I.len⟩
  · exact keep b o (neL b o e) hb (neC b o e hx) (I.base.keep b o e n hb hx) (I.base.free b o e n hx)
  · obtain ⟨sl, e1⟩ := I.base.slot b o e n hb hx
    obtain ⟨sl', e2⟩ := slot b _ (neL b o e) hb (neC b o e hx) e1 (I.base.free b o e n hx)
    exact ⟨sl', e2⟩
  · obtain ⟨o', e1⟩ := I.base.there b o e hx
    exact free b o' (neC b o e hx) e1 (I.base.free b o e n hx)
  · obtain ⟨o', e1⟩ := I.base.there b o e hx
    exact there b o' (neC b o e hx) e1
  · obtain ⟨m1, e1⟩ := I.base.tbls b ps e
    obtain ⟨m2, e2⟩ := tbls b _ e1
    exact ⟨m1 ++ m2, by rw [e2, Array.append_assoc]⟩
  · obtain ⟨m, hn, hl⟩ := I.loc
    refine ⟨m, ns m hn, fun i x v e1 e2 e3 => ?_⟩
    obtain ⟨u, r, l⟩ := hl i x v e1 e2 e3
    refine ⟨u, r, ?_⟩
    rcases l with l | ⟨k, c, e, z⟩
    · exact .inl l
    · exact .inr ⟨k, c, e, cellK x c e _ z⟩
  · obtain ⟨v, z⟩ := I.cell x c e
    exact ⟨v, cellK x c e v z⟩
  · obtain ⟨m, ⟨o, _, _, ho, _⟩, _⟩ := I.loc
    exact free _ o (fun z => (hch _ z).2.1 rfl) ho I.free
  · obtain ⟨v, o, ho, hd⟩ := I.cell x c e
    exact free c o (fun z => (hch c z).2.2.1 x c e rfl) ho (I.freeC x c e)
  · obtain ⟨e, n, ne, nf, d⟩ := I.pin p hp
    have nch : p.1 ∉ ch := fun z => (hch p.1 z).2.2.2 p hp rfl
    exact ⟨keep p.1 p.2 ne nf nch e n, free p.1 p.2 nch e n, ne, nf, d⟩
theorem Inv.un {t' : Nat} (I : Inv X pins σ H s) (u : Un X.fs [] H H' s.heap h') (hok : HOk X.prog X.w H' h') : Inv X pins σ H' { s with heap := h', toks := t' } := by
  obtain ⟨m, ⟨o, es, ep, ho, r⟩, _⟩ := id I.loc
  obtain ⟨sl, hL⟩ := u.any ho I.free (by simp)
  exact I.step (g' := s.gens) (d' := s.drawn) (ch := []) (fun _ z => nomatch z) (fun b o _ hb _ e n => u.keep b o e n hb (by simp)) (fun b o _ hb _ e n => u.slot b o e n hb (by simp)) (fun b o _ e n => u.free b o e n (by simp)) (fun b o _ e => u.there b o e (by simp)) u.tups u.frzs u.tbls (fun m' hm => by
    obtain ⟨o', es', ep', ho', r'⟩ := hm
    rw [ho] at ho'; cases ho'
    exact ⟨_, es', ep', hL, r'⟩) hok I.bare
theorem Inv.call {g' : Array GenState} {t' : Nat} {d' : Drawn} {ch : List Addr} (I : Inv X pins σ H s) (u : Un (frs X.stack) ch H H' s.heap h') (hok : HOk X.prog X.w H' h') (hg : AllBare g')
    (hch : ∀ b ∈ ch, (b ∈ X.ex ∨ X.s₀.heap.objs.size ≤ b) ∧ b ≠ X.env.locals ∧ (∀ x c, X.env.cells.lookup x = some c → c ≠ b) ∧ ∀ p ∈ X.pn ++ pins, p.1 ≠ b) :
    Inv X pins σ H' { s with heap := h', gens := g', drawn := d', toks := t' } := by
  obtain ⟨m, ⟨o, es, ep, ho, r⟩, _⟩ := id I.loc
  obtain ⟨sl, hL⟩ := u.any ho I.free fun z => (hch _ z).2.1 rfl
  exact I.step (ch := ch) hch (fun b o hL hb hc e n => u.keep b o e n (fun z => (List.mem_cons.mp (I.stkSub b z)).elim hL hb) hc) (fun b o _ _ hc e n => u.any e n hc) (fun b o hc e n => u.free b o e n hc) (fun b o hc e => u.there b o e hc) u.tups u.frzs u.tbls (fun m' hm => by
    obtain ⟨o', es', ep', ho', r'⟩ := hm
    rw [ho] at ho'; cases ho'
    exact ⟨_, es', ep', hL, r'⟩) hok hg
theorem Inv.turned {t' : Nat} {it : Addr} (I : Inv X pins σ H s) (k : ∀ b o, b ≠ it → s.heap.get? b = some o → h'.get? b = some o) (hn : H it = none) (hL : it ≠ X.env.locals)
    (h1 : it ∈ X.ex ∨ X.s₀.heap.objs.size ≤ it) (h2 : ∀ x c, X.env.cells.lookup x = some c → c ≠ it) (h3 : ∀ p ∈ X.pn ++ pins, p.1 ≠ it) : Inv X pins σ H { s with heap := h', toks := t' } := by
  have nit : ∀ b u, H b = some u → b ≠ it := fun b u e z => by rw [z, hn] at e; cases e
  refine I.step (g' := s.gens) (d' := s.drawn) (ch := [it]) (fun b hb => ?_) (fun b o _ _ hc e _ => k b o (fun z => hc (by simp [z])) e) (fun b o _ _ hc e _ => ⟨o.slots, k b o (fun z => hc (by simp [z])) e⟩) (fun _ _ _ _ n => n)
    (fun b o hc e => ⟨o, k b o (fun z => hc (by simp [z])) e⟩) (fun _ _ e => e) (fun _ _ _ e => e) (fun b ps e => ⟨#[], by rw [e]; simp⟩) (fun m hm => ?_) (fun b u e => ?_) I.bare
  · have e : b = it := by simpa using hb
    subst e
    exact ⟨h1, hL, h2, h3⟩
  · obtain ⟨o, es, ep, ho, r⟩ := hm
    exact ⟨o, es, ep, k _ o (Ne.symm hL) ho, r⟩
  · refine (I.hok b u e).stay (fun c v hc q => k c v ?_ q) (fun _ q => q) fun _ _ q => q
    rcases hc with z | z
    · rw [z]; exact nit b u e
    · exact nit c _ z
theorem Inv.tok (I : Inv X pins σ H s) (t : Nat) : Inv X pins σ H { s with toks := t } := I.un (h' := s.heap) (t' := t) Un.refl I.hok
theorem Inv.kept {t' : Nat} (I : Inv X pins σ H s) (k : ∀ b u, s.heap.get? b = some u → h'.get? b = some u) : Inv X pins σ H { s with heap := h', toks := t' } := I.un (Un.kept k) (I.hok.kept k)
theorem Inv.laid {a : Addr} {o : HO} {t' : Nat} (I : Inv X pins σ H s) (k : ∀ b u, s.heap.get? b = some u → h'.get? b = some u) (hp : s.heap.objs.size ≤ a) (new : ObjOk X.prog X.w (upd H a o) h' a o) :
    Inv X pins σ (upd H a o) { s with heap := h', toks := t' } := I.un (Un.laid k hp (I.hok.fresh hp)) (I.hok.laid k hp new)
theorem Inv.write {x e : Addr} {o : HO} {t' : Nat} (I : Inv X pins σ H s) (mu : Mut (H x)) (he : e = x ∨ H e = some (.own x)) (k : ∀ b u, b ≠ e → s.heap.get? b = some u → h'.get? b = some u) (heo : ∃ u, h'.get? e = some u)
    (new : ObjOk X.prog X.w (upd H x o) h' x o) : Inv X pins σ (upd H x o) { s with heap := h', toks := t' } := I.un (Un.write mu he k heo) (I.hok.write mu he k heo new)
theorem Inv.pins_of {pins' : List (Addr × Obj)} (I : Inv X pins σ H s) (h : ∀ p ∈ pins', s.heap.get? p.1 = some p.2 ∧ H p.1 = none ∧ p.1 ≠ X.env.locals ∧ p.1 ∉ X.fs ∧ ∀ v, p.2.data ≠ .cell v) : Inv X pins' σ H s :=
  ⟨I.ok, I.os, I.bare, I.base, I.loc, I.cell, I.free, I.freeC, fun p hp => (List.mem_append.mp hp).elim (fun z => I.pin p (List.mem_append_left _ z)) (h p), I.hok, I.len⟩
theorem nodup_ix {N : List Str} (hN : N.Nodup) {i j : Nat} {x : Str} (a : N[i]? = some x) (b : N[j]? = some x) : i = j := by
  obtain ⟨h1, e1⟩ := List.getElem?_eq_some_iff.mp a
  obtain ⟨h2, e2⟩ := List.getElem?_eq_some_iff.mp b
  exact (List.getElem_inj hN).mp (e1.trans e2.symm)
theorem store_ok2 {M : Model} {A : Around} {E : Value → Shared → Prop} {i : Nat} {x : Str} {v : V} {u : Value} {Q : Unit → Shared → Prop} (I : Inv X pins σ H s) (hN : X.N.Nodup) (hi : X.N[i]? = some x) (hx : Loc X.env.scope x) (r : RelV v u)
    (h : ∀ s', Inv X pins (σ.set i (some v)) H s' → (∃ a, Heap.SameBut a s.heap s'.heap ∧ (a = X.env.locals ∨ X.env.cells.lookup x = some a)) → Q () s') (hf : X.fn x = true ∨ X.env.scope.names.lookup x = some .local := by first | exact .inl rfl | exact .inr rfl | assumption) : wpAny M A (storeName X.env x u) Q E s := by
  obtain ⟨m, hn, hl⟩ := id I.loc
  have hcls : (X.env.scope.kind == .class || (X.env.scope.kind == .module && X.env.locals != X.env.globals)) = false := by rw [I.ok.kind]; rfl
  have hiσ : i < σ.length := by rw [I.len]; exact (List.getElem?_eq_some_iff.mp hi).1
  have cne := I.cne
  have tracked : ∀ {a : Addr} {h' : Heap}, (∃ o, s.heap.get? a = some o ∧ H a = none) → Heap.SameBut a s.heap h' → HOk X.prog X.w H h' := fun {a h'} ha hs b ob e => by
    obtain ⟨_, _, hfree⟩ := ha
    refine (I.hok b ob e).stay (fun c w' hc q => (hs.2 c ?_).trans q) (fun _ q => q) fun _ _ q => q
    rintro rfl
    rcases hc with rfl | hc
    · rw [hfree] at e; cases e
    · rw [hfree] at hc; cases hc
  rcases hx with hk | hk
  · refine wpAny_storeName_local hk hn (fun h' hn' hs => ?_) hcls
    obtain ⟨oL, _, _, hoL, _⟩ := id hn
    refine h _ ⟨I.ok, I.os, I.bare, ⟨fun b o e n hb hx => ?_, fun b o e n hb hx => ?_, I.base.free, fun b o e hx => ?_, I.base.tups, I.base.frzs, I.base.tbls⟩, ⟨_, hn', fun j y v' e1 e2 e3 => ?_⟩, fun y c e => ?_, I.free, I.freeC, fun p hp => ?_, tracked ⟨oL, hoL, I.free⟩ hs, by simpa using I.len⟩ ⟨_, hs, .inl rfl⟩
    · exact (hs.2 b (Nat.ne_of_lt (Nat.lt_of_lt_of_le (Heap.lt_size e) I.ok.above))).trans (I.base.keep b o e n hb hx)
    · obtain ⟨sl, e1⟩ := I.base.slot b o e n hb hx
      exact ⟨sl, (hs.2 b (Nat.ne_of_lt (Nat.lt_of_lt_of_le (Heap.lt_size e) I.ok.above))).trans e1⟩
    · obtain ⟨o', e1⟩ := I.base.there b o e hx
      exact ⟨o', (hs.2 b (Nat.ne_of_lt (Nat.lt_of_lt_of_le (Heap.lt_size e) I.ok.above))).trans e1⟩
    · by_cases hj : j = i
      · subst hj
        rw [hi] at e1; cases e1
        rw [List.getElem?_set_self hiσ] at e2
        cases e2
        exact ⟨u, r, .inl ⟨hk, by simp⟩⟩
      · rw [List.getElem?_set_ne (Ne.symm hj)] at e2
        obtain ⟨u', r', q⟩ := hl j y v' e1 e2 e3
        refine ⟨u', r', ?_⟩
        rcases q with ⟨k, e⟩ | ⟨k, c, e, z⟩
        · refine .inl ⟨k, ?_⟩
          have : y ≠ x := fun e => hj (nodup_ix hN e1 (e ▸ hi))
          simp [this, e]
        · exact .inr ⟨k, c, e, z.sameBut hs (cne y c e)⟩
    · obtain ⟨w', z⟩ := I.cell y c e
      exact ⟨w', z.sameBut hs (cne y c e)⟩
    · obtain ⟨e, n, ne, nf, d⟩ := I.pin p hp
      exact ⟨(hs.2 p.1 ne).trans e, n, ne, nf, d⟩
  · have hfn : X.fn x = true := by
      rcases hf with z | z
      · exact z
      · rw [z] at hk; cases hk
    obtain ⟨c, hc⟩ := I.ok.has x (.inl hk)
    obtain ⟨w', z⟩ := I.cell x c hc
    refine wpAny_storeName_cell I.ok.kind hk hc z (fun h' hc' hs => ?_)
    obtain ⟨oc, hoc, hocd⟩ := id z
    refine h { s with heap := h' } ⟨I.ok, I.os, I.bare, ⟨fun b o e n hb hx => ?_, fun b o e n hb hx => ?_, I.base.free, fun b o e hx => ?_, I.base.tups, I.base.frzs, I.base.tbls⟩, ⟨m, hn.sameBut hs (Ne.symm (cne x c hc)), fun j y v' e1 e2 e3 => ?_⟩, fun y c' e => ?_, I.free, I.freeC, fun p hp => ?_, tracked ⟨oc, hoc, I.freeC x c hc⟩ hs, by simpa using I.len⟩ ⟨c, hs, .inr hc⟩
    · exact (hs.2 b (Nat.ne_of_lt (Nat.lt_of_lt_of_le (Heap.lt_size e) (I.ok.cab x c hfn hc)))).trans (I.base.keep b o e n hb hx)
    · obtain ⟨sl, e1⟩ := I.base.slot b o e n hb hx
      exact ⟨sl, (hs.2 b (Nat.ne_of_lt (Nat.lt_of_lt_of_le (Heap.lt_size e) (I.ok.cab x c hfn hc)))).trans e1⟩
    · obtain ⟨o', e1⟩ := I.base.there b o e hx
      exact ⟨o', (hs.2 b (Nat.ne_of_lt (Nat.lt_of_lt_of_le (Heap.lt_size e) (I.ok.cab x c hfn hc)))).trans e1⟩
    · by_cases hj : j = i
      · subst hj
        rw [hi] at e1; cases e1
        rw [List.getElem?_set_self hiσ] at e2
        cases e2
        exact ⟨u, r, .inr ⟨.inl hk, c, hc, hc'⟩⟩
      · rw [List.getElem?_set_ne (Ne.symm hj)] at e2
        obtain ⟨u', r', q⟩ := hl j y v' e1 e2 e3
        refine ⟨u', r', ?_⟩
        rcases q with q | ⟨k, c', e, z'⟩
        · exact .inl q
        · refine .inr ⟨k, c', e, z'.sameBut hs ?_⟩
          rintro rfl
          exact hj (nodup_ix hN e1 (I.ok.inj _ _ _ e hc ▸ hi))
    · by_cases hcc : c' = c
      · subst hcc; exact ⟨_, hc'⟩
      · obtain ⟨w2, z2⟩ := I.cell y c' e
        exact ⟨w2, z2.sameBut hs hcc⟩
    · obtain ⟨e, n, ne, nf, d⟩ := I.pin p hp
      refine ⟨(hs.2 p.1 ?_).trans e, n, ne, nf, d⟩
      intro q
      rw [q, hoc] at e
      have q' : oc = p.2 := Option.some.inj e
      exact d w' (by rw [← q']; exact hocd)
theorem store_ok {M : Model} {A : Around} {E : Value → Shared → Prop} {i : Nat} {x : Str} {v : V} {u : Value} {Q : Unit → Shared → Prop} (I : Inv X pins σ H s) (hN : X.N.Nodup) (hi : X.N[i]? = some x) (hx : Loc X.env.scope x) (r : RelV v u)
    (h : ∀ s', Inv X pins (σ.set i (some v)) H s' → Q () s') (hf : X.fn x = true ∨ X.env.scope.names.lookup x = some .local := by first | exact .inl rfl | exact .inr rfl | assumption) : wpAny M A (storeName X.env x u) Q E s :=
  store_ok2 I hN hi hx r (fun s' I' _ => h s' I') hf
theorem Inv.call' {s' : Shared} {ch : List Addr} (I : Inv X pins σ H s) (ho : s'.os = s.os) (u : Un (frs X.stack) ch H H' s.heap s'.heap) (hok : HOk X.prog X.w H' s'.heap) (hg : AllBare s'.gens)
    (hch : ∀ b ∈ ch, (b ∈ X.ex ∨ X.s₀.heap.objs.size ≤ b) ∧ b ≠ X.env.locals ∧ (∀ x c, X.env.cells.lookup x = some c → c ≠ b) ∧ ∀ p ∈ X.pn ++ pins, p.1 ≠ b) : Inv X pins σ H' s' := by
  obtain ⟨h', g', d', t', o'⟩ := s'
  have e : o' = s.os := ho
  subst e
  exact I.call (g' := g') (t' := t') (d' := d') u hok hg hch
end
abbrev XK := Value → Option Addr → Hp → Prop
abbrev St := List (Option V)
abbrev VK := V → Hp → Prop
abbrev TE := St → Hp → VK → Prop
abbrev TT := St → Hp → (Bool → Hp → Prop) → Prop
abbrev TA := St → Hp → (List V → Hp → Prop) → Prop
structure Ends where
  nx : St → Hp → Prop
  rt : VK
  bk : St → Hp → Prop := fun _ _ => False
  ct : St → Hp → Prop := fun _ _ => False
abbrev TS := Ends → St → Hp → Prop
def EP (X : Cx) (pins : List (Addr × Obj)) (σ : St) (Q : VK) (u : Value) (s' : Shared) : Prop := ∃ v H', Inv X pins σ H' s' ∧ RelV v u ∧ Q v H'
def TP (X : Cx) (pins : List (Addr × Obj)) (σ : St) (Q : Bool → Hp → Prop) (b : Bool) (s' : Shared) : Prop := ∃ H', Inv X pins σ H' s' ∧ Q b H'
def AP (X : Cx) (pins : List (Addr × Obj)) (σ : St) (Q : List V → Hp → Prop) (us : List Value) (s' : Shared) : Prop := ∃ vs H', Inv X pins σ H' s' ∧ Vals vs us ∧ Q vs H'
def SP (X : Cx) (pins : List (Addr × Obj)) (D : Ends) (f : Flow) (s' : Shared) : Prop :=
  match f with
  | .next => ∃ σ' H', Inv X pins σ' H' s' ∧ D.nx σ' H'
  | .brk => ∃ σ' H', Inv X pins σ' H' s' ∧ D.bk σ' H'
  | .cont => ∃ σ' H', Inv X pins σ' H' s' ∧ D.ct σ' H'
  | .ret u => ∃ v σ' H', Inv X pins σ' H' s' ∧ RelV v u ∧ D.rt v H'
def PE (X : Cx) (e : Expr) (t : TE) : Prop :=
  ∀ (pins : List (Addr × Obj)) (s : Shared) (σ : St) (H : Hp) (Q : VK), Inv X pins σ H s → t σ H Q → wpAny (model X.prog X.w) X.A (eval e X.env) (EP X pins σ Q) X.xe s
def PT (X : Cx) (e : Expr) (t : TT) : Prop :=
  ∀ (pins : List (Addr × Obj)) (s : Shared) (σ : St) (H : Hp) (Q : Bool → Hp → Prop), Inv X pins σ H s → t σ H Q → wpAny (model X.prog X.w) X.A (isTrue e X.env (eval e X.env)) (TP X pins σ Q) X.xe s
def PW (X : Cx) (e : Expr) (t : TT) : Prop :=
  ∀ (whole : Sem Value) (pins : List (Addr × Obj)) (s : Shared) (σ : St) (H : Hp) (Q : Bool → Hp → Prop), Inv X pins σ H s → t σ H Q → wpAny (model X.prog X.w) X.A (isTrue e X.env whole) (TP X pins σ Q) X.xe s
theorem PW.pt {X : Cx} {e : Expr} {t : TT} (h : PW X e t) : PT X e t := h _
def PA (X : Cx) (es : List Expr) (t : TA) : Prop :=
  ∀ (pos : Pos) (pins : List (Addr × Obj)) (s : Shared) (σ : St) (H : Hp) (Q : List V → Hp → Prop), Inv X pins σ H s → t σ H Q → wpAny (model X.prog X.w) X.A (spliced (backTo pos (starEach es X.env))) (AP X pins σ Q) X.xe s
def PS (X : Cx) (st : Stmt) (t : TS) : Prop :=
  ∀ (pins : List (Addr × Obj)) (s : Shared) (σ : St) (H : Hp) (D : Ends), Inv X pins σ H s → t D σ H → wpAny (model X.prog X.w) X.A (exec st X.env) (SP X pins D) X.xe s
def PSs (X : Cx) (st : List Stmt) (t : TS) : Prop :=
  ∀ (pins : List (Addr × Obj)) (s : Shared) (σ : St) (H : Hp) (D : Ends), Inv X pins σ H s → t D σ H → wpAny (model X.prog X.w) X.A (execs st X.env) (SP X pins D) X.xe s
theorem thn {α : Type} {t : Sem α} {Q Q' : α → Shared → Prop} {M : Model} {A : Around} {E : Value → Shared → Prop} {s : Shared} (h : wpAny M A t Q E s) (hQ : ∀ a s, Q a s → Q' a s) : wpAny M A t Q' E s := wpAny_mono h hQ fun _ _ x => x
end L2
namespace L2
open PySem PySem.Spec PyProof.Rows
section
variable {X : Cx}
def tVar (i : Nat) : TE := fun σ H Q => ∃ v, σ[i]? = some (some v) ∧ Q v H
def tC (v : V) : TE := fun _ H Q => Q v H
theorem pe_var {i : Nat} {x : Str} {pos : Pos} (hN : X.N[i]? = some x) (hv : Vis X.env.scope x) (hd : (x == ("__debug__" : Str)) = false := by decide) (hcd : (x == ("__classdict__" : Str)) = false := by decide) : PE X (.Name x pos) (tVar i) := by
  intro pins s σ H Q I h
  obtain ⟨v, e, h⟩ := h
  obtain ⟨m, hn, hl⟩ := I.loc
  obtain ⟨u, r, l⟩ := hl i x v hN e hv
  have fin : EP X pins σ Q u s := ⟨v, H, I, r, h⟩
  rcases l with ⟨hk, hm⟩ | ⟨hk, c, hc, hcell⟩
  · exact wpAny_Name (wpAny_loadName_local I.ok.kind hk hn hm fin) hd
  · rcases hk with hk | hk
    · exact wpAny_Name (wpAny_loadName_cell I.ok.kind hk hc hcell fin) hd
    · exact wpAny_Name (wpAny_loadName_free I.ok.kind hk hc hcell fin hcd) hd
theorem pe_int {i j pos} : PE X (.Constant (.int i) j pos) (tC (.int i)) := fun _ _ _ H _ I h => wpAny_Constant_int ⟨.int i, H, I.tok _, ⟨_, rfl⟩, h⟩
theorem pe_bl {b j pos} : PE X (.Constant (.bool b) j pos) (tC (.bl b)) := fun _ _ _ H _ I h => Constant_bool ⟨.bl b, H, I, rfl, h⟩
theorem pe_str {x j pos} : PE X (.Constant (.str x) j pos) (tC (.str x)) := fun _ _ _ H _ I h => Calls.Constant_str ⟨.str x, H, I.tok _, ⟨_, rfl⟩, h⟩
def Gl (X : Cx) (x : Str) : Prop := X.env.kindOf x = some .globalImplicit
theorem ld_glob {E : Value → Shared → Prop} {pins : List (Addr × Obj)} {s : Shared} {σ : St} {H : Hp} {x : Str} {u : Value} {pos : Pos} {Q : Value → Shared → Prop} (I : Inv X pins σ H s) (hg : Gl X x) (hm : X.mg x = some u) (h : Q u s)
    (hd : (x == ("__debug__" : Str)) = false := by decide) : wpAny (model X.prog X.w) X.A (eval (.Name x pos) X.env) Q E s :=
  Calls.Name_function_global I.ok.kind hg (Calls.loadGlobal_global (by rw [I.ok.glob]; exact I.mod.glob.keeps I.bk) hm h) hd
theorem ld_blt {E : Value → Shared → Prop} {pins : List (Addr × Obj)} {s : Shared} {σ : St} {H : Hp} {x : Str} {u : Value} {pos : Pos} {Q : Value → Shared → Prop} (I : Inv X pins σ H s) (hg : Gl X x) (hm : X.mg x = none) (hv : bootBuiltins x = some u) (h : Q u s)
    (hn : x ≠ "__name__" := by decide) (hd : (x == ("__debug__" : Str)) = false := by decide) : wpAny (model X.prog X.w) X.A (eval (.Name x pos) X.env) Q E s := by
  obtain ⟨mb, h1, h2⟩ := I.mod.blt
  exact Calls.Name_function_global I.ok.kind hg (Calls.loadGlobal_builtin (by rw [I.ok.glob]; exact I.mod.glob.keeps I.bk) hm (by rw [I.ok.blt]; exact h1.keeps I.bk) ((h2 x hn).trans hv) h) hd
theorem pe_glob {x : Str} {v : V} {u : Value} {pos : Pos} (hg : Gl X x) (hm : X.mg x = some u) (r : RelV v u) (hd : (x == ("__debug__" : Str)) = false := by decide) : PE X (.Name x pos) (tC v) :=
  fun _ _ _ H _ I h => ld_glob I hg hm ⟨v, H, I, r, h⟩ hd
theorem pe_bltn {x : Str} {v : V} {u : Value} {pos : Pos} (hg : Gl X x) (hm : X.mg x = none) (hv : bootBuiltins x = some u) (r : RelV v u) (hn : x ≠ "__name__" := by decide) (hd : (x == ("__debug__" : Str)) = false := by decide) : PE X (.Name x pos) (tC v) :=
  fun _ _ _ H _ I h => ld_blt I hg hm hv ⟨v, H, I, r, h⟩ hn hd
variable {a b : Expr} {ta tb : TE} {pos : Pos}
def PC (X : Cx) (op : CmpOp) (a b : Expr) (t : TE) : Prop :=
  ∀ (pins : List (Addr × Obj)) (s : Shared) (σ : St) (H : Hp) (Q : VK), Inv X pins σ H s → t σ H Q →
    wpAny (model X.prog X.w) X.A (eval a X.env) (fun v s₁ => wpAny (model X.prog X.w) X.A (eval b X.env) (fun u s₂ => wpAny (model X.prog X.w) X.A (compareOp op v u) (EP X pins σ Q) X.xe s₂) X.xe s₁) X.xe s
def tB (t : TE) : TT := fun σ H Q => t σ H fun x H1 => ∃ c, x = .bl c ∧ Q c H1
theorem pt_cmp {op : CmpOp} {t : TE} (h : PC X op a b t) (h1 : behindInMarks op b = false := by first | exact nobehind _ (by decide) (by decide) | rfl) : PT X (.Compare a [op] [b] pos) (tB t) := by
  intro pins s σ H Q I hw
  refine wpAny_isTrue_Compare1 (thn (h pins s σ H _ I hw) fun v s1 h1 => thn h1 fun u s2 h2 => thn h2 fun c s3 ⟨x, H1, I1, r1, q1⟩ => ?_) h1
  obtain ⟨d, rfl, q⟩ := q1
  cases r1
  exact wpAny_truthy_bool ⟨H1, I1, q⟩
theorem pt_val {e : Expr} {t : TE} (h : PE X e t) (he : ∀ whole, isTrue e X.env whole = (do let v ← whole; standAt e.pos; holding [v] (truthy v)) := by intro _; rfl) : PT X e (tB t) := by
  intro pins s σ H Q I hw
  refine isTrue_plain (thn (h pins s σ H _ I hw) fun v s1 ⟨x, H1, I1, r1, q1⟩ => ?_) (he _)
  obtain ⟨d, rfl, q⟩ := q1
  cases r1
  exact wpAny_truthy_bool ⟨H1, I1, q⟩
variable {tA tB' : TT} {rest : List Expr}
def tAnd (t u : TT) : TT := fun σ H Q => t σ H fun c H1 => if c = true then u σ H1 Q else Q false H1
def tOr (t u : TT) : TT := fun σ H Q => t σ H fun c H1 => if c = true then Q true H1 else u σ H1 Q
def tNot (t : TT) : TT := fun σ H Q => t σ H fun c H1 => Q (!c) H1
theorem pw_and1 (ha : PT X a tA) : PW X (.BoolOp .And [a] pos) tA := by
  intro wh pins s σ H Q I h
  refine isTrue_and (thn (ha pins s σ H Q I h) fun c s1 e => ?_)
  cases c with
  | true => exact isTrue_and_nil e
  | false => exact e
theorem pw_or1 (ha : PT X a tA) : PW X (.BoolOp .Or [a] pos) tA := by
  intro wh pins s σ H Q I h
  refine isTrue_or (thn (ha pins s σ H Q I h) fun c s1 e => ?_)
  cases c with
  | false => exact isTrue_or_nil e
  | true => exact e
theorem pw_and (ha : PT X a tA) (hb : PW X (.BoolOp .And (b :: rest) pos) tB') : PW X (.BoolOp .And (a :: b :: rest) pos) (tAnd tA tB') := by
  intro wh pins s σ H Q I h
  refine isTrue_and (thn (ha pins s σ H _ I h) fun c s1 ⟨H1, I1, q1⟩ => ?_)
  cases c with
  | true => exact hb wh pins s1 σ H1 Q I1 q1
  | false => exact ⟨H1, I1, q1⟩
theorem pw_or (ha : PT X a tA) (hb : PW X (.BoolOp .Or (b :: rest) pos) tB') : PW X (.BoolOp .Or (a :: b :: rest) pos) (tOr tA tB') := by
  intro wh pins s σ H Q I h
  refine isTrue_or (thn (ha pins s σ H _ I h) fun c s1 ⟨H1, I1, q1⟩ => ?_)
  cases c with
  | true => exact ⟨H1, I1, q1⟩
  | false => exact hb wh pins s1 σ H1 Q I1 q1
theorem pt_not (ha : PT X a tA) : PT X (.UnaryOp .Not a pos) (tNot tA) := by
  intro pins s σ H Q I h
  exact isTrue_not (ha pins s σ H (fun c H1 => Q (!c) H1) I h)
def tAndV (ta tb : TE) : TE := fun σ H Q => ta σ H fun x H1 => ∃ c, x = .bl c ∧ if c = true then tb σ H1 Q else Q (.bl false) H1
def tNotV (ta : TE) : TE := fun σ H Q => ta σ H fun x H1 => ∃ c, x = .bl c ∧ Q (.bl (!c)) H1
theorem pe_one {op} {t : TE} (h : PE X a t) : PE X (.BoolOp op [a] pos) t := fun pins s σ H Q I hw => BoolOp_one (h pins s σ H Q I hw)
theorem pe_and (ha : PE X a ta) (hb : PE X (.BoolOp .And (b :: rest) pos) tb) : PE X (.BoolOp .And (a :: b :: rest) pos) (tAndV ta tb) := by
  intro pins s σ H Q I h
  refine BoolOp_and (thn (ha pins s σ H _ I h) fun v s1 ⟨x, H1, I1, r1, q1⟩ => ?_)
  obtain ⟨c, rfl, q1⟩ := q1
  cases r1
  refine wpAny_truthy_bool ?_
  cases c with
  | true => exact hb pins s1 σ H1 Q I1 q1
  | false => exact ⟨.bl false, H1, I1, rfl, q1⟩
theorem pe_not (ha : PE X a ta) : PE X (.UnaryOp .Not a pos) (tNotV ta) := by
  intro pins s σ H Q I h
  refine UnaryOp_ (thn (ha pins s σ H _ I h) fun v s1 ⟨x, H1, I1, r1, q1⟩ => ?_)
  obtain ⟨c, rfl, q1⟩ := q1
  cases r1
  exact not_of (wpAny_truthy_bool ⟨.bl (!c), H1, I1, rfl, q1⟩)
def tIf (t : TT) (ta tb : TE) : TE := fun σ H Q => t σ H fun c H1 => if c = true then ta σ H1 Q else tb σ H1 Q
theorem pe_ifExp {c : Expr} (hc : PT X c tA) (ha : PE X a ta) (hb : PE X b tb) : PE X (.IfExp c a b pos) (tIf tA ta tb) := by
  intro pins s σ H Q I h
  refine wpAny_IfExp (thn (hc pins s σ H _ I h) fun d s1 ⟨H1, I1, q1⟩ => ?_)
  cases d with
  | true => exact ha pins s1 σ H1 Q I1 q1
  | false => exact hb pins s1 σ H1 Q I1 q1
end
end L2
namespace L2
open PySem PySem.Spec PyProof.Rows
def SqL (K : PySem.W.Frag) (H : Hp) (a : Addr) (xs : List V) : Prop :=
  Rd H a (.lst xs) ∨
    ∃ (o : Obj) (its : Array Value) (n : Nat), K.lookup a = some o ∧ o.cls = .type "list" ∧ o.dict = none ∧ o.data = .seq its n ∧ its.size ≤ sizeLine ∧ Vals xs its.toList
def SqT (K : PySem.W.Frag) (H : Hp) (a : Addr) (xs : List V) : Prop :=
  Rd H a (.tup xs) ∨
    ∃ (o : Obj) (its : Array Value) (n : Nat), K.lookup a = some o ∧ o.cls = .type "tuple" ∧ o.data = .seq its n ∧ its.size ≤ sizeLine ∧ Vals xs its.toList
def absV : Value → Option V
  | .none => some .non
  | .bool b => some (.bl b)
  | .int i _ => some (.int i)
  | .str x _ => some (.str x)
  | .bytes b _ => some (.byt b)
  | .float b _ => some (.flt b)
  | .ref a => some (.ref a)
  | .type n => some (.ty n)
  | _ => none
theorem RelV.abs {x : V} {u : Value} (r : RelV x u) : absV u = some x := by
  cases x with
  | non => cases r; rfl
  | bl _ => cases r; rfl
  | int _ => obtain ⟨t, rfl⟩ := r; rfl
  | str _ => obtain ⟨t, rfl⟩ := r; rfl
  | byt _ => obtain ⟨t, rfl⟩ := r; rfl
  | flt _ => obtain ⟨t, rfl⟩ := r; rfl
  | ref _ => cases r; rfl
  | ty _ => cases r; rfl
theorem RelV.inj {x y : V} {u : Value} (r : RelV x u) (q : RelV y u) : x = y := Option.some.inj (r.abs.symm.trans q.abs)
theorem Vals.inj : ∀ {xs ys : List V} {us : List Value}, Vals xs us → Vals ys us → xs = ys
  | _, _, _, .nil, .nil => rfl
  | _, _, _, .cons r t, .cons r' t' => by rw [r.inj r', Vals.inj t t']
section
variable {X : Cx} {pins : List (Addr × Obj)} {σ : St} {H : Hp} {s : Shared} {a : Addr} {xs ys : List V}
theorem SqL.of {K : PySem.W.Frag} (h : H a = some (.lst xs)) : SqL K H a xs := .inl (.inl h)
theorem SqT.of {K : PySem.W.Frag} (h : H a = some (.tup xs)) : SqT K H a xs := .inl (.inl h)
theorem Inv.list (I : Inv X pins σ H s) (h : SqL X.K H a xs) : ∃ its : List Value, Vals xs its ∧ PlainL s.heap a its.toArray ∧ xs.length ≤ sizeLine := by
  rcases h with h | ⟨o, its, n, hk, hc, hd, hs, hz, r⟩
  · obtain ⟨z, its, n, r, e⟩ := h.ok I.hok
    exact ⟨its, r, ⟨_, n, e, rfl, rfl, rfl⟩, z⟩
  · refine ⟨its.toList, r, ⟨o, n, I.kIn a o hk, hc, hd, by simpa using hs⟩, ?_⟩
    have e := r.length
    simp only [Array.length_toList] at e
    omega
theorem Inv.tuple (I : Inv X pins σ H s) (h : SqT X.K H a xs) : ∃ its : List Value, Vals xs its ∧ IsTup s.heap a its.toArray ∧ xs.length ≤ sizeLine := by
  rcases h with h | ⟨o, its, n, hk, hc, hs, hz, r⟩
  · obtain ⟨z, its, r, p⟩ := h.ok I.hok
    exact ⟨its, r, p, z⟩
  · refine ⟨its.toList, r, ⟨o, I.kIn a o hk, hc, n, by simpa using hs⟩, ?_⟩
    have e := r.length
    simp only [Array.length_toList] at e
    omega
theorem Inv.list_inj (I : Inv X pins σ H s) (h : SqL X.K H a xs) (h' : SqL X.K H a ys) : xs = ys := by
  obtain ⟨its, r, ⟨o, n, e, _, _, d⟩, _⟩ := I.list h
  obtain ⟨its', r', ⟨o', n', e', _, _, d'⟩, _⟩ := I.list h'
  rw [e] at e'; cases e'
  rw [d] at d'
  injection d' with d1 _
  have : its = its' := by simpa using congrArg Array.toList d1
  subst this
  exact r.inj r'
end
abbrev Cx.wish (X : Cx) (E : Value → Shared → Prop) : Cx := { X with xe := E }
abbrev Cx.nox (X : Cx) : Cx := X.wish fun _ _ => False
theorem Cx.Ok.wish {X : Cx} (ok : X.Ok) (E : Value → Shared → Prop) : (X.wish E).Ok :=
  ⟨ok.mod, ok.kind, ok.glob, ok.blt, ok.above, ok.inj, ok.has, ok.cab, ok.hd, ok.frames, ok.stk, ok.exf, ok.bs, ok.bsz, ok.noex, ok.exfs, ok.funs, ok.frf⟩
theorem Cx.Ok.unwish {X : Cx} {E : Value → Shared → Prop} (ok : (X.wish E).Ok) : X.Ok :=
  ⟨ok.mod, ok.kind, ok.glob, ok.blt, ok.above, ok.inj, ok.has, ok.cab, ok.hd, ok.frames, ok.stk, ok.exf, ok.bs, ok.bsz, ok.noex, ok.exfs, ok.funs, ok.frf⟩
section
variable {X : Cx} {pins : List (Addr × Obj)} {σ : St} {H : Hp} {s : Shared} {E : Value → Shared → Prop}
theorem Inv.wish (I : Inv X pins σ H s) (E : Value → Shared → Prop) : Inv (X.wish E) pins σ H s := ⟨I.ok.wish E, I.os, I.bare, I.base, I.loc, I.cell, I.free, I.freeC, I.pin, I.hok, I.len⟩
theorem Inv.unwish (I : Inv (X.wish E) pins σ H s) : Inv X pins σ H s := ⟨I.ok.unwish, I.os, I.bare, I.base, I.loc, I.cell, I.free, I.freeC, I.pin, I.hok, I.len⟩
theorem SP.unwish {D : Ends} {f : Flow} {s' : Shared} (h : SP (X.wish E) pins D f s') : SP X pins D f s' := by
  cases f with
  | next => obtain ⟨σ', H', I, q⟩ := h; exact ⟨σ', H', I.unwish, q⟩
  | brk => obtain ⟨σ', H', I, q⟩ := h; exact ⟨σ', H', I.unwish, q⟩
  | cont => obtain ⟨σ', H', I, q⟩ := h; exact ⟨σ', H', I.unwish, q⟩
  | ret u => obtain ⟨v, σ', H', I, r, q⟩ := h; exact ⟨v, σ', H', I.unwish, r, q⟩
theorem PSs.nox {st : List Stmt} {t : TS} (h : PSs X.nox st t) : PSs X st t := fun pins s σ H D I hw =>
  wpAny_mono (h pins s σ H D (I.wish _) hw) (fun _ _ q => q.unwish) fun _ _ z => False.elim z
end
section
variable {X : Cx} {st : Stmt} {rest : List Stmt} {t u : TS} {e : Expr} {te : TE} {pos : Pos}
def tNext : TS := fun D σ H => D.nx σ H
def tSeq (t u : TS) : TS := fun D σ H => t { D with nx := u D } σ H
theorem pss_nil : PSs X [] tNext := fun _ _ σ H _ I h => wpAny_execs_nil ⟨σ, H, I, h⟩
theorem pss_cons (h1 : PS X st t) (h2 : PSs X rest u) : PSs X (st :: rest) (tSeq t u) := by
  intro pins s σ H D I h
  refine wpAny_execs_cons (thn (h1 pins s σ H { D with nx := u D } I h) fun f s1 q => ?_)
  cases f with
  | next =>
    obtain ⟨σ', H', I', q⟩ := q
    exact h2 pins s1 σ' H' D I' q
  | ret v => exact q
  | brk => exact q
  | cont => exact q
theorem pss_one (h1 : PS X st t) : PSs X [st] t := by
  intro pins s σ H D I h
  refine wpAny_execs_cons (thn (h1 pins s σ H D I h) fun f s1 q => ?_)
  cases f with
  | next => exact wpAny_execs_nil q
  | ret v => exact q
  | brk => exact q
  | cont => exact q
theorem Inv.quiet {pins : List (Addr × Obj)} {σ : St} {H : Hp} {s : Shared} (I : Inv X pins σ H s) : interactive X.env = false := by simp [interactive, I.ok.kind]
def tDrop (te : TE) : TS := fun D σ H => te σ H fun _ H1 => D.nx σ H1
theorem ps_expr (he : PE X e te) (hs : swapsWith e none pos.line X.env = pure false := by rfl) : PS X (.Expr e pos) (tDrop te) := by
  intro pins s σ H D I h
  exact wpAny_Expr_any (thn (he pins s σ H _ I h) fun v s1 ⟨x, H1, I1, r1, q1⟩ => ⟨σ, H1, I1, q1⟩) I.quiet hs
def tRet (te : TE) : TS := fun D σ H => te σ H D.rt
theorem ps_ret (he : PE X e te) : PS X (.Return (some e) pos) (tRet te) := by
  intro pins s σ H D I h
  exact wpAny_Return_some (thn (he pins s σ H _ I h) fun v s1 ⟨x, H1, I1, r1, q1⟩ => ⟨x, σ, H1, I1, r1, q1⟩)
def tIfS (c : TT) (t u : TS) : TS := fun D σ H => c σ H fun b H1 => if b = true then t D σ H1 else u D σ H1
theorem ps_if {c : Expr} {a b : List Stmt} {tc : TT} (hc : PT X c tc) (ha : PSs X a t) (hb : PSs X b u) : PS X (.If c a b pos) (tIfS tc t u) := by
  intro pins s σ H D I h
  refine wpAny_If (thn (hc pins s σ H _ I h) fun d s1 ⟨H1, I1, q1⟩ => ?_)
  cases d with
  | true => exact ha pins s1 σ H1 D I1 q1
  | false => exact hb pins s1 σ H1 D I1 q1
def tNever : TS := fun _ _ _ => False
theorem ps_never : PS X st tNever := fun _ _ _ _ _ _ h => h.elim
end
abbrev TG := V → St → Hp → (St → Hp → Prop) → Prop
abbrev TGs := List V → St → Hp → (St → Hp → Prop) → Prop
def PG (X : Cx) (target : Expr) (t : TG) : Prop :=
  ∀ (pins : List (Addr × Obj)) (s : Shared) (σ : St) (H : Hp) (v : V) (u : Value) (Q : St → Hp → Prop), Inv X pins σ H s → RelV v u → t v σ H Q →
    wpAny (model X.prog X.w) X.A (assign target X.env u) (fun _ s' => ∃ σ' H', Inv X pins σ' H' s' ∧ Q σ' H') X.xe s
def PGs (X : Cx) (ts : List Expr) (t : TGs) : Prop :=
  ∀ (pins : List (Addr × Obj)) (s : Shared) (σ : St) (H : Hp) (vs : List V) (us : List Value) (Q : St → Hp → Prop), Inv X pins σ H s → Vals vs us → t vs σ H Q →
    wpAny (model X.prog X.w) X.A (assignInOrder ((assignEach ts X.env).map (·.2)) us) (fun _ s' => ∃ σ' H', Inv X pins σ' H' s' ∧ Q σ' H') X.xe s
abbrev TSet := V → V → V → Hp → (Hp → Prop) → Prop
def PSet (X : Cx) (t : TSet) : Prop :=
  ∀ (pins : List (Addr × Obj)) (s : Shared) (σ : St) (H : Hp) (o i v : V) (ov iv u : Value) (Q : Hp → Prop), Inv X pins σ H s → RelV o ov → RelV i iv → RelV v u → t o i v H Q →
    wpAny (model X.prog X.w) X.A (setItem ov iv u) (fun _ s' => ∃ H', Inv X pins σ H' s' ∧ Q H') X.xe s
section
variable {X : Cx} {pos : Pos}
def gName (i : Nat) : TG := fun v σ H Q => Q (σ.set i (some v)) H
theorem pg_name {i : Nat} {x : Str} (hN : X.N.Nodup) (hi : X.N[i]? = some x) (hx : Loc X.env.scope x) (hf : X.fn x = true ∨ X.env.scope.names.lookup x = some .local := by first | exact .inl rfl | exact .inr rfl | assumption) : PG X (.Name x pos) (gName i) := by
  intro pins s σ H v u Q I r h
  exact wpAny_assign_Name (store_ok I hN hi hx r (fun s' I' => ⟨_, H, I', h⟩) hf)
def gNil : TGs := fun vs σ H Q => vs = [] ∧ Q σ H
def gCons (t : TG) (u : TGs) : TGs := fun vs σ H Q => ∃ v r, vs = v :: r ∧ t v σ H fun σ' H' => u r σ' H' Q
theorem pgs_nil : PGs X [] gNil := by
  intro pins s σ H vs us Q I r h
  obtain ⟨e, h⟩ := h
  subst e
  cases r
  exact assignInOrder_nil ⟨σ, H, I, h⟩
theorem pgs_cons {e : Expr} {es : List Expr} {t : TG} {u : TGs} (h1 : PG X e t) (h2 : PGs X es u)
    (hs : (assignEach (e :: es) X.env).map (·.2) = assign e X.env :: (assignEach es X.env).map (·.2) := by rfl) : PGs X (e :: es) (gCons t u) := by
  intro pins s σ H vs us Q I r h
  obtain ⟨v, vr, e1, h⟩ := h
  subst e1
  cases r with
  | cons r rr =>
    rw [hs]
    refine assignInOrder_cons (thn (h1 pins s σ H _ _ _ I r h) fun _ s1 ⟨σ1, H1, I1, q1⟩ => ?_)
    exact h2 pins s1 σ1 H1 _ _ Q I1 rr q1
def gTup (K : PySem.W.Frag) (n : Nat) (t : TGs) : TG := fun v σ H Q => ∃ a xs, v = .ref a ∧ SqT K H a xs ∧ xs.length = n ∧ t xs σ H Q
theorem pg_tup {es : List Expr} {k : Nat} {t : TGs} {n : Nat} (hc : X.calm = true) (h : PGs X es t)
    (hn : (assignEach es X.env).length = n := by rfl) (hst : (assignEach es X.env).findIdx? (·.1) = none := by rfl) : PG X (.Tuple es k pos) (gTup X.K n t) := by
  intro pins s σ H v u Q I r hw
  obtain ⟨a, xs, e1, hq, hl, hw⟩ := hw
  subst e1
  cases r
  obtain ⟨its, rv, ht, hz⟩ := I.tuple hq
  refine assign_Tuple_tuple (I.ok.hd hc) ht (by simp [hn, ← hl, rv.length]) hst fun h' hx => ?_
  have I1 : Inv X pins σ H { s with heap := h' } := I.kept (t' := s.toks) fun b o e => hx b o (Nat.ne_of_lt (Heap.lt_size e)) e
  exact h pins _ σ H xs _ Q I1 (by simpa using rv) hw
def gSub (to ti : TE) (t : TSet) : TG := fun v σ H Q => to σ H fun o H1 => ti σ H1 fun i H2 => t o i v H2 fun H3 => Q σ H3
theorem pg_sub {o i : Expr} {to ti : TE} {t : TSet} (ho : PE X o to) (hi : PE X i ti) (hs : PSet X t)
    (ha : ∀ v, assign (.Subscript o i pos) X.env v = (do
      let ov ← holding [v] (eval o X.env)
      let iv ← holding [v, ov] (eval i X.env)
      standAt pos
      holding [v, ov, iv] (setItem ov iv v)
      release [v, ov, iv] []) := by intro _; rfl) : PG X (.Subscript o i pos) (gSub to ti t) := by
  intro pins s σ H v u Q I r h
  rw [ha]
  refine wpAny_bind (wpAny_holding (thn (ho pins s σ H _ I h) fun ov s1 ⟨x, H1, I1, r1, q1⟩ => ?_))
  refine wpAny_bind (wpAny_holding (thn (hi pins s1 σ H1 _ I1 q1) fun iv s2 ⟨y, H2, I2, r2, q2⟩ => ?_))
  refine wpAny_bind (wpAny_standAt (wpAny_bind (wpAny_holding (thn (hs pins s2 σ H2 x y v ov iv u _ I2 r1 r2 r q2) fun _ s3 ⟨H3, I3, q3⟩ => ?_))))
  exact wpAny_release ⟨σ, H3, I3, q3⟩
def tAsg (te : TE) (g : TG) : TS := fun D σ H => te σ H fun x H1 => g x σ H1 D.nx
theorem ps_asg {tg e : Expr} {te : TE} {g : TG} (he : PE X e te) (hg : PG X tg g) (hs : swapsWithSole [tg] e pos.line X.env = pure false := by rfl) (hw : swappedStores [tg] e X.env = pure none := by rfl)
    (h1 : (assignEach [tg] X.env).map (·.2) = [assign tg X.env] := by rfl) : PS X (.Assign [tg] e pos) (tAsg te g) := by
  intro pins s σ H D I h
  refine wpAny_Assign_stores (thn (he pins s σ H _ I h) fun v s1 ⟨x, H1, I1, r1, q1⟩ => ?_) hs hw
  rw [h1]
  exact thn (hg pins s1 σ H1 x v _ I1 r1 q1) fun _ s2 q => q
theorem ps_set {i : Nat} {x : Str} {e : Expr} {te : TE} {pos' : Pos} (hN : X.N.Nodup) (hi : X.N[i]? = some x) (hx : Loc X.env.scope x) (he : PE X e te) (hs : swapsWith e (some (.Name x pos')) pos.line X.env = pure false := by rfl) (hf : X.fn x = true ∨ X.env.scope.names.lookup x = some .local := by first | exact .inl rfl | exact .inr rfl | assumption) :
    PS X (.Assign [.Name x pos'] e pos) (tAsg te (gName i)) := by
  intro pins s σ H D I h
  refine wpAny_Assign_Name (thn (he pins s σ H _ I h) fun v s1 ⟨y, H1, I1, r1, q1⟩ => ?_) hs
  exact store_ok I1 hN hi hx r1 (fun s2 I2 => ⟨_, H1, I2, q1⟩) hf
end
section
variable {X : Cx} {pos : Pos}
end
structure It where
  go : Nat → Hp → Prop
  yld : Nat → Hp → V → Hp → Prop
  stop : Nat → Hp → Prop
def FpOk (X : Cx) (pins : List (Addr × Obj)) (H : Hp) (b : Addr) : Prop :=
  H b = none ∧ b ≠ X.env.locals ∧ b ∉ X.fs ∧ (b ∈ X.ex ∨ X.s₀.heap.objs.size ≤ b) ∧ (∀ x c, X.env.cells.lookup x = some c → c ≠ b) ∧ ∀ p ∈ X.pn ++ pins, p.1 ≠ b
theorem Inv.fpOk {X : Cx} {pins : List (Addr × Obj)} {σ : St} {H H' : Hp} {s : Shared} {b : Addr} (I : Inv X pins σ H s) (hb : s.heap.objs.size ≤ b) (hn : H' b = none) : FpOk X pins H' b := by
  refine ⟨hn, Nat.ne_of_gt (Nat.lt_of_lt_of_le I.lt hb), I.nofs hb, .inr (Nat.le_trans I.sz hb), fun x c e z => ?_, fun p hp z => ?_⟩
  · obtain ⟨v, q⟩ := I.cell x c e
    exact absurd (Nat.lt_of_lt_of_le q.lt (by rw [z]; exact hb)) (Nat.lt_irrefl _)
  · exact absurd (Nat.lt_of_lt_of_le (Heap.lt_size (I.pin p hp).1) (by rw [z]; exact hb)) (Nat.lt_irrefl _)
structure Turn (P : Program) (w : World) (K : PySem.W.Frag) (tg : Expr) (J : It) (fp : List Addr) (it : Addr) (tn : Nat → Heap → Prop) : Prop where
  mem : it ∈ fp
  obj : ∀ i h, tn i h → ∀ b ∈ fp, ∃ o, h.get? b = some o ∧ ∀ v, o.data ≠ .cell v
  keep : ∀ i h h', tn i h → (∀ b ∈ fp, ∀ o, h.get? b = some o → h'.get? b = some o) → tn i h'
  item : ∀ (X : Cx), X.prog = P → X.w = w → X.K = K → X.calm = true → ∀ (i : Nat) (pins : List (Addr × Obj)) (s : Shared) (σ : St) (H : Hp) (E : Value → Shared → Prop), Inv X pins σ H s → (∀ b ∈ fp, FpOk X pins H b) → tn i s.heap → J.go i H →
    wpAny (model P w) X.A (pyNext (.ref it)) (fun r s1 => ∃ u, r = some u ∧
      wpAny (model P w) X.A (letOwnedTupleGo tg (.ref it) u) (fun _ s2 => ∃ x H', Inv X pins σ H' s2 ∧ RelV x u ∧ J.yld i H x H' ∧ tn (i + 1) s2.heap ∧ ∀ b ∈ fp, H' b = none) E s1) E s
  done : ∀ (X : Cx), X.prog = P → X.w = w → X.K = K → X.calm = true → ∀ (i : Nat) (pins : List (Addr × Obj)) (s : Shared) (σ : St) (H : Hp) (E : Value → Shared → Prop), Inv X pins σ H s → (∀ b ∈ fp, FpOk X pins H b) → tn i s.heap → J.stop i H →
    wpAny (model P w) X.A (pyNext (.ref it)) (fun r s1 => r = none ∧ Inv X pins σ H s1) E s
  self : ∀ (A : Around) (i : Nat) (s : Shared) (Q : Value → Shared → Prop) (E : Value → Shared → Prop), tn i s.heap → Q (.ref it) s → wpAny (model P w) A (pyIter (.ref it)) Q E s
abbrev TI := St → Hp → (It → Hp → Prop) → Prop
def PIE (X : Cx) (pins : List (Addr × Obj)) (σ : St) (tg : Expr) (R : It → Hp → Prop) (itv : Value) (s2 : Shared) : Prop :=
  ∃ (it : Addr) (fp : List Addr) (tn : Nat → Heap → Prop) (J : It) (H' : Hp), itv = .ref it ∧ Inv X pins σ H' s2 ∧ Turn X.prog X.w X.K tg J fp it tn ∧ tn 0 s2.heap ∧ (∀ b ∈ fp, FpOk X pins H' b) ∧ R J H'
def PI (X : Cx) (tg iter : Expr) (wi : TI) : Prop :=
  ∀ (pins : List (Addr × Obj)) (s : Shared) (σ : St) (H : Hp) (R : It → Hp → Prop), Inv X pins σ H s → wi σ H R →
    wpAny (model X.prog X.w) X.A (eval iter X.env) (fun v s1 => wpAny (model X.prog X.w) X.A (pyIter v) (PIE X pins σ tg R) X.xe s1) X.xe s
theorem go_of {M : Model} {A : Around} {E : Value → Shared → Prop} {s : Shared} {tg : Expr} {it : Addr} {u : Value} {o : Obj} {n : String} {vs : Array Value} {Q : Unit → Shared → Prop} (ho : s.heap.get? it = some o) (hc : o.cls = .type n) (hd : o.data = .fields vs)
    (hn : ["enumerate", "zip", "dict_itemiterator", "dict_reverseitemiterator", "odict_iterator", "itertools.zip_longest", "itertools.pairwise"].contains n = false) (hQ : Q () s) : wpAny M A (letOwnedTupleGo tg (.ref it) u) Q E s := by
  unfold letOwnedTupleGo
  cases tg <;> first
    | exact wpAny_pure hQ
    | (cases u <;> first
        | exact wpAny_pure hQ
        | (refine wpAny_bind (wpAny_load ho ?_)
           rw [hc, hd]
           show wpAny M A (if (["enumerate", "zip", "dict_itemiterator", "dict_reverseitemiterator", "odict_iterator", "itertools.zip_longest", "itertools.pairwise"].contains n && vs[0]? == some (rawInt _)) = true then _ else _) Q E s
           rw [if_neg (by intro h; rw [hn, Bool.false_and] at h; cases h)]
           exact wpAny_pure hQ))
def Itl (K : PySem.W.Frag) (a : Addr) : It :=
  ⟨fun i H => ∃ xs x, SqL K H a xs ∧ xs[i]? = some x, fun i H x H' => H' = H ∧ ∀ xs, SqL K H a xs → xs[i]? = some x, fun i H => ∃ xs, SqL K H a xs ∧ xs.length ≤ i⟩
def Itr (lo : Int) (n : Nat) : It := ⟨fun i _ => i < n, fun i H x H' => H' = H ∧ x = .int (lo + i), fun i _ => n ≤ i⟩
theorem turn_list {P : Program} {w : World} {K : PySem.W.Frag} {tg : Expr} (a it : Addr) : Turn P w K tg (Itl K a) [it] it (fun i h => h.IsListIter it a i) where
  mem := by simp
  obj := fun i h st b hb => by
    have e : b = it := by simpa using hb
    subst e
    obtain ⟨o, e, c, d⟩ := st
    exact ⟨o, e, fun v z => by rw [d] at z; cases z⟩
  keep := fun i h h' st k => st.at fun o e => k it (by simp) o e
  item := by
    intro X hP hw hK hc i pins s σ H E I hf st hg
    subst hP hw hK
    obtain ⟨xs, x, hq, hx⟩ := hg
    obtain ⟨its, rv, p, hz⟩ := I.list hq
    obtain ⟨u, hu, ru⟩ := rv.get hx
    obtain ⟨f0, f1, f2, f3, f4, f5⟩ := hf it (by simp)
    refine wpAny_pyNext_list_item st p.isList (x := u) (by simpa using hu) fun h' st' sb => ?_
    have I1 : Inv X pins σ H { s with heap := h' } := I.turned (t' := s.toks) (fun b o hb e => (sb.2 b hb).trans e) f0 f1 f3 f4 f5
    obtain ⟨o, e, c, d⟩ := id st'
    exact ⟨u, rfl, go_of (s := { s with heap := h' }) e c d (by decide) ⟨x, H, I1, ru, ⟨rfl, fun ys hy => by rw [I.list_inj hy hq]; exact hx⟩, st', fun b hb => (hf b hb).1⟩⟩
  done := by
    intro X hP hw hK hc i pins s σ H E I hf st hg
    subst hP hw hK
    obtain ⟨xs, hq, hx⟩ := hg
    obtain ⟨its, rv, p, hz⟩ := I.list hq
    obtain ⟨f0, f1, f2, f3, f4, f5⟩ := hf it (by simp)
    have hl := rv.length
    exact wpAny_pyNext_list_end (I.ok.hd hc) st p.isList (by simp; omega) fun h' eb => ⟨rfl, I.turned (t' := s.toks) (fun b o hb e => eb b o hb e) f0 f1 f3 f4 f5⟩
  self := fun _ _ _ _ _ st h => wpAny_pyIter_listiter st h
theorem turn_range {P : Program} {w : World} {K : PySem.W.Frag} {tg : Expr} (it : Addr) (lo : Int) (n : Nat) : Turn P w K tg (Itr lo n) [it] it (fun i h => IsRangeIter h it (lo + (i : Nat) * 1) ((n : Int) - (i : Nat)) 1) where
  mem := by simp
  obj := fun i h st b hb => by
    have e : b = it := by simpa using hb
    subst e
    exact ⟨_, st, fun v z => by
      have z' : Data.fields _ = Data.cell v := z
      cases z'⟩
  keep := fun i h h' st k => k it (by simp) _ st
  item := by
    intro X hP hw hK hc i pins s σ H E I hf st hg
    subst hP hw hK
    obtain ⟨f0, f1, f2, f3, f4, f5⟩ := hf it (by simp)
    have W := Walks.range (prog := X.prog) (w := X.w) (I.ok.hd hc) it lo 1 n
    refine W.item i s _ _ hg st fun v h' tk hv st' kk => ?_
    obtain ⟨t, rfl⟩ := hv
    have I1 : Inv X pins σ H { s with heap := h', toks := tk } := I.turned (fun b o hb e => kk b o (by simpa using hb) e) f0 f1 f3 f4 f5
    refine ⟨_, rfl, go_of (s := { s with heap := h', toks := tk }) (n := "range_iterator") st' rfl rfl (by decide) ⟨.int (lo + i), H, I1, ⟨t, ?_⟩, ⟨rfl, rfl⟩, st', fun b hb => (hf b hb).1⟩⟩
    rw [Int.mul_one]
  done := by
    intro X hP hw hK hc i pins s σ H E I hf st hg
    subst hP hw hK
    obtain ⟨f0, f1, f2, f3, f4, f5⟩ := hf it (by simp)
    exact wpAny_pyNext_range_end (I.ok.hd hc) st (by have : n ≤ i := hg; omega) fun h' eb => ⟨rfl, I.turned (t' := s.toks) (fun b o hb e => eb b o hb e) f0 f1 f3 f4 f5⟩
  self := fun _ _ _ _ _ st h => wpAny_pyIter_rangeiter st h
end L2
namespace L2
open PySem PySem.Spec PyProof.Rows
section
variable {X : Cx} {tg : Expr}
def iList (K : PySem.W.Frag) (tl : TE) : TI := fun σ H R => tl σ H fun x H1 => ∃ a, x = .ref a ∧ (∃ xs, SqL K H1 a xs) ∧ R (Itl K a) H1
theorem pi_list {l : Expr} {tl : TE} (hl : PE X l tl) : PI X tg l (iList X.K tl) := by
  intro pins s σ H R I h
  refine thn (hl pins s σ H _ I h) fun v s1 ⟨x, H1, I1, r1, q1⟩ => ?_
  obtain ⟨a, e, ⟨xs, hq⟩, q⟩ := q1
  subst e
  cases r1
  obtain ⟨its, rv, p, hz⟩ := I1.list hq
  refine wpAny_pyIter_list p.isList ?_
  refine ⟨s1.heap.objs.size, [s1.heap.objs.size], _, _, H1, rfl, I1.kept (t' := s1.toks) fun b o e => Heap.get?_push_of_some _ e, turn_list a _, ⟨_, Heap.get?_push_size _ rfl, rfl, rfl⟩, fun b hb => ?_, q⟩
  have e : b = s1.heap.objs.size := by simpa using hb
  subst e
  exact I1.fpOk (Nat.le_refl _) (I1.hok.fresh (Nat.le_refl _))
theorem range_it {pins : List (Addr × Obj)} {σ : St} {H : Hp} {s : Shared} {R : It → Hp → Prop} {E : Value → Shared → Prop} {lo hi : Int} {t u v : Tok} {tk : Nat} (I : Inv X pins σ H s) (h1 : -(2 ^ 62) ≤ lo) (h2 : lo < 2 ^ 62) (h3 : -(2 ^ 62) ≤ hi) (h4 : hi < 2 ^ 62)
    (q : R (Itr lo (hi - lo).toNat) H) : wpAny (model X.prog X.w) X.A (pyIter (.ref s.heap.objs.size)) (PIE X pins σ tg R) E { s with heap := s.heap.push { cls := .type "range", data := .fields #[.int lo t, .int hi u, .int 1 v] }, toks := tk } := by
  refine wpAny_pyIter_range (IsRange.new ..) (small_one h1 h2 h3 h4) ?_
  have I1 : Inv X pins σ H { s with heap := s.heap.push { cls := .type "range", data := .fields #[.int lo t, .int hi u, .int 1 v] }, toks := tk } := I.kept fun b o e => Heap.get?_push_of_some _ e
  refine ⟨(s.heap.push { cls := .type "range", data := .fields #[.int lo t, .int hi u, .int 1 v] }).objs.size, [(s.heap.push { cls := .type "range", data := .fields #[.int lo t, .int hi u, .int 1 v] }).objs.size], _, _, H, rfl,
    I1.kept (t' := tk) fun b o e => Heap.get?_push_of_some _ e, turn_range _ lo (hi - lo).toNat, ?_, fun b hb => ?_, q⟩
  · have e1 : lo + ((0 : Nat) : Int) * 1 = lo := by simp
    have e2 : (((hi - lo).toNat : Nat) : Int) - ((0 : Nat) : Int) = Builtin.Range.rangeSize lo hi 1 := by rw [rangeSize_one]; split <;> omega
    show IsRangeIter _ _ (lo + ((0 : Nat) : Int) * 1) ((((hi - lo).toNat : Nat) : Int) - ((0 : Nat) : Int)) 1
    rw [e1, e2]
    exact Heap.get?_push_size _ rfl
  · have e : b = (s.heap.push { cls := .type "range", data := .fields #[.int lo t, .int hi u, .int 1 v] }).objs.size := by simpa using hb
    subst e
    exact I1.fpOk (Nat.le_refl _) (I1.hok.fresh (Nat.le_refl _))
def iRng1 (ta : TA) : TI := fun σ H R => ta σ H fun vs H1 => ∃ j : Int, vs = [.int j] ∧ -(2 ^ 62) ≤ j ∧ j < 2 ^ 62 ∧ R (Itr 0 j.toNat) H1
theorem pi_range1 {a : Expr} {ta : TA} {p pos : Pos} (hg : Gl X "range") (hm : X.mg "range" = none) (ha : PA X [a] ta) (hs : starEach [a] X.env = [(false, eval a X.env)] := by rfl) : PI X tg (.Call (.Name "range" p) [a] [] pos) (iRng1 ta) := by
  intro pins s σ H R I h
  refine Call_ (ld_blt I hg hm boot_range (PyProof.Rows.callWith_type1 (thn (ha pos pins s σ H _ I h) fun us s1 ⟨vs, H1, I1, r1, q1⟩ => ?_) hs rfl))
  obtain ⟨j, e, q1, q2, q⟩ := q1
  subst e
  cases r1 with
  | cons r rr =>
    cases rr
    obtain ⟨t, rfl⟩ := r
    exact call_range_1 (range_it I1 (by omega) (by omega) q1 q2 (by simpa using q))
def tFor (wi : TI) (g : TG) (tb : TS) : TS := fun D σ H => wi σ H fun J H1 => ∃ W : Nat → Nat → St → Hp → Prop, (∃ m, W 0 m σ H1) ∧ ∀ i m σ H, W i m σ H →
  (J.stop i H ∧ D.nx σ H) ∨ (J.go i H ∧ ∃ N : St → Hp → Prop, (∀ σ' H', N σ' H' → ∃ m', m' < m ∧ W (i + 1) m' σ' H') ∧ ∀ x H', J.yld i H x H' → g x σ H' fun σ2 H2 => tb { D with nx := N, ct := N, bk := D.nx } σ2 H2)
def pinsAt (fp : List Addr) (h : Heap) : List (Addr × Obj) := fp.filterMap fun b => (h.get? b).map fun o => (b, o)
theorem mem_pinsAt {fp : List Addr} {h : Heap} {b : Addr} {o : Obj} (hb : b ∈ fp) (e : h.get? b = some o) : (b, o) ∈ pinsAt fp h := List.mem_filterMap.mpr ⟨b, hb, by rw [e]; rfl⟩
theorem of_pinsAt {fp : List Addr} {h : Heap} {p : Addr × Obj} (hp : p ∈ pinsAt fp h) : p.1 ∈ fp ∧ h.get? p.1 = some p.2 := by
  obtain ⟨b, hb, e⟩ := List.mem_filterMap.mp hp
  cases q : h.get? b with
  | none => rw [q] at e; cases e
  | some o =>
    rw [q] at e
    have e' : (b, o) = p := Option.some.inj e
    subst e'
    exact ⟨hb, q⟩
theorem Inv.pinned {pins : List (Addr × Obj)} {σ : St} {H : Hp} {s : Shared} {fp : List Addr} (I : Inv X pins σ H s) (hf : ∀ b ∈ fp, FpOk X pins H b) (ho : ∀ b ∈ fp, ∃ o, s.heap.get? b = some o ∧ ∀ v, o.data ≠ .cell v) : Inv X (pins ++ pinsAt fp s.heap) σ H s :=
  I.pins_of fun p hp => (List.mem_append.mp hp).elim (fun z => I.pin p (List.mem_append_right _ z)) fun z => by
    obtain ⟨hb, e⟩ := of_pinsAt z
    obtain ⟨f0, f1, f2, _⟩ := hf p.1 hb
    obtain ⟨o, e', d⟩ := ho p.1 hb
    rw [e] at e'; cases e'
    exact ⟨e, f0, f1, f2, d⟩
theorem Inv.unpinned {pins pl : List (Addr × Obj)} {σ : St} {H : Hp} {s : Shared} (I : Inv X (pins ++ pl) σ H s) : Inv X pins σ H s := I.pins_of fun p hp => I.pin p (List.mem_append_right _ (List.mem_append_left _ hp))
theorem ps_for {iter : Expr} {body : List Stmt} {wi : TI} {g : TG} {tb : TS} {pos : Pos} (hp : PassesOwn (model X.prog X.w) X.A X.env X.xe) (hc : X.calm = true) (hi : PI X tg iter wi) (hg : PG X tg g) (hb : PSs X body tb)
    (hs : ∀ x, foldedSetIterable iter X.env x = pure x := by intro _; rfl) : PS X (.For tg iter body [] pos) (tFor wi g tb) := by
  intro pins s σ H D I h
  refine wpAny_For (thn (hi pins s σ H _ I h) fun v s1 h1 => thn h1 fun itv s2 h2 => ?_) hs
  obtain ⟨it, fp, tn, J, H2, e, I2, T, st2, f2, W, ⟨m0, w0⟩, turn⟩ := h2
  subst e
  have stat : ∀ {H' : Hp}, (∀ b ∈ fp, H' b = none) → ∀ b ∈ fp, FpOk X pins H' b := fun hn b hb => ⟨hn b hb, (f2 b hb).2⟩
  refine codeAny_forLoop_any (fun n s' => ∃ i σ' H', Inv X pins σ' H' s' ∧ tn i s'.heap ∧ (∀ b ∈ fp, H' b = none) ∧ W i n σ' H') ?_ m0 ⟨0, σ, H2, I2, st2, fun b hb => (f2 b hb).1, w0⟩
  rintro n s3 ⟨i, σ3, H3, I3, st3, fr3, w3⟩
  rcases turn i n σ3 H3 w3 with ⟨stop, qn⟩ | ⟨go, N, hN, step⟩
  · refine wpAny_passesOwn hp (thn (T.done X rfl rfl rfl hc i pins s3 σ3 H3 X.xe I3 (stat fr3) st3 stop) fun r s4 ⟨hr, I4⟩ => ?_)
    subst hr
    exact wpAny_execs_nil ⟨σ3, H3, I4, qn⟩
  · refine wpAny_passesOwn hp (thn (T.item X rfl rfl rfl hc i pins s3 σ3 H3 X.xe I3 (stat fr3) st3 go) fun r s4 ⟨u, hr, h4⟩ => ?_)
    subst hr
    refine wpAny_passesOwn hp (thn h4 fun _ s5 ⟨x, H5, I5, r5, y5, st5, fr5⟩ => ?_)
    have I5' := I5.pinned (stat fr5) (T.obj _ _ st5)
    refine wpAny_passesOwn hp (thn (hg _ s5 σ3 H5 x u _ I5' r5 (step x H5 y5)) fun _ s6 ⟨σ6, H6, I6, q6⟩ => ?_)
    refine wpAny_passesOwn hp (thn (hb _ s6 σ6 H6 _ I6 q6) fun f s7 q7 => ?_)
    have again : ∀ {σ7 : St} {H7 : Hp}, Inv X (pins ++ pinsAt fp s5.heap) σ7 H7 s7 → N σ7 H7 → ∃ m, m < n ∧ ∃ i σ' H', Inv X pins σ' H' s7 ∧ tn i s7.heap ∧ (∀ b ∈ fp, H' b = none) ∧ W i m σ' H' := fun {σ7 H7} I7 n7 => by
      obtain ⟨m', hm, w7⟩ := hN σ7 H7 n7
      refine ⟨m', hm, i + 1, σ7, H7, I7.unpinned, T.keep _ _ _ st5 fun b hb o e => (I7.pin (b, o) (List.mem_append_right _ (List.mem_append_right _ (mem_pinsAt hb e)))).1, fun b hb => ?_, w7⟩
      obtain ⟨o, e, d⟩ := T.obj _ _ st5 b hb
      exact (I7.pin (b, o) (List.mem_append_right _ (List.mem_append_right _ (mem_pinsAt hb e)))).2.1
    cases f with
    | next => obtain ⟨σ7, H7, I7, n7⟩ := q7; exact again I7 n7
    | cont => obtain ⟨σ7, H7, I7, n7⟩ := q7; exact again I7 n7
    | brk => obtain ⟨σ7, H7, I7, q7⟩ := q7; exact ⟨σ7, H7, I7.unpinned, q7⟩
    | ret v => obtain ⟨x7, σ7, H7, I7, r7, q7⟩ := q7; exact ⟨x7, σ7, H7, I7.unpinned, r7, q7⟩
end
theorem for_list {K : PySem.W.Frag} {a : Addr} {xs : List V} {g : TG} {tb : TS} {D : Ends} {σ : St} {H : Hp} (Pv : Nat → St → Hp → Prop) (h0 : Pv 0 σ H) (hl : ∀ i σ H, i ≤ xs.length → Pv i σ H → SqL K H a xs)
    (hs : ∀ i x σ H, xs[i]? = some x → Pv i σ H → g x σ H fun σ2 H2 => tb { D with nx := Pv (i + 1), ct := Pv (i + 1), bk := D.nx } σ2 H2) (hd : ∀ σ H, Pv xs.length σ H → D.nx σ H) :
    ∃ W : Nat → Nat → St → Hp → Prop, (∃ m, W 0 m σ H) ∧ ∀ i m σ H, W i m σ H →
      ((Itl K a).stop i H ∧ D.nx σ H) ∨ ((Itl K a).go i H ∧ ∃ N : St → Hp → Prop, (∀ σ' H', N σ' H' → ∃ m', m' < m ∧ W (i + 1) m' σ' H') ∧ ∀ x H', (Itl K a).yld i H x H' → g x σ H' fun σ2 H2 => tb { D with nx := N, ct := N, bk := D.nx } σ2 H2) := by
  refine ⟨fun i m σ H => m = xs.length - i ∧ i ≤ xs.length ∧ Pv i σ H, ⟨xs.length, by simp, Nat.zero_le _, h0⟩, ?_⟩
  rintro i m σ H ⟨rfl, hi, p⟩
  have q := hl i σ H hi p
  by_cases hlt : i < xs.length
  · refine .inr ⟨⟨xs, xs[i], q, by simp [hlt]⟩, Pv (i + 1), fun σ' H' p' => ⟨xs.length - (i + 1), by omega, rfl, hlt, p'⟩, fun x H' y => ?_⟩
    obtain ⟨e, y⟩ := y
    subst e
    exact hs i x σ _ (y xs q) p
  · have e : i = xs.length := by omega
    subst e
    exact .inl ⟨⟨xs, q, Nat.le_refl _⟩, hd σ H p⟩
theorem for_range {lo : Int} {n : Nat} {g : TG} {tb : TS} {D : Ends} {σ : St} {H : Hp} (Pv : Nat → St → Hp → Prop) (h0 : Pv 0 σ H)
    (hs : ∀ i σ H, i < n → Pv i σ H → g (.int (lo + i)) σ H fun σ2 H2 => tb { D with nx := Pv (i + 1), ct := Pv (i + 1), bk := D.nx } σ2 H2) (hd : ∀ σ H, Pv n σ H → D.nx σ H) :
    ∃ W : Nat → Nat → St → Hp → Prop, (∃ m, W 0 m σ H) ∧ ∀ i m σ H, W i m σ H →
      ((Itr lo n).stop i H ∧ D.nx σ H) ∨ ((Itr lo n).go i H ∧ ∃ N : St → Hp → Prop, (∀ σ' H', N σ' H' → ∃ m', m' < m ∧ W (i + 1) m' σ' H') ∧ ∀ x H', (Itr lo n).yld i H x H' → g x σ H' fun σ2 H2 => tb { D with nx := N, ct := N, bk := D.nx } σ2 H2) := by
  refine ⟨fun i m σ H => m = n - i ∧ i ≤ n ∧ Pv i σ H, ⟨n, by simp, Nat.zero_le _, h0⟩, ?_⟩
  rintro i m σ H ⟨rfl, hi, p⟩
  by_cases hlt : i < n
  · refine .inr ⟨hlt, Pv (i + 1), fun σ' H' p' => ⟨n - (i + 1), by omega, rfl, hlt, p'⟩, fun x H' y => ?_⟩
    obtain ⟨e, y⟩ := y
    subst e y
    exact hs i σ _ hlt p
  · have e : i = n := by omega
    subst e
    exact .inl ⟨Nat.le_refl _, hd σ H p⟩
end L2
namespace L2
open PySem PySem.Spec PyProof.Rows
abbrev R2 := V → V → Hp → VK → Prop
def OpR (X : Cx) (f : Value → Value → Sem Value) (r : R2) : Prop :=
  ∀ (pins : List (Addr × Obj)) (s : Shared) (σ : St) (H : Hp) (x y : V) (v u : Value) (Q : VK), Inv X pins σ H s → RelV x v → RelV y u → r x y H Q →
    wpAny (model X.prog X.w) X.A (f v u) (EP X pins σ Q) X.xe s
def CallR (X : Cx) (f : Value) (r : List V → Hp → VK → Prop) : Prop :=
  ∀ (pins : List (Addr × Obj)) (s : Shared) (σ : St) (H : Hp) (xs : List V) (us : List Value) (Q : VK), Inv X pins σ H s → Vals xs us → r xs H Q →
    wpAny (model X.prog X.w) X.A (call f us) (EP X pins σ Q) X.xe s
def tOp (r : R2) (ta tb : TE) : TE := fun σ H Q => ta σ H fun x H1 => tb σ H1 fun y H2 => r x y H2 Q
def rI (C : Int → Int → Prop) (g : Int → Int → V) : R2 := fun x y H Q => ∃ i j, x = .int i ∧ y = .int j ∧ C i j ∧ Q (g i j) H
def rI0 (g : Int → Int → V) : R2 := fun x y H Q => ∃ i j, x = .int i ∧ y = .int j ∧ Q (g i j) H
section
variable {X : Cx} {a b c : Expr} {ta tb tc : TE} {pos : Pos}
theorem binT (ha : PE X a ta) (hb : PE X b tb) {pins : List (Addr × Obj)} {s : Shared} {σ : St} {H : Hp} {R : V → V → Hp → Prop} (I : Inv X pins σ H s)
    (h : ta σ H fun x H1 => tb σ H1 fun y H2 => R x y H2) {Q : Value → Shared → Prop} {f : Value → Value → Sem Value}
    (hf : ∀ v u s2 x y H2, Inv X pins σ H2 s2 → RelV x v → RelV y u → R x y H2 → wpAny (model X.prog X.w) X.A (f v u) Q X.xe s2) :
    wpAny (model X.prog X.w) X.A (eval a X.env) (fun v s₁ => wpAny (model X.prog X.w) X.A (eval b X.env) (fun u s₂ => wpAny (model X.prog X.w) X.A (f v u) Q X.xe s₂) X.xe s₁) X.xe s := by
  refine thn (ha pins s σ H _ I h) fun v s1 ⟨x, H1, I1, r1, q1⟩ => ?_
  refine thn (hb pins s1 σ H1 _ I1 q1) fun u s2 ⟨y, H2, I2, r2, q2⟩ => ?_
  exact hf v u s2 x y H2 I2 r1 r2 q2
theorem pe_op {op : Operator} {r : R2} (ho : OpR X (binaryOp op) r) (ha : PE X a ta) (hb : PE X b tb) : PE X (.BinOp a op b pos) (tOp r ta tb) := by
  intro pins s σ H Q I h
  exact wpAny_BinOp (binT ha hb I h fun v u s2 x y H2 I2 rx ry q => ho pins s2 σ H2 x y v u Q I2 rx ry q)
theorem opI {f : Value → Value → Sem Value} {C : Int → Int → Prop} {g : Int → Int → Int}
    (rule : ∀ (i j : Int) (t u : Tok) (s : Shared) (Q : Value → Shared → Prop) (E : Value → Shared → Prop), C i j → Q (.int (g i j) s.toks) { s with toks := s.toks + 1 } → wpAny (model X.prog X.w) X.A (f (.int i t) (.int j u)) Q E s) :
    OpR X f (rI C fun i j => .int (g i j)) := by
  intro pins s σ H x y v u Q I rx ry h
  obtain ⟨i, j, rfl, rfl, hc, q⟩ := h
  obtain ⟨t, rfl⟩ := rx
  obtain ⟨t', rfl⟩ := ry
  exact rule i j t t' s _ _ hc ⟨.int (g i j), H, I.tok _, ⟨_, rfl⟩, q⟩
theorem opI0 {f : Value → Value → Sem Value} {g : Int → Int → Int}
    (rule : ∀ (i j : Int) (t u : Tok) (s : Shared) (Q : Value → Shared → Prop) (E : Value → Shared → Prop), Q (.int (g i j) s.toks) { s with toks := s.toks + 1 } → wpAny (model X.prog X.w) X.A (f (.int i t) (.int j u)) Q E s) :
    OpR X f (rI0 fun i j => .int (g i j)) := by
  intro pins s σ H x y v u Q I rx ry h
  obtain ⟨i, j, rfl, rfl, q⟩ := h
  obtain ⟨t, rfl⟩ := rx
  obtain ⟨t', rfl⟩ := ry
  exact rule i j t t' s _ _ ⟨.int (g i j), H, I.tok _, ⟨_, rfl⟩, q⟩
theorem opB0 {f : Value → Value → Sem Value} {g : Int → Int → Bool}
    (rule : ∀ (i j : Int) (t u : Tok) (s : Shared) (Q : Value → Shared → Prop) (E : Value → Shared → Prop), Q (.bool (g i j)) s → wpAny (model X.prog X.w) X.A (f (.int i t) (.int j u)) Q E s) :
    OpR X f (rI0 fun i j => .bl (g i j)) := by
  intro pins s σ H x y v u Q I rx ry h
  obtain ⟨i, j, rfl, rfl, q⟩ := h
  obtain ⟨t, rfl⟩ := rx
  obtain ⟨t', rfl⟩ := ry
  exact rule i j t t' s _ _ ⟨.bl (g i j), H, I, rfl, q⟩
def CDiv (i j : Int) : Prop := 0 < j ∧ j < 1073741824
def CPow (i j : Int) : Prop := 0 ≤ j ∧ j ≤ 1000000 ∧ i.natAbs < 2 ^ 64
def CMul (i j : Int) : Prop := (-(2 ^ 64) < i ∧ i < 2 ^ 64) ∨ (-(2 ^ 64) < j ∧ j < 2 ^ 64)
theorem CMul.ok {i j : Int} (h : CMul i j) : IntMulOk i j := by
  rcases h with ⟨h1, h2⟩ | ⟨h1, h2⟩
  · exact .of_left (intBits_le_64 h1 h2)
  · exact .of_right (intBits_le_64 h1 h2)
theorem op_add : OpR X (binaryOp .Add) (rI0 fun i j => .int (i + j)) := opI0 fun _ _ _ _ _ _ _ q => add_int q
theorem op_sub : OpR X (binaryOp .Sub) (rI0 fun i j => .int (i - j)) := opI0 fun _ _ _ _ _ _ _ q => sub_int q
theorem op_mul : OpR X (binaryOp .Mult) (rI CMul fun i j => .int (i * j)) := opI fun _ _ _ _ _ _ _ hc q => mul_int q hc.ok
theorem op_fdiv : OpR X (binaryOp .FloorDiv) (rI CDiv fun i j => .int (i / j)) := opI fun i j _ _ _ _ _ hc q => by
  have h1 : (0 : Int) < j := hc.1
  have h2 : j < 1073741824 := hc.2
  exact floordiv_int (by omega) (by rw [Int.fdiv_eq_ediv_of_nonneg i (by omega)]; exact q) (.inl (PyProof.noPylong_small (by omega)))
theorem op_mod : OpR X (binaryOp .Mod) (rI (fun _ j => 0 < j) fun i j => .int (i % j)) := opI fun i j _ _ _ _ _ hc q => by
  have h1 : (0 : Int) < j := hc
  exact mod_int' (by omega) (by rw [Int.fmod_eq_emod_of_nonneg i (by omega)]; exact q)
theorem op_pow : OpR X (binaryOp .Pow) (rI CPow fun i j => .int (i ^ j.toNat)) := opI fun _ _ _ _ _ _ _ hc q => pow_int_small hc.1 hc.2.1 hc.2.2 q
end
def scal : V → V → Bool
  | .non, .non => true | .non, .int _ => true | .int _, .non => true | .non, .bl _ => true | .bl _, .non => true | .non, .str _ => true | .str _, .non => true
  | .int _, .int _ => true | .bl _, .bl _ => true | .str _, .str _ => true | .byt _, .byt _ => true
  | .int _, .str _ => true | .str _, .int _ => true | .bl _, .str _ => true | .str _, .bl _ => true
  | _, _ => false
def rEq : R2 := fun x y H Q => scal x y = true ∧ Q (.bl (decide (x = y))) H
def rNe : R2 := fun x y H Q => scal x y = true ∧ Q (.bl (!decide (x = y))) H
theorem dec_int {i j : Int} : decide (V.int i = V.int j) = (i == j) := by
  rw [Bool.eq_iff_iff]
  simp
theorem dec_bl {i j : Bool} : decide (V.bl i = V.bl j) = (i == j) := by
  rw [Bool.eq_iff_iff]
  simp
theorem dec_str {i j : Str} : decide (V.str i = V.str j) = (i == j) := by
  rw [Bool.eq_iff_iff]
  simp
theorem dec_byt {i j : Array UInt8} : decide (V.byt i = V.byt j) = (i.toList == j.toList) := by
  rw [Bool.eq_iff_iff]
  cases i
  cases j
  simp
section
variable {X : Cx} {a b c : Expr} {ta tb tc : TE} {pos : Pos}
theorem fin_bl {pins : List (Addr × Obj)} {σ : St} {H : Hp} {s : Shared} {Q : VK} {k k' : Bool} (I : Inv X pins σ H s) (q : Q (.bl k) H) (e : k = k') : EP X pins σ Q (.bool k') s := by
  subst e
  exact ⟨.bl k, H, I, rfl, q⟩
theorem op_eq : OpR X (compareOp .Eq) rEq := by
  intro pins s σ H x y v u Q I rx ry h
  obtain ⟨hs, q⟩ := h
  cases x with
  | non =>
    cases rx
    cases y with
    | non => cases ry; exact PySem.EqNone.eq_none_none (fin_bl I q (by simp))
    | bl j => cases ry; exact PySem.EqNone.eq_none_bool (fin_bl I q (by simp))
    | int j => obtain ⟨t', rfl⟩ := ry; exact PySem.EqNone.eq_none_int (fin_bl I q (by simp))
    | str j => obtain ⟨t', rfl⟩ := ry; exact PySem.EqNone.eq_none_str (fin_bl I q (by simp))
    | _ => exact absurd (show false = true from hs) Bool.false_ne_true
  | bl i =>
    cases rx
    cases y with
    | non => cases ry; exact PySem.EqNone.eq_bool_none (fin_bl I q (by simp))
    | bl j => cases ry; exact eq_bool (fin_bl I q dec_bl)
    | str j => obtain ⟨t', rfl⟩ := ry; exact PySem.EqMixed.eq_bool_str (fin_bl I q (by simp))
    | _ => exact absurd (show false = true from hs) Bool.false_ne_true
  | int i =>
    obtain ⟨t, rfl⟩ := rx
    cases y with
    | non => cases ry; exact PySem.EqNone.eq_int_none (fin_bl I q (by simp))
    | int j => obtain ⟨t', rfl⟩ := ry; exact eq_int (fin_bl I q dec_int)
    | str j => obtain ⟨t', rfl⟩ := ry; exact PySem.EqMixed.eq_int_str (fin_bl I q (by simp))
    | _ => exact absurd (show false = true from hs) Bool.false_ne_true
  | str i =>
    obtain ⟨t, rfl⟩ := rx
    cases y with
    | non => cases ry; exact PySem.EqNone.eq_str_none (fin_bl I q (by simp))
    | bl j => cases ry; exact PySem.EqMixed.eq_str_bool (fin_bl I q (by simp))
    | int j => obtain ⟨t', rfl⟩ := ry; exact PySem.EqMixed.eq_str_int (fin_bl I q (by simp))
    | str j => obtain ⟨t', rfl⟩ := ry; exact eq_str (fin_bl I q dec_str)
    | _ => exact absurd (show false = true from hs) Bool.false_ne_true
  | byt i =>
    obtain ⟨t, rfl⟩ := rx
    cases y with
    | byt j => obtain ⟨t', rfl⟩ := ry; exact PySem.W.eq_bytes (fin_bl I q dec_byt)
    | _ => exact absurd (show false = true from hs) Bool.false_ne_true
  | _ => cases y <;> exact absurd (show false = true from hs) Bool.false_ne_true
theorem op_ne : OpR X (compareOp .NotEq) rNe := by
  intro pins s σ H x y v u Q I rx ry h
  obtain ⟨hs, q⟩ := h
  cases x with
  | non =>
    cases rx
    cases y with
    | non => cases ry; exact PySem.EqNone.ne_none_none (fin_bl I q (by simp))
    | bl j => cases ry; exact PySem.EqNone.ne_none_bool (fin_bl I q (by simp))
    | int j => obtain ⟨t', rfl⟩ := ry; exact PySem.EqNone.ne_none_int (fin_bl I q (by simp))
    | str j => obtain ⟨t', rfl⟩ := ry; exact PySem.EqNone.ne_none_str (fin_bl I q (by simp))
    | _ => exact absurd (show false = true from hs) Bool.false_ne_true
  | bl i =>
    cases rx
    cases y with
    | non => cases ry; exact PySem.EqNone.ne_bool_none (fin_bl I q (by simp))
    | bl j => cases ry; exact ne_bool (fin_bl I q (congrArg not dec_bl))
    | str j => obtain ⟨t', rfl⟩ := ry; exact PySem.EqMixed.ne_bool_str (fin_bl I q (by simp))
    | _ => exact absurd (show false = true from hs) Bool.false_ne_true
  | int i =>
    obtain ⟨t, rfl⟩ := rx
    cases y with
    | non => cases ry; exact PySem.EqNone.ne_int_none (fin_bl I q (by simp))
    | int j => obtain ⟨t', rfl⟩ := ry; exact ne_int (fin_bl I q (congrArg not dec_int))
    | str j => obtain ⟨t', rfl⟩ := ry; exact PySem.EqMixed.ne_int_str (fin_bl I q (by simp))
    | _ => exact absurd (show false = true from hs) Bool.false_ne_true
  | str i =>
    obtain ⟨t, rfl⟩ := rx
    cases y with
    | non => cases ry; exact PySem.EqNone.ne_str_none (fin_bl I q (by simp))
    | bl j => cases ry; exact PySem.EqMixed.ne_str_bool (fin_bl I q (by simp))
    | int j => obtain ⟨t', rfl⟩ := ry; exact PySem.EqMixed.ne_str_int (fin_bl I q (by simp))
    | str j => obtain ⟨t', rfl⟩ := ry; exact ne_str (fin_bl I q (congrArg not dec_str))
    | _ => exact absurd (show false = true from hs) Bool.false_ne_true
  | byt i =>
    obtain ⟨t, rfl⟩ := rx
    cases y with
    | byt j => obtain ⟨t', rfl⟩ := ry; exact PySem.W.ne_bytes (fin_bl I q (congrArg not dec_byt))
    | _ => exact absurd (show false = true from hs) Bool.false_ne_true
  | _ => cases y <;> exact absurd (show false = true from hs) Bool.false_ne_true
theorem op_lt : OpR X (compareOp .Lt) (rI0 fun i j => .bl (decide (i < j))) := opB0 fun _ _ _ _ _ _ _ q => lt_int q
theorem op_le : OpR X (compareOp .LtE) (rI0 fun i j => .bl (decide (i ≤ j))) := opB0 fun _ _ _ _ _ _ _ q => le_int q
theorem op_gt : OpR X (compareOp .Gt) (rI0 fun i j => .bl (decide (j < i))) := opB0 fun _ _ _ _ _ _ _ q => gt_int q
theorem nomark (b : Expr) {op : CmpOp} (h : op ≠ .In := by decide) (h2 : op ≠ .NotIn := by decide) : behindInMarks op b = false := by
  have e1 : (op == CmpOp.In) = false := by cases op <;> first | rfl | exact absurd rfl h
  have e2 : (op == CmpOp.NotIn) = false := by cases op <;> first | rfl | exact absurd rfl h2
  cases b <;> simp [behindInMarks, e1, e2]
theorem pe_cmpR {op : CmpOp} {r : R2} (ho : OpR X (compareOp op) r) (ha : PE X a ta) (hb : PE X b tb) (hm : behindInMarks op b = false) : PE X (.Compare a [op] [b] pos) (tOp r ta tb) := by
  intro pins s σ H Q I h
  exact wpAny_Compare1 (binT ha hb I h fun v u s2 x y H2 I2 rx ry q => ho pins s2 σ H2 x y v u Q I2 rx ry q) hm
def tTest (t : TE) : TT := fun σ H Q => t σ H fun x H' => ∃ k, x = .bl k ∧ Q k H'
theorem pt_cmpR {op : CmpOp} {r : R2} (ho : OpR X (compareOp op) r) (ha : PE X a ta) (hb : PE X b tb) (hm : behindInMarks op b = false) : PT X (.Compare a [op] [b] pos) (tTest (tOp r ta tb)) := by
  intro pins s σ H Q I h
  refine wpAny_isTrue_Compare1 (thn (ha pins s σ H _ I h) fun v s1 ⟨x, H1, I1, r1, q1⟩ => thn (hb pins s1 σ H1 _ I1 q1) fun u s2 ⟨y, H2, I2, r2, q2⟩ =>
    thn (ho pins s2 σ H2 x y v u _ I2 r1 r2 q2) fun c s3 ⟨z, H3, I3, r3, k, e, q3⟩ => ?_) hm
  subst e
  cases r3
  exact wpAny_truthy_bool ⟨H3, I3, q3⟩
def tChain (r r' : R2) (ta tb tc : TE) : TE := fun σ H Q => ta σ H fun x H1 => tb σ H1 fun y H2 => r x y H2 fun z H3 => ∃ k, z = .bl k ∧
  (if k = true then tc σ H3 fun w' H4 => r' y w' H4 Q else Q (.bl false) H3)
theorem pe_chain {op op' : CmpOp} {r r' : R2} (ho : OpR X (compareOp op) r) (ho' : OpR X (compareOp op') r') (ha : PE X a ta) (hb : PE X b tb) (hc : PE X c tc)
    (hm : lastMarks [op, op'] [b, c] = false := by with_unfolding_all rfl) : PE X (.Compare a [op, op'] [b, c] pos) (tChain r r' ta tb tc) := by
  intro pins s σ H Q I h
  refine Compare_chain (thn (ha pins s σ H _ I h) fun v s1 ⟨x, H1, I1, r1, q1⟩ => chain_link (thn (hb pins s1 σ H1 _ I1 q1) fun u s2 ⟨y, H2, I2, r2, q2⟩ =>
    thn (ho pins s2 σ H2 x y v u _ I2 r1 r2 q2) fun d s3 ⟨z, H3, I3, r3, k, e, q3⟩ => ?_)) hm
  subst e
  cases r3
  refine wpAny_truthy_bool ?_
  cases k with
  | false => exact ite_ff ⟨.bl false, H3, I3, rfl, q3⟩
  | true => exact ite_tt (chain_last (thn (hc pins s3 σ H3 _ I3 q3) fun w' s4 ⟨z', H4, I4, r4, q4⟩ => ho' pins s4 σ H4 y z' u w' Q I4 r2 r4 q4))
theorem pt_chain {op op' : CmpOp} {r r' : R2} (ho : OpR X (compareOp op) r) (ho' : OpR X (compareOp op') r') (ha : PE X a ta) (hb : PE X b tb) (hc : PE X c tc)
    (hm : lastMarks [op, op'] [b, c] = false := by with_unfolding_all rfl) : PT X (.Compare a [op, op'] [b, c] pos) (tTest (tChain r r' ta tb tc)) := by
  intro pins s σ H Q I h
  refine isTrue_chain (thn (ha pins s σ H _ I h) fun v s1 ⟨x, H1, I1, r1, q1⟩ => test_link (thn (hb pins s1 σ H1 _ I1 q1) fun u s2 ⟨y, H2, I2, r2, q2⟩ =>
    thn (ho pins s2 σ H2 x y v u _ I2 r1 r2 q2) fun d s3 ⟨z, H3, I3, r3, k, e, q3⟩ => ?_)) hm
  subst e
  cases r3
  refine wpAny_truthy_bool ?_
  cases k with
  | false =>
    obtain ⟨k', e', q'⟩ := q3
    cases e'
    exact ite_ff ⟨H3, I3, q'⟩
  | true =>
    refine ite_tt (test_last (thn (hc pins s3 σ H3 _ I3 q3) fun w' s4 ⟨z', H4, I4, r4, q4⟩ => thn (ho' pins s4 σ H4 y z' u w' _ I4 r2 r4 q4) fun d' s5 ⟨z2, H5, I5, r5, k2, e2, q5⟩ => ?_))
    subst e2
    cases r5
    exact wpAny_truthy_bool ⟨H5, I5, q5⟩
theorem line63 : (sizeLine : Nat) < 2 ^ 63 := by rw [sizeLine_eq]; decide
theorem op_add_str : OpR X (binaryOp .Add) (fun x y H Q => ∃ i j, x = .str i ∧ y = .str j ∧ i.length + j.length ≤ sizeLine ∧ Q (.str (i ++ j)) H) := by
  intro pins s σ H x y v u Q I rx ry h
  obtain ⟨i, j, rfl, rfl, hz, q⟩ := h
  obtain ⟨t, rfl⟩ := rx
  obtain ⟨t', rfl⟩ := ry
  exact add_str (fun t' tk => ⟨.str (i ++ j), H, I.tok _, ⟨_, rfl⟩, q⟩) hz
theorem vals1 {x : V} {us : List Value} (r : Vals [x] us) : ∃ u, us = [u] ∧ RelV x u := by
  cases r with
  | cons r1 r2 => cases r2; exact ⟨_, rfl, r1⟩
theorem vals2 {x y : V} {us : List Value} (r : Vals [x, y] us) : ∃ u w', us = [u, w'] ∧ RelV x u ∧ RelV y w' := by
  cases r with
  | cons r1 r2 =>
    cases r2 with
    | cons r3 r4 => cases r4; exact ⟨_, _, rfl, r1, r3⟩
theorem call_max2 (hc : X.calm = true) : CallR X (.builtin "max") (fun xs H Q => ∃ i j, xs = [.int i, .int j] ∧ Q (.int (if j > i then j else i)) H) := by
  intro pins s σ H xs us Q I r h
  obtain ⟨i, j, rfl, q⟩ := h
  obtain ⟨u, w', rfl, ⟨t, rfl⟩, ⟨t', rfl⟩⟩ := vals2 r
  refine max_two_ints (I.ok.hd hc) fun h' tk k => ⟨_, H, I.kept k, ?_, q⟩
  by_cases hj : j > i
  · rw [if_pos hj, if_pos hj]; exact ⟨_, rfl⟩
  · rw [if_neg hj, if_neg hj]; exact ⟨_, rfl⟩
theorem call_min2 (hc : X.calm = true) : CallR X (.builtin "min") (fun xs H Q => ∃ i j, xs = [.int i, .int j] ∧ Q (.int (if j < i then j else i)) H) := by
  intro pins s σ H xs us Q I r h
  obtain ⟨i, j, rfl, q⟩ := h
  obtain ⟨u, w', rfl, ⟨t, rfl⟩, ⟨t', rfl⟩⟩ := vals2 r
  refine min_two_ints (I.ok.hd hc) fun h' tk k => ⟨_, H, I.kept k, ?_, q⟩
  by_cases hj : j < i
  · rw [if_pos hj, if_pos hj]; exact ⟨_, rfl⟩
  · rw [if_neg hj, if_neg hj]; exact ⟨_, rfl⟩
theorem call_int1 : CallR X (.type "int") (fun xs H Q => (∃ i, xs = [.int i] ∧ Q (.int i) H) ∨ ∃ k, xs = [.bl k] ∧ Q (.int (if k then 1 else 0)) H) := by
  intro pins s σ H xs us Q I r h
  rcases h with ⟨i, rfl, q⟩ | ⟨k, rfl, q⟩
  · obtain ⟨u, rfl, t, rfl⟩ := vals1 r
    exact call_int_int ⟨.int i, H, I, ⟨_, rfl⟩, q⟩
  · obtain ⟨u, rfl, r1⟩ := vals1 r
    cases r1
    exact call_int_bool ⟨.int (if k then 1 else 0), H, I.tok _, ⟨_, rfl⟩, q⟩
end
end L2
namespace L2
open PySem PySem.Spec PyProof.Rows
structure ObjM (h : Heap) (x dx C : Addr) (mA : Str → Option Value) : Prop where
  obj : h.get? x = some (PySem.W.instObj C dx)
  ns : h.Ns1 dx mA
  ne : dx ≠ x
theorem lookIn_ns {h : Heap} {dx : Addr} {mA : Str → Option Value} (n : h.Ns1 dx mA) : ∃ od, h.get? dx = some od ∧ ∀ name, PySem.W.lookIn name od = some (mA name) := by
  obtain ⟨o, es, ep, ho, hd, hk, _, hm⟩ := n
  refine ⟨o, ho, fun name => ?_⟩
  have e := hm name
  unfold nsFind findBy at e
  rw [← Array.find?_toList] at e
  unfold PySem.W.lookIn
  rw [hd]
  dsimp only
  split
  · rename_i y q
    rw [q] at e
    exact congrArg some e
  · rename_i q
    rw [q] at e
    have a : es.toList.any (·.refKey) = false := by
      rw [List.any_eq_false]
      intro y hy
      obtain ⟨z, t, hkey⟩ := hk y (Array.mem_toList_iff.mp hy)
      simp [DictEntry.refKey, hkey]
    have a' : ¬ es.toList.any (·.refKey) = true := by rw [a]; exact Bool.false_ne_true
    rw [if_neg a']
    exact congrArg some e
theorem ObjM.look {h : Heap} {x dx C : Addr} {mA : Str → Option Value} (I : ObjM h x dx C mA) : ∃ od, PySem.W.InstAt h x (PySem.W.instObj C dx) C (some od) ∧ ∀ name, PySem.W.lookIn name od = some (mA name) :=
  let ⟨od, ho, hl⟩ := lookIn_ns I.ns
  ⟨od, ⟨I.obj, rfl, rfl, ho⟩, hl⟩
section
variable {prog : Program} {w : World} {A : Around} {E : Value → Shared → Prop} {s : Shared} {K : PySem.W.Frag} {x dx C f : Addr} {mA : Str → Option Value} {name : Str} {v : Value}
end
theorem RelO.some_of {v : V} {o : Option Value} (r : RelO (some v) o) : ∃ u, o = some u ∧ RelV v u := by
  cases o with
  | none => exact (show False from r).elim
  | some u => exact ⟨u, rfl, r⟩
section
variable {P : Program} {w : World} {H H' : Hp} {h h' : Heap} {a C dx : Addr} {fs fs' : List (Str × V)}
theorem ins_get (hok : HOk P w H h) (e : H a = some (.ins C dx fs)) : ∃ mA, ObjM h a dx C mA ∧ (∀ f, RelO (fs.lookup f) (mA f)) ∧ PySem.Within mA (fs.map (·.1)) ∧ fs.length ≤ 1000 ∧ H dx = some (.own a) := by
  obtain ⟨d, z, ne, ob, mA, n, r, q⟩ := (show ObjOk P w H h a (.ins C dx fs) from hok a _ e)
  exact ⟨mA, ⟨ob, n, ne⟩, r, q, z, d⟩
end
structure Cls (K : PySem.W.Frag) (C : Addr) : Prop where
  pg : PySem.W.plainGet K C Str.empty = true
  hd : PySem.W.hasDictIn K C = true
  po : PySem.W.plainOver K C = true
  sa : PySem.W.findIn K (.ref C) "__setattr__" = some (some (.builtin "object.__setattr__"))
theorem Cls.get {K : PySem.W.Frag} {C : Addr} (c : Cls K C) (f : Str) : PySem.W.plainGet K C f = true := c.pg
section
variable {X : Cx} {pins : List (Addr × Obj)} {σ : St} {H : Hp} {s : Shared} {a C dx : Addr} {fs : List (Str × V)} {f : Str} {v : V} {A : Around} {E : Value → Shared → Prop}
end
section
variable {X : Cx} {o e value : Expr} {f : Str} {pos pos' tpos : Pos} {ta tv : TE}
end
section
variable {X : Cx} {pins : List (Addr × Obj)} {σ : St} {H : Hp} {s : Shared} {A : Around} {E : Value → Shared → Prop} {Q : Value → Shared → Prop} {c : Value} {b : Bool}
inductive TyOf (K : PySem.W.Frag) (H : Hp) : V → Value → Prop where
  | non : TyOf K H .non (.type "NoneType")
  | bl (x : Bool) : TyOf K H (.bl x) (.type "bool")
  | int (i : Int) : TyOf K H (.int i) (.type "int")
  | str (x : Str) : TyOf K H (.str x) (.type "str")
  | flt (x : UInt64) : TyOf K H (.flt x) (.type "float")
  | lst {a : Addr} {xs : List V} (e : H a = some (.lst xs)) : TyOf K H (.ref a) (.type "list")
  | frz {a : Addr} {o : Obj} {xs : List V} (e : H a = some (.frz o (.lst xs))) : TyOf K H (.ref a) (.type "list")
  | tup {a : Addr} {xs : List V} (e : H a = some (.tup xs)) : TyOf K H (.ref a) (.type "tuple")
  | dK {a : Addr} {kvs : List (Key × V)} (e : H a = some (.dK kvs)) : TyOf K H (.ref a) (.type "dict")
  | dT {a : Addr} {kvs : List (List Key × V)} (e : H a = some (.dT kvs)) : TyOf K H (.ref a) (.type "dict")
  | ins {a C dx : Addr} {fs : List (Str × V)} (e : H a = some (.ins C dx fs)) (cl : Cls K C) (ha : PySem.W.findIn K (.ref C) "__class__" = some (some (.builtin "object.__class__")))
      (hn : PySem.W.specialIn K (.builtin "object.__class__") "__get__" = some (some (.builtin "getset_descriptor.__get__"))) (htk : PySem.W.takesIn K (.builtin "object.__class__") = some true)
      (hm : PySem.W.mroIn K C (.type "object") = some true) : TyOf K H (.ref a) (.ref C)
theorem isinst_ok {x : V} {u t : Value} (I : Inv X pins σ H s) (rx : RelV x u) (ty : TyOf X.K H x t) (e : PySem.W.kitOne X.K t c = some b) (h : ∀ tk, Q (.bool b) { s with toks := tk }) :
    wpAny (model X.prog X.w) A (call (.builtin "isinstance") [u, c]) Q E s := by
  cases ty with
  | non => cases (show u = Value.none from rx); exact PySem.W.kia_one PySem.W.kitx_none I.kIn True.intro e (fun z => nomatch z) h
  | bl y => cases (show u = Value.bool y from rx); exact PySem.W.kia_one PySem.W.kitx_bool I.kIn True.intro e (fun z => nomatch z) h
  | int i => obtain ⟨t, q⟩ := (show ∃ t, u = Value.int i t from rx); cases q; exact PySem.W.kia_one PySem.W.kitx_int I.kIn True.intro e (fun z => nomatch z) h
  | str y => obtain ⟨t, q⟩ := (show ∃ t, u = Value.str y t from rx); cases q; exact PySem.W.kia_one PySem.W.kitx_str I.kIn True.intro e (fun z => nomatch z) h
  | flt y => obtain ⟨t, q⟩ := (show ∃ t, u = Value.float y t from rx); cases q; exact PySem.W.kia_one PySem.W.kitx_float I.kIn True.intro e (fun z => nomatch z) h
  | @lst a xs ea =>
    cases (show u = Value.ref a from rx)
    obtain ⟨_, _, n, _, h1⟩ := (show ObjOk X.prog X.w H s.heap a (.lst xs) from I.hok a _ ea)
    exact PySem.W.kia_one PySem.W.kitx_list I.kIn ⟨_, h1, rfl⟩ e (fun z => nomatch z) h
  | @frz a ob xs ea =>
    cases (show u = Value.ref a from rx)
    obtain ⟨_, _, _, n, _, h1⟩ := (show ObjOk X.prog X.w H s.heap a (.frz ob (.lst xs)) from I.hok a _ ea)
    exact PySem.W.kia_one PySem.W.kitx_list I.kIn ⟨_, h1, rfl⟩ e (fun z => nomatch z) h
  | @tup a xs ea =>
    cases (show u = Value.ref a from rx)
    obtain ⟨_, _, _, p⟩ := (show ObjOk X.prog X.w H s.heap a (.tup xs) from I.hok a _ ea)
    obtain ⟨o, h1, h2, _⟩ := p
    exact PySem.W.kia_one PySem.W.kitx_tuple I.kIn ⟨o, h1, h2⟩ e (fun z => nomatch z) h
  | @dK a kvs ea =>
    cases (show u = Value.ref a from rx)
    obtain ⟨_, _, vs, _, p⟩ := (show ObjOk X.prog X.w H s.heap a (.dK kvs) from I.hok a _ ea)
    obtain ⟨o, es, ep, h1, h2, _⟩ := p
    exact PySem.W.kia_one PySem.W.kitx_dict I.kIn ⟨o, h1, h2.1⟩ e (fun z => nomatch z) h
  | @dT a kvs ea =>
    cases (show u = Value.ref a from rx)
    obtain ⟨_, _, xs, _, o, es, ep, h1, h2, _⟩ := (show ObjOk X.prog X.w H s.heap a (.dT kvs) from I.hok a _ ea)
    exact PySem.W.kia_one PySem.W.kitx_dict I.kIn ⟨o, h1, h2.1⟩ e (fun z => nomatch z) h
  | @ins a C dx fs ea cl ha hn htk hm =>
    cases (show u = Value.ref a from rx)
    obtain ⟨mA, O, _⟩ := ins_get I.hok ea
    obtain ⟨od, J, _⟩ := O.look
    exact PySem.W.kia_one (PySem.W.kitx_own (cl.get _) cl.hd ha hn htk hm) I.kIn J e (fun z => nomatch z) h
end
end L2
namespace L2
open PySem PySem.Spec PyProof.Rows
structure Room (k : Nat) (A : Around) : Prop where
  hd : A.handled = none
  dp : A.depth + 3 * k + 5 < recursionLimit
  un : A.units + 16 * k + 200 < cLine
theorem Room.mono {j k : Nat} {A : Around} (r : Room k A) (h : j ≤ k) : Room j A := ⟨r.hd, by have := r.dp; omega, by have := r.un; omega⟩
theorem Room.deeper {k : Nat} {A : Around} (r : Room (k + 1) A) (env : Env) : Room k (A.deeper env) :=
  ⟨r.hd, by have := r.dp; show A.depth + 1 + 3 * k + 5 < _; omega, by have := r.un; show A.units + 3 + 16 * k + 200 < _; omega⟩
theorem Room.depth {k : Nat} {A : Around} (r : Room k A) : A.depth < recursionLimit := by have := r.dp; omega
theorem Room.units {k : Nat} {A : Around} (r : Room k A) : A.units + 64 < cLine := by have := r.un; omega
def tNil : TA := fun _ H Q => Q [] H
def tCons (ta : TE) (tr : TA) : TA := fun σ H Q => ta σ H fun x H1 => tr σ H1 fun xs H2 => Q (x :: xs) H2
section
variable {X : Cx} {e : Expr} {es : List Expr} {te : TE} {t : TA} {pos : Pos}
theorem pa_nil : PA X [] tNil := fun _ _ _ _ H Q I h => Calls.spliced_nil ⟨[], H, I, .nil, h⟩
theorem pa_cons (ha : PE X e te) (hr : PA X es t) (hs : starEach (e :: es) X.env = (false, eval e X.env) :: starEach es X.env := by rfl) : PA X (e :: es) (tCons te t) := by
  intro pos pins s σ H Q I h
  rw [hs]
  show wpAny _ _ (spliced ((false, eval e X.env) :: backTo pos (starEach es X.env))) _ _ s
  refine Calls.spliced_cons (thn (ha pins s σ H _ I h) fun u s1 ⟨x, H1, I1, r1, q1⟩ => ?_)
  exact thn (hr pos pins s1 σ H1 _ I1 q1) fun us s2 ⟨xs, H2, I2, r2, q2⟩ => ⟨x :: xs, H2, I2, .cons r1 r2, q2⟩
def tTup (t : TA) : TE := fun σ H Q => t σ H fun xs H1 => xs.length ≤ sizeLine ∧ ∀ p, H1 p = none → Q (.ref p) (upd H1 p (.tup xs))
def tLst (t : TA) : TE := fun σ H Q => t σ H fun xs H1 => xs.length ≤ sizeLine ∧ ∀ p, H1 p = none → Q (.ref p) (upd H1 p (.lst xs))
theorem pe_tup {x1} (h : PA X es t) : PE X (.Tuple es x1 pos) (tTup t) := by
  intro pins s σ H Q I hq
  refine wpAny_Tuple_spliced (thn (h pos pins s σ H _ I hq) fun us s1 ⟨xs, H1, I1, r, z, q⟩ => ⟨by rw [← r.length]; exact z, ?_⟩)
  have hf : H1 s1.heap.objs.size = none := I1.hok.fresh (Nat.le_refl _)
  refine ⟨.ref s1.heap.objs.size, upd H1 s1.heap.objs.size (.tup xs), I1.laid (t' := s1.toks) (fun b u e => Heap.get?_push_of_some _ e) (Nat.le_refl _) ?_, rfl, q _ hf⟩
  exact ⟨z, us, r, ⟨_, Heap.get?_push_size _ rfl, rfl, _, rfl⟩⟩
theorem pe_lst (h : PA X es t) : PE X (.List es pos) (tLst t) := by
  intro pins s σ H Q I hq
  refine wpAny_List_spliced (thn (h pos pins s σ H _ I hq) fun us s1 ⟨xs, H1, I1, r, z, q⟩ => ⟨by rw [← r.length]; exact z, ?_⟩)
  have hf : H1 s1.heap.objs.size = none := I1.hok.fresh (Nat.le_refl _)
  refine ⟨.ref s1.heap.objs.size, upd H1 s1.heap.objs.size (.lst xs), I1.laid (t' := s1.toks) (fun b u e => Heap.get?_push_of_some _ e) (Nat.le_refl _) ?_, rfl, q _ hf⟩
  exact ⟨z, us, 0, r, Heap.get?_push_size _ rfl⟩
end
abbrev Sp := List V → Hp → VK → XK → Prop
abbrev CXT := List Env → Hp → Shared → XK → Value → Shared → Prop
structure Env0 (P : Program) (w : World) (K : PySem.W.Frag) (mg : Str → Option Value) (base : Heap) (A : Around) (outer : List Env) (s : Shared) (H : Hp) : Prop where
  frames : A.frames = some outer
  mod : Mod K mg base
  bs : ∀ b o, base.get? b = some o → s.heap.get? b = some o ∧ H b = none
  bsz : base.objs.size ≤ s.heap.objs.size
  funs : s.heap.FunFrames base outer
  frf : ∀ b ∈ frs outer, H b = none
  hok : HOk P w H s.heap
  bare : AllBare s.gens
def CE (outer : List Env) (P : Program) (w : World) (H : Hp) (s : Shared) (Q : VK) (u : Value) (s' : Shared) : Prop :=
  ∃ v H', s'.os = s.os ∧ AllBare s'.gens ∧ Un (frs outer) [] H H' s.heap s'.heap ∧ HOk P w H' s'.heap ∧ RelV v u ∧ Q v H'
def CR (CX : CXT) (outer : List Env) (P : Program) (w : World) (H : Hp) (s : Shared) (Q : VK) (E : XK) (r : Result) (s' : Shared) : Prop :=
  match r with
  | .ok (.ret u) => CE outer P w H s Q u s'
  | .ok _ => False
  | .error e => CX outer H s E e s'
structure FnOk (P : Program) (w : World) (K : PySem.W.Frag) (mg : Str → Option Value) (base : Heap) (CX : CXT) (k : Nat) (f : Addr) (fd : FuncData) (ps : List Str) (sp : Sp) : Prop where
  len : ∀ vs H Q E, sp vs H Q E → vs.length = ps.length
  run : ∀ (A : Around) (outer : List Env) (s : Shared) (H : Hp) (args : Args) (us : List Value) (vs : List V) (Q : VK) (E : XK), Room k A → Env0 P w K mg base A outer s H → BindsTo s fd args (ps.zip us) → Vals vs us → sp vs H Q E →
    codeAny (model P w) A (.call (.ref f) args) (CR CX outer P w H s Q E) s
section
variable {X : Cx} {pins : List (Addr × Obj)} {σ : St} {H : Hp} {s s' : Shared}
theorem Inv.env0 (I : Inv X pins σ H s) : Env0 X.prog X.w X.K X.mg X.base X.A X.stack s H :=
  ⟨I.ok.frames, I.ok.mod, I.bs, Nat.le_trans I.ok.bsz I.sz, I.stack, I.stkFree, I.hok, I.bare⟩
theorem Inv.after {Q : VK} {u : Value} (I : Inv X pins σ H s) (h : CE X.stack X.prog X.w H s Q u s') : EP X pins σ Q u s' := by
  obtain ⟨v, H', os, bare, un, hok, r, q⟩ := h
  obtain ⟨hh, g, d, t, os'⟩ := s'
  obtain rfl : os' = s.os := os
  exact ⟨v, H', I.call (h' := hh) (g' := g) (d' := d) (t' := t) (ch := []) un hok bare (fun b z => absurd z (by simp)), r, q⟩
end
def tCall (sp : Sp) (dvs : List V) (E : XK) (t : TA) : TE := fun σ H Q => t σ H fun vs H1 => sp (vs ++ dvs) H1 Q E
def Binds (K : PySem.W.Frag) (fd : FuncData) (ps : List Str) (ds : List Value) : Prop :=
  ∀ (s : Shared) (us : List Value), K.In s.heap → (us ++ ds).length = ps.length → BindsTo s fd ⟨us, []⟩ (ps.zip (us ++ ds))
theorem Binds.all {K : PySem.W.Frag} {fd : FuncData} {ps : List Str} (h : ∀ us : List Value, us.length = ps.length → bindArgs fd ⟨us, []⟩ = pure (ps.zip us)) : Binds K fd ps [] := fun s us _ hl => by
  rw [List.append_nil] at hl ⊢
  exact .of_eq (h us hl)
def Passes (CX : CXT) (X : Cx) (E : XK) : Prop := ∀ (pins : List (Addr × Obj)) (σ : St) (H : Hp) (s : Shared) (e : Value) (s' : Shared), Inv X pins σ H s → CX X.stack H s E e s' → X.xe e s'
section
variable {X : Cx} {CX : CXT} {k : Nat} {f C : Addr} {fd : FuncData} {ps : List Str} {sp : Sp} {dvs : List V} {ds : List Value} {E : XK} {x m : Str} {p pos apos : Pos} {e o : Expr} {es : List Expr} {ta : TE} {t : TA}
theorem run_fn {pins : List (Addr × Obj)} {σ : St} {H : Hp} {s : Shared} {Q : VK} {us : List Value} {vs : List V} (F : FnOk X.prog X.w X.K X.mg X.base CX k f fd ps sp) (hr : Room k X.A) (hb : Binds X.K fd ps ds) (hd : Vals dvs ds) (hx : Passes CX X E)
    (I : Inv X pins σ H s) (r : Vals vs us) (h : sp (vs ++ dvs) H Q E) : wpAny (model X.prog X.w) X.A (call (.ref f) us) (EP X pins σ Q) X.xe s := by
  have r2 : Vals (vs ++ dvs) (us ++ ds) := r.append hd
  have hl : (us ++ ds).length = ps.length := by rw [← r2.length]; exact F.len _ _ _ _ h
  refine wpAny_call (codeAny_mono (F.run X.A X.stack s H ⟨us, []⟩ (us ++ ds) (vs ++ dvs) Q E hr I.env0 (hb s us I.kIn hl) r2 h) fun r s' hq => ?_)
  cases r with
  | error e => exact hx pins σ H s e s' I hq
  | ok fl =>
    cases fl with
    | ret u => exact I.after hq
    | next => exact False.elim hq
    | brk => exact False.elim hq
    | cont => exact False.elim hq
theorem pe_call (F : FnOk X.prog X.w X.K X.mg X.base CX k f fd ps sp) (hr : Room k X.A) (hg : Gl X x) (hm : X.mg x = some (.ref f)) (hk : PySem.W.keepIn X.K (.ref f) = true) (hb : Binds X.K fd ps ds) (hd : Vals dvs ds) (hx : Passes CX X E)
    (ha : PA X (e :: es) t) (hdb : (x == ("__debug__" : Str)) = false := by decide) (he : starEach (e :: es) X.env = (false, eval e X.env) :: starEach es X.env := by rfl) (hpl : (backTo pos (starEach es X.env)).any (·.1) = false := by rfl) :
    PE X (.Call (.Name x p) (e :: es) [] pos) (tCall sp dvs E t) := by
  intro pins s σ H Q I h
  refine wpAny_Call_Name_kw (ld_glob I hg hm ?_ hdb)
  refine PySem.W.callWith_K (h₀ := X.base) I.ok.mod.kin hk (thn (ha pos pins s σ H _ I h) fun us s1 ⟨vs, H1, I1, r, q⟩ => ⟨I1.kIn, ?_⟩) he hpl
  exact run_fn F hr hb hd hx I1 r q
end
section
variable {X : Cx} {CX : CXT} {k : Nat} {f C : Addr} {fd : FuncData} {ps ks : List Str} {sp : Sp} {E : XK} {x m : Str} {p pos apos kpos : Pos} {e o : Expr} {es : List Expr} {kws : List Keyword} {te ta : TE} {t tk : TA} {nm : Option Str}
variable {g : List Value → List Value → List Value} {gV : List V → List V → List V}
end
structure FnScope (N P : List Str) (sc : Scope) : Prop where
  kind : sc.kind = .function
  co : sc.isCoroutine = false
  gen : sc.isGenerator = false
  nd : N.Nodup
  pre : N.take P.length = P
  par : ∀ x ∈ P, sc.names.lookup x = some .local ∨ sc.names.lookup x = some .cell
  nofree : ∀ y ∈ sc.names, y.2 ≠ .free
theorem bindL_out {kindOf : Str → Option NameKind} {x : Str} : ∀ {binds : List (Str × Value)} {m : Str → Option Value}, (∀ v, (x, v) ∉ binds) → bindL kindOf binds m x = m x
  | [], _, _ => rfl
  | (n, v) :: r, m, h => by
    unfold bindL
    rw [bindL_out fun w hw => h w (List.mem_cons_of_mem _ hw)]
    split
    · have : x ≠ n := by rintro rfl; exact h v List.mem_cons_self
      simp [this]
    · rfl
theorem bindC_out {kindOf : Str → Option NameKind} {x : Str} : ∀ {binds : List (Str × Value)} {m : Str → Option Value}, (∀ v, (x, v) ∉ binds) → bindC kindOf binds m x = m x
  | [], _, _ => rfl
  | (n, v) :: r, m, h => by
    unfold bindC
    rw [bindC_out fun w hw => h w (List.mem_cons_of_mem _ hw)]
    split
    · rfl
    · have : x ≠ n := by rintro rfl; exact h v List.mem_cons_self
      simp [this]
theorem bindL_get {kindOf : Str → Option NameKind} {x : Str} {v : Value} : ∀ {P : List Str} {vs : List Value} {i : Nat} {m : Str → Option Value}, P.Nodup → P[i]? = some x → vs[i]? = some v → kindOf x = some .local →
    bindL kindOf (P.zip vs) m x = some v
  | [], _, _, _, _, h, _, _ => by simp at h
  | _ :: _, [], _, _, _, _, h, _ => by simp at h
  | p :: P, w :: vs, 0, m, nd, h1, h2, hk => by
    simp at h1 h2; subst h1; subst h2
    show bindL kindOf ((p, w) :: P.zip vs) m p = _
    unfold bindL
    rw [bindL_out fun v hv => (List.nodup_cons.mp nd).1 (List.of_mem_zip hv).1, if_pos hk]
    simp
  | p :: P, w :: vs, i + 1, m, nd, h1, h2, hk => by
    show bindL kindOf ((p, w) :: P.zip vs) m x = _
    unfold bindL
    exact bindL_get (i := i) (List.nodup_cons.mp nd).2 (by simpa using h1) (by simpa using h2) hk
theorem bindC_get {kindOf : Str → Option NameKind} {x : Str} {v : Value} : ∀ {P : List Str} {vs : List Value} {i : Nat} {m : Str → Option Value}, P.Nodup → P[i]? = some x → vs[i]? = some v → kindOf x ≠ some .local →
    bindC kindOf (P.zip vs) m x = some v
  | [], _, _, _, _, h, _, _ => by simp at h
  | _ :: _, [], _, _, _, _, h, _ => by simp at h
  | p :: P, w :: vs, 0, m, nd, h1, h2, hk => by
    simp at h1 h2; subst h1; subst h2
    show bindC kindOf ((p, w) :: P.zip vs) m p = _
    unfold bindC
    rw [bindC_out fun v hv => (List.nodup_cons.mp nd).1 (List.of_mem_zip hv).1, if_neg hk]
    simp
  | p :: P, w :: vs, i + 1, m, nd, h1, h2, hk => by
    show bindC kindOf ((p, w) :: P.zip vs) m x = _
    unfold bindC
    exact bindC_get (i := i) (List.nodup_cons.mp nd).2 (by simpa using h1) (by simpa using h2) hk
def start (N : List Str) (vs : List V) : St := vs.map some ++ List.replicate (N.length - vs.length) none
def cxOf (CX : CXT) (P : Program) (w : World) (K : PySem.W.Frag) (mg : Str → Option Value) (base : Heap) (N : List Str) (qual : Str) (scope : Scope) (f : Addr) (cd : Value) (A : Around) (outer : List Env) (s : Shared) (H : Hp) (E : XK) : Cx where
  prog := P
  w := w
  K := K
  mg := mg
  base := base
  A := A.deeper (envOfC qual scope s.heap.objs.size f cd)
  N := N
  s₀ := s
  H₀ := H
  env := envOfC qual scope s.heap.objs.size f cd
  outer := outer
  stack := envOfC qual scope s.heap.objs.size f cd :: outer
  ex := []
  calm := true
  fn := fun _ => true
  pn := []
  xe := fun e s' => wpAny (model P w) (A.deeper (envOfC qual scope s.heap.objs.size f cd)) (leaving (envOfC qual scope s.heap.objs.size f cd) e) (fun _ s'' => CX outer H s E e s'') (fun e' s'' => CX outer H s E e' s'') s'
theorem cell_has {sc : Scope} {n : Nat} {x : Str} (h : sc.names.lookup x = some .cell) : ∃ c, (cellsFrom n sc.names []).lookup x = some c := by
  have q := PySem.W.cellsFrom_some sc.names n [] (.inl h)
  exact Option.isSome_iff_exists.mp q
theorem inv_start {CX : CXT} {P : Program} {w : World} {K : PySem.W.Frag} {mg : Str → Option Value} {base : Heap} {N ps : List Str} {qual : Str} {scope : Scope} {f : Addr} {cd : Value} {A : Around} {outer : List Env} {s s1 : Shared} {H : Hp} {E : XK} {us : List Value} {vs : List V}
    (S : FnScope N ps scope) (hd : A.handled = none) (e0 : Env0 P w K mg base A outer s H) (hl : vs.length = ps.length) (r : Vals vs us)
    (x : InCallC s s.heap.objs.size (bindL (envOfC qual scope s.heap.objs.size f cd).kindOf (ps.zip us) fun _ => none) (cellsFrom (s.heap.objs.size + 1) scope.names []) (bindC (envOfC qual scope s.heap.objs.size f cd).kindOf (ps.zip us) fun _ => none) s1) :
    Inv (cxOf CX P w K mg base N qual scope f cd A outer s H E) [] (start N vs) H s1 := by
  have hpl : ps.length ≤ N.length := by have := congrArg List.length S.pre; rw [List.length_take] at this; omega
  obtain ⟨h1, tk, rfl, hk⟩ := x.done
  have noA : ∀ b : Addr, b ∉ (cxOf CX P w K mg base N qual scope f cd A outer s H E).ex := fun b z => absurd (show b ∈ ([] : List Addr) from z) (by simp)
  refine ⟨⟨e0.mod, S.kind, rfl, rfl, Nat.le_refl _, fun y z c h1 h2 => ?_, fun y hy => ?_, fun y c _ h => ?_, fun _ => hd, Around.frames_deeper e0.frames, .inr ⟨rfl, rfl⟩, fun b z => absurd z (noA b), e0.bs, e0.bsz, fun b _ _ => noA b, fun b z => absurd z (noA b), e0.funs, e0.frf⟩,
    rfl, e0.bare, Un.kept hk, ⟨_, x.toInCall.ns, fun i y v h1 h2 h3 => ?_⟩, fun y c h => ⟨_, x.cell y c h⟩, e0.hok.fresh (Nat.le_refl _), fun y c h => ?_, fun p hp => absurd (show p ∈ ([] : List (Addr × Obj)) from hp) (by simp), e0.hok.kept hk, ?_⟩
  · exact name_of_addr x.apart (PySem.mem_of_lookup h1) (PySem.mem_of_lookup h2)
  · have hy : scope.names.lookup y = some .cell ∨ scope.names.lookup y = some .free := hy
    rcases hy with hy | hy
    · exact cell_has hy
    · exact absurd rfl (S.nofree _ (PySem.mem_of_lookup hy))
  · exact Nat.le_of_lt (x.above y c (PySem.mem_of_lookup h))
  · have hi : i < vs.length := by
      unfold start at h2
      by_cases hi : i < vs.length
      · exact hi
      · rw [List.getElem?_append_right (by simpa using hi)] at h2
        rw [List.getElem?_replicate] at h2
        split at h2 <;> cases h2
    have ha : vs[i]? = some v := by
      unfold start at h2
      rw [List.getElem?_append_left (by simpa using hi), List.getElem?_map] at h2
      cases e : vs[i]? with
      | none => rw [e] at h2; cases h2
      | some a => rw [e] at h2; cases h2; rfl
    obtain ⟨u, hu, rv⟩ := r.get ha
    have hp : ps[i]? = some y := by
      rw [← S.pre, List.getElem?_take_of_lt (by omega)]; exact h1
    have ndP : ps.Nodup := by rw [← S.pre]; exact S.nd.sublist (List.take_sublist _ _)
    refine ⟨u, rv, ?_⟩
    rcases S.par y (List.mem_of_getElem? hp) with k | k
    · exact .inl ⟨k, bindL_get ndP hp hu k⟩
    · obtain ⟨c, e⟩ := cell_has (n := s.heap.objs.size + 1) k
      refine .inr ⟨.inl k, c, e, ?_⟩
      have q := x.cell y c e
      rw [bindC_get ndP hp hu (by show scope.names.lookup y ≠ _; rw [k]; decide)] at q
      exact q
  · exact e0.hok.fresh (Nat.le_of_lt (x.above y c (PySem.mem_of_lookup h)))
  · unfold start
    show _ = N.length
    rw [List.length_append, List.length_map, List.length_replicate]
    omega
theorem fn_of {CX : CXT} {P : Program} {w : World} {K : PySem.W.Frag} {mg : Str → Option Value} {base : Heap} {k : Nat} {f : Addr} {name qual : Str} {params : Arguments} {body : List Stmt} {scope : Scope} {dV kV doc pm cdv ct oc : Value} {an od : Option Addr}
    {osl : Array (Option Value)} {N ps : List Str} {sp : Sp} (lk : K.lookup f = some ⟨oc, od, .func (PySem.W.fnOf name qual params body scope dV kV doc pm an cdv ct), osl⟩) (hcd : PySem.W.codeIn K cdv qual = true) (S : FnScope N ps scope)
    (len : ∀ vs H Q E, sp vs H Q E → vs.length = ps.length)
    (hbody : ∀ (A : Around) (outer : List Env) (s : Shared) (H : Hp) (vs : List V) (Q : VK) (E : XK), Room k (A.deeper (envOfC qual scope s.heap.objs.size f cdv)) → sp vs H Q E →
      ∃ t, PSs (cxOf CX P w K mg base N qual scope f cdv A outer s H E) body t ∧ t { nx := fun _ H' => Q .non H', rt := Q } (start N vs) H) :
    FnOk P w K mg base CX (k + 1) f (PySem.W.fnOf name qual params body scope dV kV doc pm an cdv ct) ps sp := by
  refine ⟨len, fun A outer s H args us vs Q E hr e0 hb r hsp => ?_⟩
  have hl := len _ _ _ _ hsp
  have KX : K.In s.heap := e0.mod.kin.keeps fun b o e => (e0.bs b o e).1
  have lim : s.heap.NoLimit := e0.mod.nolimit.keeps fun b o e => (e0.bs b o e).1
  have hkind : ∀ y ∈ ps.zip us, scope.names.lookup y.1 = some .local ∨ (scope.names.lookup y.1 = some .cell ∧ ((cellsFrom (s.heap.objs.size + 1) scope.names []).lookup y.1).isSome = true) := fun ⟨n, v⟩ hy => by
    rcases S.par n (List.of_mem_zip hy).1 with q | q
    · exact .inl q
    · exact .inr ⟨q, PySem.W.cellsFrom_some _ _ _ (.inl q)⟩
  refine codeAny_call_function hr.depth (KX _ _ lk) rfl S.co S.gen rfl (PySem.W.codeRec_of KX hcd) (hb _ _ _ _ ?_)
  refine wpAny_newFunctionEnv_cells S.kind hkind fun env he s1 x => ?_
  subst he
  refine ⟨lim.keeps x.toInCall.keep, codeAny_func ?_⟩
  obtain ⟨t, ht, hq⟩ := hbody A outer s H vs Q E (hr.deeper _) hsp
  have I : Inv (cxOf CX P w K mg base N qual scope f cdv A outer s H E) [] (start N vs) H s1 := inv_start S hr.hd e0 hl r x
  refine wpAny_mono (ht [] s1 (start N vs) H _ I hq) (fun fl s' hs => ?_) fun e s' hs => hs
  have fin : ∀ {σ' : St} {H' : Hp} {v : V} {u : Value}, Inv (cxOf CX P w K mg base N qual scope f cdv A outer s H E) [] σ' H' s' → RelV v u → Q v H' → CE outer P w H s Q u s' :=
    fun {σ' H' v u} J rv q => ⟨v, H', J.os, J.bare, J.base, J.hok, rv, q⟩
  cases fl with
  | ret u =>
    obtain ⟨v, σ', H', J, rv, q⟩ := hs
    exact fin J rv q
  | next =>
    obtain ⟨σ', H', J, q⟩ := hs
    exact fin (v := V.non) (u := Value.none) J rfl q
  | brk =>
    obtain ⟨_, _, _, q⟩ := hs
    exact False.elim q
  | cont =>
    obtain ⟨_, _, _, q⟩ := hs
    exact False.elim q
end L2
namespace L2
open PySem PySem.Spec PyProof.Rows
section
variable {X : Cx} {x : Str} {p pos : Pos} {e : Expr} {es : List Expr} {t : TA} {id T : String} {r : List V → Hp → VK → Prop}
def tCB (r : List V → Hp → VK → Prop) (t : TA) : TE := fun σ H Q => t σ H fun vs H1 => r vs H1 Q
theorem pe_callB (hc : CallR X (.builtin id) r) (hg : Gl X x) (hm : X.mg x = none) (hv : bootBuiltins x = some (.builtin id)) (ha : PA X (e :: es) t) (hn : x ≠ "__name__" := by decide) (hdb : (x == ("__debug__" : Str)) = false := by decide)
    (he : starEach (e :: es) X.env = (false, eval e X.env) :: starEach es X.env := by rfl) (hpl : (backTo pos (starEach es X.env)).any (·.1) = false := by rfl) : PE X (.Call (.Name x p) (e :: es) [] pos) (tCB r t) := by
  intro pins s σ H Q I h
  refine wpAny_Call_Name_kw (ld_blt I hg hm hv ?_ hn hdb)
  exact PyProof.Rows.callWith_builtin1 (thn (ha pos pins s σ H _ I h) fun us s1 ⟨vs, H1, I1, r1, q1⟩ => hc pins s1 σ H1 vs us Q I1 r1 q1) he hpl
theorem pe_callTy (hc : CallR X (.type T) r) (hg : Gl X x) (hm : X.mg x = none) (hv : bootBuiltins x = some (.type T)) (ha : PA X (e :: es) t) (hn : x ≠ "__name__" := by decide) (hdb : (x == ("__debug__" : Str)) = false := by decide)
    (he : starEach (e :: es) X.env = (false, eval e X.env) :: starEach es X.env := by rfl) (hpl : (backTo pos (starEach es X.env)).any (·.1) = false := by rfl) : PE X (.Call (.Name x p) (e :: es) [] pos) (tCB r t) := by
  intro pins s σ H Q I h
  refine wpAny_Call_Name_kw (ld_blt I hg hm hv ?_ hn hdb)
  exact PyProof.Rows.callWith_type1 (thn (ha pos pins s σ H _ I h) fun us s1 ⟨vs, H1, I1, r1, q1⟩ => hc pins s1 σ H1 vs us Q I1 r1 q1) he hpl
end
end L2
namespace HT
open PySem PyProof.Rows
section
open PySem.SeqAt
open PySem.AutoSeq1 (wpAny_loadPart')
open PySem.MeetsSeq PySem.MeetsSeq2 PySem.MeetsSeq3
end
section
variable {prog : Program} {w : World} {A : Around} {E : Value → Shared → Prop} {s : Shared}
def sIx (n d : Nat) : Option Int → Nat
  | none => d
  | some v => if v < 0 then (v + (n : Int)).toNat else min v.toNat n
theorem sIx_none (n d : Nat) : sIx n d none = d := rfl
theorem sIx_nat (n d k : Nat) : sIx n d (some (k : Int)) = min k n := by
  show (if (k : Int) < 0 then ((k : Int) + (n : Int)).toNat else min (k : Int).toNat n) = min k n
  rw [if_neg (by omega), Int.toNat_natCast]
end
end HT
namespace L2
open PySem PySem.Spec PyProof.Rows
abbrev TO := St → Hp → (Option Int → Hp → Prop) → Prop
def PO (X : Cx) (e : Option Expr) (t : TO) : Prop :=
  ∀ (pins : List (Addr × Obj)) (s : Shared) (σ : St) (H : Hp) (Q : Option Int → Hp → Prop), Inv X pins σ H s → t σ H Q →
    wpAny (model X.prog X.w) X.A (evalPart e X.env) (fun u s' => ∃ o H', Inv X pins σ H' s' ∧ IsPart u o ∧ Q o H') X.xe s
def tNoPart : TO := fun _ H Q => Q none H
def tPart (t : TE) : TO := fun σ H Q => t σ H fun x H1 => ∃ i, x = .int i ∧ Q (some i) H1
section
variable {X : Cx} {e : Expr} {te : TE} {lo hi : Option Expr} {tl th : TO} {pos p2 : Pos}
theorem po_none : PO X none tNoPart := by
  intro pins s σ H Q I h
  rw [evalPart_none]
  exact wpAny_pure ⟨none, H, I, .none, h⟩
theorem po_some (h : PE X e te) : PO X (some e) (tPart te) := by
  intro pins s σ H Q I hw
  rw [evalPart_some]
  refine thn (h pins s σ H _ I hw) fun u s1 ⟨x, H1, I1, r1, q1⟩ => ?_
  obtain ⟨i, rfl, q⟩ := q1
  obtain ⟨t, rfl⟩ := r1
  exact ⟨some i, H1, I1, .int i t, q⟩
def SlR (X : Cx) (r : V → Option Int → Option Int → Hp → VK → Prop) : Prop :=
  ∀ (pins : List (Addr × Obj)) (s : Shared) (σ : St) (H : Hp) (x : V) (v vl vu : Value) (lo hi : Option Int) (sl : Addr) (Q : VK), Inv X pins σ H s → RelV x v → s.heap.IsSliceOf sl vl vu .none → IsPart vl lo → IsPart vu hi → r x lo hi H Q →
    ∃ T id, typeLookup (.type T) "__getitem__" = pure (some (.builtin id)) ∧ s.TypeIs v T ∧ wpAny (model X.prog X.w) X.A (getItem v (.ref sl)) (EP X pins σ Q) X.xe s
def tSl (r : V → Option Int → Option Int → Hp → VK → Prop) (te : TE) (tl th : TO) : TE := fun σ H Q => te σ H fun x H1 => tl σ H1 fun l H2 => th σ H2 fun u H3 => r x l u H3 Q
theorem pe_slice {r : V → Option Int → Option Int → Hp → VK → Prop} (hr : SlR X r) (he : PE X e te) (hl : PO X lo tl) (hu : PO X hi th) : PE X (.Subscript e (.Slice lo hi none p2) pos) (tSl r te tl th) := by
  intro pins s σ H Q I h
  refine Subscript_ (thn (he pins s σ H _ I h) fun v s1 ⟨x, H1, I1, r1, q1⟩ => ?_)
  refine wpAny_Slice (thn (hl pins s1 σ H1 _ I1 q1) fun vl s2 ⟨l, H2, I2, pl, q2⟩ => thn (hu pins s2 σ H2 _ I2 q2) fun vu s3 ⟨u, H3, I3, pu, q3⟩ => ?_)
  rw [evalPart_none]
  refine wpAny_pure ?_
  have I4 : Inv X pins σ H3 { s3 with heap := s3.heap.push { cls := .type "slice", data := .fields #[vl, vu, .none] } } := I3.kept (t' := s3.toks) fun b ob q => Heap.get?_push_of_some _ q
  obtain ⟨T, id, hT, ht, hg⟩ := hr pins { s3 with heap := s3.heap.push { cls := .type "slice", data := .fields #[vl, vu, .none] } } σ H3 x v vl vu l u s3.heap.objs.size Q I4 r1 (Heap.IsSliceOf.new ..) pl pu q3
  show wpAny (model X.prog X.w) X.A (subscriptTail e (.Slice lo hi none p2) v (.ref s3.heap.objs.size)) (EP X pins σ Q) X.xe { s3 with heap := s3.heap.push { cls := .type "slice", data := .fields #[vl, vu, .none] } }
  exact tail_any (ops := [.ref s3.heap.objs.size, v]) ht hT hg (by with_unfolding_all rfl)
def cutV (xs : List V) (lo hi : Option Int) : List V := (xs.drop (HT.sIx xs.length 0 lo)).take (HT.sIx xs.length xs.length hi - HT.sIx xs.length 0 lo)
theorem cutV_length (xs : List V) (lo hi : Option Int) : (cutV xs lo hi).length ≤ xs.length := by
  unfold cutV
  rw [List.length_take, List.length_drop]
  omega
end
end L2
namespace L2
open PySem PySem.Spec PyProof.Rows
def ixN (n : Nat) (i : Int) : Option Nat := if 0 ≤ i then (if i < n then some i.toNat else none) else if -(n : Int) ≤ i then some (i + n).toNat else none
def atI {α : Type} (xs : List α) (i : Int) : Option α := (ixN xs.length i).bind fun j => xs[j]?
theorem ixN_seq {n : Nat} {i : Int} {j : Nat} (h : ixN n i = some j) : seqIndex? i n = some j ∧ j < n ∧ -(n : Int) ≤ i ∧ i < n := by
  unfold ixN at h
  by_cases h0 : 0 ≤ i
  · rw [if_pos h0] at h
    by_cases h1 : i < n
    · rw [if_pos h1] at h
      have e : i.toNat = j := Option.some.inj h
      exact ⟨by rw [seqIndex_of h0 h1, e], by omega, by omega, h1⟩
    · rw [if_neg h1] at h; cases h
  · rw [if_neg h0] at h
    by_cases h1 : -(n : Int) ≤ i
    · rw [if_pos h1] at h
      have e : (i + n).toNat = j := Option.some.inj h
      exact ⟨by rw [seqIndex_neg (by omega) h1, e], by omega, h1, by omega⟩
    · rw [if_neg h1] at h; cases h
theorem atI_get {α : Type} {xs : List α} {i : Int} {v : α} (h : atI xs i = some v) : ∃ j, seqIndex? i xs.length = some j ∧ xs[j]? = some v ∧ j < xs.length ∧ -(xs.length : Int) ≤ i ∧ i < xs.length := by
  unfold atI at h
  cases e : ixN xs.length i with
  | none => rw [e] at h; cases h
  | some j =>
    rw [e] at h
    obtain ⟨h1, h2, h3, h4⟩ := ixN_seq e
    exact ⟨j, h1, h, h2, h3, h4⟩
def PlainIx (b : Expr) : Prop := ∀ o i, subscripted b false o i = operate [o, i] (getItem o i)
def IxR (X : Cx) (r : R2) : Prop :=
  ∀ (value slice : Expr) (pins : List (Addr × Obj)) (s : Shared) (σ : St) (H : Hp) (x y : V) (v u : Value) (Q : VK), Inv X pins σ H s → RelV x v → RelV y u → r x y H Q →
    subscripted slice false v u = operate [v, u] (getItem v u) → wpAny (model X.prog X.w) X.A (subscriptTail value slice v u) (EP X pins σ Q) X.xe s
def MtR (X : Cx) (id : String) (r : V → List V → Hp → VK → Prop) : Prop :=
  ∀ (pins : List (Addr × Obj)) (s : Shared) (σ : St) (H : Hp) (x : V) (xs : List V) (v : Value) (us : List Value) (Q : VK), Inv X pins σ H s → RelV x v → Vals xs us → r x xs H Q →
    wpAny (model X.prog X.w) X.A (call (.builtin id) (v :: us)) (EP X pins σ Q) X.xe s
section
variable {X : Cx} {a b : Expr} {ta tb : TE} {pos : Pos}
theorem pe_ix {r : R2} (hr : IxR X r) (ha : PE X a ta) (hb : PE X b tb) (hs : PlainIx b) : PE X (.Subscript a b pos) (tOp r ta tb) := by
  intro pins s σ H Q I h
  exact Subscript_ (binT ha hb I h fun v u s2 x y H2 I2 rx ry q => hr a b pins s2 σ H2 x y v u Q I2 rx ry q (hs _ _))
def rIxL (K : PySem.W.Frag) : R2 := fun x y H Q => ∃ p xs i v, x = .ref p ∧ y = .int i ∧ SqL K H p xs ∧ atI xs i = some v ∧ Q v H
def rIxT (K : PySem.W.Frag) : R2 := fun x y H Q => ∃ p xs i v, x = .ref p ∧ y = .int i ∧ SqT K H p xs ∧ atI xs i = some v ∧ Q v H
def rIxS : R2 := fun x y H Q => ∃ z i c, x = .str z ∧ y = .int i ∧ z.length ≤ sizeLine ∧ atI z.cps.toList i = some c ∧ Q (.str ⟨#[c]⟩) H
theorem ix_list : IxR X (rIxL X.K) := by
  intro value slice pins s σ H x y v u Q I rx ry h hs
  obtain ⟨p, xs, i, z, rfl, rfl, hq, he, q⟩ := h
  cases rx
  obtain ⟨t, rfl⟩ := ry
  obtain ⟨its, r, pl, hz⟩ := I.list hq
  obtain ⟨j, h1, h2, h3, h4, h5⟩ := atI_get he
  obtain ⟨w, ew, rw'⟩ := r.get h2
  have hl := r.length
  have hn := line63
  have fin : EP X pins σ Q w s := ⟨z, H, I, rw', q⟩
  by_cases h0 : 0 ≤ i
  · have hj : i.toNat = j := by
      rw [seqIndex_of h0 h5] at h1
      exact Option.some.inj h1
    exact item_listR pl.isList h0 (by omega) (by rw [hj]; simpa using ew) fin hs
  · have hj : (i + (its.toArray.size : Int)).toNat = j := by
      rw [seqIndex_neg (by omega) h4] at h1
      rw [List.size_toArray, ← hl]
      exact Option.some.inj h1
    exact subscriptTail_builtinR (x := w) pl.isList.typeIs slot_list_getitem.lookup
      (wpAny_getItem_list_neg (Q := fun r s' => r = w ∧ EP X pins σ Q r s') pl.isList (by omega) (by rw [List.size_toArray] <;> omega) (by omega) (by rw [hj]; simpa using ew) ⟨rfl, fin⟩) hs
theorem ix_tup : IxR X (rIxT X.K) := by
  intro value slice pins s σ H x y v u Q I rx ry h hs
  obtain ⟨p, xs, i, z, rfl, rfl, hq, he, q⟩ := h
  cases rx
  obtain ⟨t, rfl⟩ := ry
  obtain ⟨its, r, pl, hz⟩ := I.tuple hq
  obtain ⟨j, h1, h2, h3, h4, h5⟩ := atI_get he
  obtain ⟨w, ew, rw'⟩ := r.get h2
  have hl := r.length
  have hn := line63
  have fin : EP X pins σ Q w s := ⟨z, H, I, rw', q⟩
  exact subscriptTail_builtinR (x := w) pl.typeIs slot_tuple_getitem.lookup
    (getItem_tuple (j := j) (Q := fun r s' => r = w ∧ EP X pins σ Q r s') pl (by omega) (by omega) (by rw [List.size_toArray, ← hl]; exact h1) (by simpa using ew) ⟨rfl, fin⟩) hs
theorem ix_str : IxR X rIxS := by
  intro value slice pins s σ H x y v u Q I rx ry h hs
  obtain ⟨z, i, c, rfl, rfl, hz, he, q⟩ := h
  obtain ⟨t, rfl⟩ := rx
  obtain ⟨t', rfl⟩ := ry
  obtain ⟨j, h1, h2, h3, h4, h5⟩ := atI_get he
  have hl : z.cps.toList.length = z.length := by simp [Str.length]
  rw [hl] at h1 h4 h5
  have hn := line63
  exact tail_any (typeIs_str s z t) slot_str_getitem.lookup (getItem_str (c := c) (by
    have e1 : decide (i < -(2 ^ 63 : Int)) = false := decide_eq_false (by omega)
    have e2 : decide (i ≥ 2 ^ 63) = false := decide_eq_false (by omega)
    rw [e1, e2, Bool.or_false]) (by rw [h1]; simpa using h2) ⟨.str ⟨#[c]⟩, H, I.tok _, ⟨_, rfl⟩, q⟩) hs
theorem mapSeq_set (its : List Value) (n j : Nat) (u : Value) : Obj.mapSeq (·.setIfInBounds j u) { cls := .type "list", data := .seq its.toArray n } = { cls := .type "list", data := .seq (its.set j u).toArray n } := by
  simp [Obj.mapSeq]
theorem Inv.lst {pins : List (Addr × Obj)} {σ : St} {H : Hp} {s : Shared} {p : Addr} {xs : List V} (I : Inv X pins σ H s) (h : H p = some (.lst xs)) :
    ∃ (its : List Value) (n : Nat), Vals xs its ∧ s.heap.get? p = some { cls := .type "list", data := .seq its.toArray n } ∧ xs.length ≤ sizeLine := by
  obtain ⟨z, its, n, r, e⟩ := I.hok p _ h
  exact ⟨its, n, r, e, z⟩
theorem Inv.lstUpd {pins : List (Addr × Obj)} {σ : St} {H : Hp} {s : Shared} {p : Addr} {xs ys : List V} {its its' : List Value} {n n' : Nat} {f : Obj → Obj} (I : Inv X pins σ H s) (h : H p = some (.lst xs))
    (ho : s.heap.get? p = some { cls := .type "list", data := .seq its.toArray n }) (hf : f { cls := .type "list", data := .seq its.toArray n } = { cls := .type "list", data := .seq its'.toArray n' }) (r : Vals ys its') (hz : ys.length ≤ sizeLine) (t : Nat) :
    Inv X pins σ (upd H p (.lst ys)) { s with heap := s.heap.update p f, toks := t } := by
  have e : (s.heap.update p f).get? p = some { cls := .type "list", data := .seq its'.toArray n' } := by
    rw [Heap.get?_update_self f ho (by rw [hf] <;> rfl), hf]
  refine I.write (x := p) (e := p) (by rw [h]; trivial) (.inl rfl) (fun b u hb q => (Heap.get?_update_other _ _ (Ne.symm hb)).trans q) ⟨_, e⟩ ?_
  exact ⟨hz, its', n', r, e⟩
def rSetL : V → V → V → Hp → (Hp → Prop) → Prop := fun o i v H Q => ∃ p xs k j, o = .ref p ∧ i = .int k ∧ H p = some (.lst xs) ∧ ixN xs.length k = some j ∧ Q (upd H p (.lst (xs.set j v)))
theorem set_list : PSet X rSetL := by
  intro pins s σ H o i v ov iv u Q I ro ri rv h
  obtain ⟨p, xs, k, j, rfl, rfl, hp, hj, q⟩ := h
  cases ro
  obtain ⟨t, rfl⟩ := ri
  obtain ⟨its, n, r, ho, hz⟩ := I.lst hp
  obtain ⟨h1, h2, h3, h4⟩ := ixN_seq hj
  have hl := r.length
  have hn := line63
  have I' : Inv X pins σ (upd H p (.lst (xs.set j v))) { s with heap := s.heap.update p (Obj.mapSeq (·.setIfInBounds j u)) } :=
    I.lstUpd hp ho (mapSeq_set its n j u) (r.set rv j) (by rw [List.length_set]; exact hz) s.toks
  by_cases h0 : 0 ≤ k
  · have hk : k.toNat = j := by
      rw [seqIndex_of h0 h4] at h1
      exact Option.some.inj h1
    exact PySem.W.ki_setAt ho h0 (by omega) (by rw [List.size_toArray, ← hl]; exact h4) (by rw [hk]; exact ⟨_, I', q⟩)
  · have hk : (k + (its.toArray.size : Int)).toNat = j := by
      rw [seqIndex_neg (by omega) h3] at h1
      rw [List.size_toArray, ← hl]
      exact Option.some.inj h1
    exact PySem.W.ki_setBack ho (by omega) (by rw [List.size_toArray, ← hl]; exact h3) (by omega) (by rw [hk]; exact ⟨_, I', q⟩)
theorem slice_bounds (lo hi : Option Int) (n : Nat) : (sliceBounds lo hi none n).1 = ((HT.sIx n 0 lo : Nat) : Int) ∧ (sliceBounds lo hi none n).2.1 = ((HT.sIx n n hi : Nat) : Int) ∧ (sliceBounds lo hi none n).2.2 = 1 := by
  refine ⟨?_, ?_, rfl⟩
  · cases lo with
    | none => simp [sliceBounds, HT.sIx]
    | some i =>
      simp only [sliceBounds, HT.sIx, Option.getD_none, show (1 : Int) > 0 by decide, if_true]
      by_cases h : i < 0
      · simp only [h, if_true] <;> omega
      · simp only [h, if_false] <;> omega
  · cases hi with
    | none => simp [sliceBounds, HT.sIx]
    | some i =>
      simp only [sliceBounds, HT.sIx, Option.getD_none, show (1 : Int) > 0 by decide, if_true]
      by_cases h : i < 0
      · simp only [h, if_true] <;> omega
      · simp only [h, if_false] <;> omega
theorem slicePick_cut (its : List Value) (lo hi : Option Int) : slicePick its.toArray lo hi none = ((its.drop (HT.sIx its.length 0 lo)).take (HT.sIx its.length its.length hi - HT.sIx its.length 0 lo)).toArray := by
  obtain ⟨h1, h2, h3⟩ := slice_bounds lo hi its.toArray.size
  unfold slicePick
  rw [h1, h2, h3]
  simp only [sliceRange_one, pick_run, List.size_toArray] <;> rfl
def rSlL (K : PySem.W.Frag) : V → Option Int → Option Int → Hp → VK → Prop := fun x lo hi H Q => ∃ a xs, x = .ref a ∧ SqL K H a xs ∧ ∀ p, H p = none → Q (.ref p) (upd H p (.lst (cutV xs lo hi)))
theorem sl_list : SlR X (rSlL X.K) := by
  intro pins s σ H x v vl vu lo hi sl Q I rx hs pl pu h
  obtain ⟨a, xs, rfl, hx, q⟩ := h
  cases rx
  obtain ⟨its, r, ht, hz⟩ := I.list hx
  have hlen := r.length
  refine ⟨"list", _, slot_list_getitem.lookup, ht.isList.typeIs, ?_⟩
  refine wpAny_getItem_list_slice ht.isList hs pl pu .none (by simp) ?_ (by rw [List.size_toArray] <;> omega)
  rw [slicePick_cut, ← hlen]
  refine ⟨.ref s.heap.objs.size, _, I.laid (t' := s.toks) (o := .lst (cutV xs lo hi)) (fun b ob q => Heap.get?_push_of_some _ q) (Nat.le_refl _) ?_, rfl, q _ (I.hok.fresh (Nat.le_refl _))⟩
  exact ⟨Nat.le_trans (cutV_length xs lo hi) hz, _, 0, (r.drop (HT.sIx xs.length 0 lo)).take (HT.sIx xs.length xs.length hi - HT.sIx xs.length 0 lo), Heap.get?_push_size _ rfl⟩
def flatV : V → Bool
  | .non => true
  | .bl _ => true
  | .int _ => true
  | .str _ => true
  | _ => false
def eqV : V → V → Bool
  | .non, .non => true
  | .bl a, .bl b => a == b
  | .bl a, .int b => (if a then 1 else 0) == b
  | .int a, .bl b => a == (if b then 1 else 0)
  | .int a, .int b => a == b
  | .str a, .str b => a == b
  | _, _ => false
theorem eqAt_V {A : Around} {s : Shared} {y x : V} {u v : Value} (ry : RelV y u) (rx : RelV x v) (fy : flatV y = true) (fx : flatV x = true) : SeqAt.EqAt A s u v (eqV y x) := by
  cases y with
  | non =>
    cases ry
    cases x with
    | non => cases rx; exact SeqAt.EqAt.same _
    | bl b => cases rx; exact SeqAt.EqAt.none_bool b
    | int b => obtain ⟨t, rfl⟩ := rx; exact SeqAt.EqAt.none_int b t
    | str b => obtain ⟨t, rfl⟩ := rx; exact SeqAt.EqAt.none_str b t
    | _ => exact absurd (show false = true from fx) Bool.false_ne_true
  | bl a =>
    cases ry
    cases x with
    | non => cases rx; exact SeqAt.EqAt.bool_none a
    | bl b => cases rx; exact SeqAt.EqAt.bool_bool a b
    | int b => obtain ⟨t, rfl⟩ := rx; exact SeqAt.EqAt.bool_int a b t
    | str b => obtain ⟨t, rfl⟩ := rx; exact SeqAt.EqAt.bool_str a b t
    | _ => exact absurd (show false = true from fx) Bool.false_ne_true
  | int a =>
    obtain ⟨t', rfl⟩ := ry
    cases x with
    | non => cases rx; exact SeqAt.EqAt.int_none a t'
    | bl b => cases rx; exact SeqAt.EqAt.int_bool a t' b
    | int b => obtain ⟨t, rfl⟩ := rx; exact SeqAt.EqAt.int_int a t' b t
    | str b => obtain ⟨t, rfl⟩ := rx; exact SeqAt.EqAt.int_str a t' b t
    | _ => exact absurd (show false = true from fx) Bool.false_ne_true
  | str a =>
    obtain ⟨t', rfl⟩ := ry
    cases x with
    | non => cases rx; exact SeqAt.EqAt.str_none a t'
    | bl b => cases rx; exact SeqAt.EqAt.str_bool a t' b
    | int b => obtain ⟨t, rfl⟩ := rx; exact SeqAt.EqAt.str_int a t' b t
    | str b => obtain ⟨t, rfl⟩ := rx; exact SeqAt.EqAt.str_str a t' b t
    | _ => exact absurd (show false = true from fx) Bool.false_ne_true
  | _ => exact absurd (show false = true from fy) Bool.false_ne_true
def eqU (x : V) (u : Value) : Bool := match u with
  | .none => eqV .non x
  | .bool b => eqV (.bl b) x
  | .int i _ => eqV (.int i) x
  | .str z _ => eqV (.str z) x
  | _ => false
theorem eqU_of {x y : V} {u : Value} (r : RelV y u) (f : flatV y = true) : eqU x u = eqV y x := by
  cases y with
  | non => cases r; rfl
  | bl b => cases r; rfl
  | int i => obtain ⟨t, rfl⟩ := r; rfl
  | str z => obtain ⟨t, rfl⟩ := r; rfl
  | _ => exact absurd (show false = true from f) Bool.false_ne_true
theorem any_eqU {x : V} : ∀ {xs : List V} {us : List Value}, Vals xs us → xs.all flatV = true → us.any (eqU x) = xs.any fun y => eqV y x
  | _, _, .nil, _ => rfl
  | y :: xs, u :: us, .cons r t, f => by
    rw [List.all_cons, Bool.and_eq_true] at f
    rw [List.any_cons, List.any_cons, eqU_of r f.1, any_eqU t f.2]
theorem mem_eqAt {A : Around} {s : Shared} {x : V} {v : Value} (rx : RelV x v) (fx : flatV x = true) : ∀ {xs : List V} {us : List Value}, Vals xs us → xs.all flatV = true → ∀ u ∈ us, SeqAt.EqAt A s u v (eqU x u)
  | _, _, .nil, _ => fun u hu => by cases hu
  | y :: xs, u :: us, .cons r t, f => fun u' hu => by
    rw [List.all_cons, Bool.and_eq_true] at f
    rcases List.mem_cons.mp hu with rfl | hu
    · rw [eqU_of r f.1]; exact eqAt_V r rx f.1 fx
    · exact mem_eqAt rx fx t f.2 u' hu
def inV (x : V) (xs : List V) : Bool := xs.any fun y => eqV y x
def rIn (K : PySem.W.Frag) (neg : Bool) : R2 := fun x y H Q => ∃ p xs, y = .ref p ∧ (SqL K H p xs ∨ SqT K H p xs) ∧ flatV x = true ∧ xs.all flatV = true ∧ Q (.bl (if neg then !inV x xs else inV x xs)) H
theorem op_in_seq : OpR X (compareOp .In) (rIn X.K false) := by
  intro pins s σ H x y v u Q I rx ry h
  obtain ⟨p, xs, rfl, hq, fx, fs, q⟩ := h
  cases ry
  rcases hq with hq | hq
  · obtain ⟨its, r, pl, hz⟩ := I.list hq
    refine SeqAt.in_listAt (eqU x) pl.isList (fun w hw => mem_eqAt rx fx r fs w (by simpa using hw)) ⟨.bl _, H, I, rfl, ?_⟩
    rw [show its.toArray.any (eqU x) = its.any (eqU x) by simp, any_eqU r fs]
    exact q
  · obtain ⟨its, r, pl, hz⟩ := I.tuple hq
    refine SeqAt.in_tupleAt (eqU x) pl (fun w hw => mem_eqAt rx fx r fs w (by simpa using hw)) ⟨.bl _, H, I, rfl, ?_⟩
    rw [show its.toArray.any (eqU x) = its.any (eqU x) by simp, any_eqU r fs]
    exact q
theorem op_notIn_seq : OpR X (compareOp .NotIn) (rIn X.K true) := by
  intro pins s σ H x y v u Q I rx ry h
  obtain ⟨p, xs, rfl, hq, fx, fs, q⟩ := h
  cases ry
  rcases hq with hq | hq
  · obtain ⟨its, r, pl, hz⟩ := I.list hq
    refine SeqAt.notIn_listAt (eqU x) pl.isList (fun w hw => mem_eqAt rx fx r fs w (by simpa using hw)) ⟨.bl _, H, I, rfl, ?_⟩
    rw [show its.toArray.any (eqU x) = its.any (eqU x) by simp, any_eqU r fs]
    exact q
  · obtain ⟨its, r, pl, hz⟩ := I.tuple hq
    refine SeqAt.notIn_tupleAt (eqU x) pl (fun w hw => mem_eqAt rx fx r fs w (by simpa using hw)) ⟨.bl _, H, I, rfl, ?_⟩
    rw [show its.toArray.any (eqU x) = its.any (eqU x) by simp, any_eqU r fs]
    exact q
theorem call_len_seq : CallR X (.builtin "len") (fun xs H Q => ∃ p ys, xs = [.ref p] ∧ (SqL X.K H p ys ∨ SqT X.K H p ys) ∧ Q (.int ys.length) H) := by
  intro pins s σ H xs us Q I r h
  obtain ⟨p, ys, rfl, hq, q⟩ := h
  obtain ⟨u, rfl, rx⟩ := vals1 r
  cases rx
  have hn := line63
  rcases hq with hq | hq
  · obtain ⟨its, r', pl, hz⟩ := I.list hq
    have hlen := r'.length
    exact Calls.call_len_list pl.isList (by simp only [List.size_toArray] <;> omega) ⟨.int ys.length, H, I.tok _, ⟨s.toks + 1, by rw [List.size_toArray, hlen]⟩, q⟩
  · obtain ⟨its, r', pl, hz⟩ := I.tuple hq
    have hlen := r'.length
    exact len_tuple pl (by simp only [List.size_toArray] <;> omega) ⟨.int ys.length, H, I.tok _, ⟨s.toks + 1, by rw [List.size_toArray, hlen]⟩, q⟩
theorem call_len_str : CallR X (.builtin "len") (fun xs H Q => ∃ z, xs = [.str z] ∧ z.length ≤ sizeLine ∧ Q (.int z.length) H) := by
  intro pins s σ H xs us Q I r h
  obtain ⟨z, rfl, hz, q⟩ := h
  obtain ⟨u, rfl, t, rfl⟩ := vals1 r
  have hn := line63
  exact len_str (by omega) ⟨.int z.length, H, I.tok _, ⟨_, rfl⟩, q⟩
theorem call_list_of : CallR X (.type "list") (fun xs H Q => ∃ p ys, xs = [.ref p] ∧ (SqL X.K H p ys ∨ SqT X.K H p ys) ∧ ∀ l, H l = none → Q (.ref l) (upd H l (.lst ys))) := by
  intro pins s σ H xs us Q I r h
  obtain ⟨p, ys, rfl, hq, q⟩ := h
  obtain ⟨u, rfl, rx⟩ := vals1 r
  cases rx
  have fin : ∀ (its : List Value), Vals ys its → ys.length ≤ sizeLine → ∀ (h' : Heap) (c' : Nat), (∀ b o', s.heap.get? b = some o' → h'.get? b = some o') →
      h'.get? s.heap.objs.size = some { cls := .type "list", dict := none, data := .seq its.toArray c', slots := #[] } → EP X pins σ Q (.ref s.heap.objs.size) { s with heap := h' } := fun its r' hz h' c' kp e =>
    ⟨.ref s.heap.objs.size, _, I.laid (t' := s.toks) kp (Nat.le_refl _) (show ObjOk X.prog X.w _ h' _ (.lst ys) from ⟨hz, its, c', r', e⟩), rfl, q _ (I.hok.fresh (Nat.le_refl _))⟩
  rcases hq with hq | hq
  · obtain ⟨its, r', pl, hz⟩ := I.list hq
    have hlen := r'.length
    obtain ⟨o, ho, hc, n, hd⟩ := pl.isList
    exact call_list_seq p (.inl rfl) ho hc hd (fun h' c' kp e => fin its r' hz h' c' kp e) (by simp only [List.size_toArray] <;> omega)
  · obtain ⟨its, r', pl, hz⟩ := I.tuple hq
    have hlen := r'.length
    obtain ⟨o, ho, hc, n, hd⟩ := pl
    exact call_list_seq p (.inr rfl) ho hc hd (fun h' c' kp e => fin its r' hz h' c' kp e) (by simp only [List.size_toArray] <;> omega)
def tyV (K : PySem.W.Frag) (T : String) (x : V) (H : Hp) : Prop := match x with
  | .str _ => T = "str"
  | .int _ => T = "int"
  | .ref p => (T = "list" ∧ ∃ xs, SqL K H p xs) ∨ (T = "tuple" ∧ ∃ o, K.lookup p = some o ∧ o.cls = .type "tuple" ∧ o.dict = none) ∨
      (T = "dict" ∧ ((∃ kvs, H p = some (.dK kvs)) ∨ ∃ kvs, H p = some (.dT kvs))) ∨ (T = "set" ∧ ∃ S n, H p = some (.set S n))
  | _ => False
theorem tyV_is {pins : List (Addr × Obj)} {σ : St} {H : Hp} {s : Shared} {T : String} {x : V} {v : Value} (I : Inv X pins σ H s) (r : RelV x v) (ty : tyV X.K T x H) :
    s.TypeIs v T ∧ ∀ a, v = .ref a → ∃ ob, s.heap.get? a = some ob ∧ ob.dict = none := by
  cases x with
  | str z =>
    obtain ⟨t, rfl⟩ := r
    cases (show T = "str" from ty)
    exact ⟨typeIs_str s z t, fun _ e => nomatch e⟩
  | int i =>
    obtain ⟨t, rfl⟩ := r
    cases (show T = "int" from ty)
    exact ⟨typeIs_int s i t, fun _ e => nomatch e⟩
  | ref p =>
    cases r
    rcases ty with ⟨rfl, xs, hq⟩ | ⟨rfl, o, hk, hc, hd⟩ | ⟨rfl, hk⟩ | ⟨rfl, S, n, hk⟩
    · obtain ⟨its, _, pl, _⟩ := I.list hq
      refine ⟨pl.isList.typeIs, fun a e => ?_⟩
      cases e
      obtain ⟨o, n, e, c, hd, _⟩ := pl
      exact ⟨o, e, hd⟩
    · refine ⟨⟨o, I.kIn p o hk, hc⟩, fun a e => ?_⟩
      cases e
      exact ⟨o, I.kIn _ o hk, hd⟩
    · have z : ∃ o, s.heap.get? p = some o ∧ o.ExactDict := by
        rcases hk with ⟨kvs, hk⟩ | ⟨kvs, hk⟩
        · obtain ⟨_, _, _, _, o, _, _, e, ex, _⟩ := I.hok p _ hk
          exact ⟨o, e, ex⟩
        · obtain ⟨_, _, _, _, o, _, _, e, ex, _⟩ := I.hok p _ hk
          exact ⟨o, e, ex⟩
      obtain ⟨o, e, ex⟩ := z
      refine ⟨⟨o, e, ex.1⟩, fun a e2 => ?_⟩
      cases e2
      exact ⟨o, e, ex.2.1⟩
    · obtain ⟨o, _, _, _, e, ex, _⟩ := I.hok p _ hk
      refine ⟨⟨o, e, ex.1⟩, fun a e2 => ?_⟩
      cases e2
      exact ⟨o, e, ex.2.1⟩
  | _ => exact False.elim ty
def tBM0 (K : PySem.W.Frag) (T : String) (r : V → List V → Hp → VK → Prop) (to : TE) : TE := fun σ H Q => to σ H fun x H1 => tyV K T x H1 ∧ r x [] H1 Q
def tBM (K : PySem.W.Frag) (T : String) (r : V → List V → Hp → VK → Prop) (to : TE) (t : TA) : TE := fun σ H Q => to σ H fun x H1 => tyV K T x H1 ∧ t σ H1 fun xs H2 => r x xs H2 Q
variable {o e : Expr} {es : List Expr} {to : TE} {t : TA} {name : Str} {apos cpos : Pos} {T id : String} {r : V → List V → Hp → VK → Prop}
theorem pe_bm0 (pa : PlainAttrs T) (slot : Slot T name id) (hty : typeOf (.builtin id) = pure (.type "method_descriptor")) (hm : MtR X id r) (ho : PE X o to)
    (hbase : attributeBase o name X.env (eval o X.env) = eval o X.env := by rfl) (hline : (apos.endLine == cpos.line) = true := by rfl) : PE X (.Call (.Attribute o name apos) [] [] cpos) (tBM0 X.K T r to) := by
  intro pins s σ H Q I h
  refine wpAny_Call_method0_late hbase hline (thn (ho pins s σ H _ I h) fun v s1 ⟨x, H1, I1, r1, ty, q1⟩ => ?_)
  obtain ⟨h1, h2⟩ := tyV_is I1 r1 ty
  exact ⟨T, id, pa, slot, hty, h1, h2, Calls.callWith_builtin rfl (PySem.evalArgs_none (hm pins s1 σ H1 x [] v [] Q I1 r1 .nil q1))⟩
theorem pe_bm (pa : PlainAttrs T) (slot : Slot T name id) (hty : typeOf (.builtin id) = pure (.type "method_descriptor")) (hm : MtR X id r) (ho : PE X o to) (ha : PA X (e :: es) t)
    (hbase : attributeBase o name X.env (eval o X.env) = eval o X.env := by rfl)
    (hfew : ((backTo cpos (starEach (e :: es) X.env)).all (fun x => !x.1) && (backToKw cpos (keywordEach [] X.env)).all (fun x => x.1.isSome)
      && decide ((e :: es).length + ([] : List Keyword).length + (if ([] : List Keyword).isEmpty then 0 else 1) < 30)) = true := by rfl)
    (hline : (apos.endLine == cpos.line) = true := by rfl) (hs : starEach (e :: es) X.env = (false, eval e X.env) :: starEach es X.env := by rfl) (hplain : (backTo cpos (starEach es X.env)).any (·.1) = false := by rfl) :
    PE X (.Call (.Attribute o name apos) (e :: es) [] cpos) (tBM X.K T r to t) := by
  intro pins s σ H Q I h
  refine wpAny_Call_method_late hbase hfew hline rfl (thn (ho pins s σ H _ I h) fun v s1 ⟨x, H1, I1, r1, ty, q1⟩ => ?_)
  obtain ⟨h1, h2⟩ := tyV_is I1 r1 ty
  refine ⟨T, id, pa, slot, hty, h1, h2, ?_⟩
  have hA := ha cpos pins s1 σ H1 _ I1 q1
  rw [hs] at hA ⊢
  refine Calls.callWith_builtin (by show (false || (backTo cpos (starEach es X.env)).any (·.1)) = false; rw [hplain] <;> rfl) (Calls.evalArgs_plain ?_)
  exact thn hA fun us s2 ⟨vs, H2, I2, r2, q2⟩ => hm pins s2 σ H2 x vs v us Q I2 r1 r2 q2
/- xs.append(e), list.index on a module's tuple .. are MtR facts of 06m -/
end
end L2
namespace L2
open PySem PySem.Spec PyProof.Rows
def MtM (X : Cx) (id : String) (r : V → List V → Hp → VK → Prop) : Prop :=
  ∀ (pins : List (Addr × Obj)) (s : Shared) (σ : St) (H : Hp) (x : V) (xs : List V) (v : Value) (us : List Value) (Q : VK), Inv X pins σ H s → RelV x v → Vals xs us → r x xs H Q →
    wpAny (model X.prog X.w) X.A (call (.builtin id) (v :: us)) (EP X pins σ Q) X.xe s
theorem Vals.one : ∀ {x : V} {us : List Value}, Vals [x] us → ∃ u, us = [u] ∧ RelV x u
  | _, _, .cons r .nil => ⟨_, rfl, r⟩
theorem Vals.two : ∀ {x y : V} {us : List Value}, Vals [x, y] us → ∃ u v, us = [u, v] ∧ RelV x u ∧ RelV y v
  | _, _, _, .cons r (.cons q .nil) => ⟨_, _, rfl, r, q⟩
theorem Vals.zero : ∀ {us : List Value}, Vals [] us → us = []
  | _, .nil => rfl
section
variable {X : Cx} {pins : List (Addr × Obj)} {σ : St} {H : Hp} {s : Shared} {l b : Addr} {xs ys zs : List V}
theorem Inv.lset {its its' : List Value} {n : Nat} {f : Array Value → Array Value} {t' : Nat} (I : Inv X pins σ H s) (hH : H l = some (.lst xs))
    (e : s.heap.get? l = some { cls := .type "list", data := .seq its.toArray n }) (hf : f its.toArray = its'.toArray) (hv : Vals ys its') (hz : ys.length ≤ sizeLine) :
    Inv X pins σ (upd H l (.lst ys)) { s with heap := s.heap.update l (Obj.mapSeq f), toks := t' } := by
  have q := PySem.IsL.update e f
  rw [hf] at q
  refine I.write (x := l) (e := l) (by rw [hH]; exact trivial) (.inl rfl) (fun b' u hb hu => (Heap.get?_update_other s.heap (Obj.mapSeq f) (Ne.symm hb)).trans hu) ⟨_, q⟩ ?_
  exact ⟨hz, its', _, hv, q⟩
theorem Inv.lnew {its : List Value} {t' : Nat} (I : Inv X pins σ H s) (hv : Vals ys its) (hz : ys.length ≤ sizeLine) :
    Inv X pins σ (upd H s.heap.objs.size (.lst ys)) { s with heap := s.heap.push { cls := .type "list", data := .seq its.toArray }, toks := t' } :=
  I.laid (fun _ _ q => Heap.get?_push_of_some _ q) (Nat.le_refl _) ⟨hz, its, 0, hv, Heap.get?_push_size _ rfl⟩
theorem Inv.lstM (I : Inv X pins σ H s) (hH : H l = some (.lst xs)) : xs.length ≤ sizeLine ∧ ∃ (its : List Value) (n : Nat), Vals xs its ∧ xs.length = its.length ∧ s.heap.get? l = some { cls := .type "list", data := .seq its.toArray n } := by
  obtain ⟨z, its, n, r, e⟩ := I.hok l _ hH
  exact ⟨z, its, n, r, r.length, e⟩
theorem notLongL {n : Nat} (h : n ≤ sizeLine) : Builtin.List.listTooLong n = false := by
  unfold Builtin.List.listTooLong
  exact decide_eq_false (by omega)
end
section
variable {X : Cx}
def rAppend : V → List V → Hp → VK → Prop := fun x vs H Q => ∃ l xs y, x = .ref l ∧ vs = [y] ∧ H l = some (.lst xs) ∧ xs.length < sizeLine ∧ Q .non (upd H l (.lst (xs ++ [y])))
theorem mt_append : MtM X "list.append" rAppend := by
  intro pins s σ H x vs v us Q I rx rv h
  obtain ⟨l, xs, y, rfl, rfl, hH, hz, q⟩ := h
  cases rx
  obtain ⟨u, rfl, ru⟩ := rv.one
  obtain ⟨z, its, n, r, hl, e⟩ := I.lstM hH
  refine call_meets F.slot_list_append ⟨_, e, rfl⟩ F.entry_list_append (F.args_list_append_2 _ _) (PySem.list_append l its.toArray n u (by rw [List.size_toArray]; omega)) ⟨e, ?_⟩
  refine ⟨.non, _, I.lset (its' := its ++ [u]) hH e (by simp) (r.append (.cons ru .nil)) ?_, rfl, q⟩
  rw [List.length_append, List.length_singleton]
  omega
def rExtend : V → List V → Hp → VK → Prop := fun x vs H Q => ∃ l b xs zs, x = .ref l ∧ vs = [.ref b] ∧ H l = some (.lst xs) ∧ H b = some (.lst zs) ∧ xs.length + zs.length ≤ sizeLine ∧ Q .non (upd H l (.lst (xs ++ zs)))
theorem mt_extend : MtM X "list.extend" rExtend := by
  intro pins s σ H x vs v us Q I rx rv h
  obtain ⟨l, b, xs, zs, rfl, rfl, hH, hB, hz, q⟩ := h
  cases rx
  obtain ⟨u, rfl, ru⟩ := rv.one
  cases ru
  obtain ⟨z, its, n, r, hl, e⟩ := I.lstM hH
  obtain ⟨z2, its2, n2, r2, hl2, e2⟩ := I.lstM hB
  have hsz : its.toArray.size + its2.toArray.size ≤ sizeLine := by rw [List.size_toArray, List.size_toArray]; omega
  have hlong : ¬ (!its.toArray.isEmpty && Builtin.List.listTooLong (its.toArray.size + its2.toArray.size)) = true := by
    rw [notLongL hsz, Bool.and_false]
    exact Bool.false_ne_true
  refine call_meets F.slot_list_extend ⟨_, e, rfl⟩ F.entry_list_extend (F.args_list_extend_2 _ _)
    (AutoSeq1.list_extend_list_list_0 l its.toArray n b its2.toArray n2 hlong (by rw [List.size_toArray]; omega) (by omega)) ⟨e, e2, ?_⟩
  refine ⟨.non, _, I.lset (its' := its ++ its2) hH e (by simp) (r.append r2) ?_, rfl, q⟩
  rw [List.length_append]
  omega
def rClear : V → List V → Hp → VK → Prop := fun x vs H Q => ∃ l xs, x = .ref l ∧ vs = [] ∧ H l = some (.lst xs) ∧ Q .non (upd H l (.lst []))
theorem mt_clear : MtM X "list.clear" rClear := by
  intro pins s σ H x vs v us Q I rx rv h
  obtain ⟨l, xs, rfl, rfl, hH, q⟩ := h
  cases rx
  have hus := rv.zero
  subst hus
  obtain ⟨z, its, n, r, hl, e⟩ := I.lstM hH
  refine call_meets F.slot_list_clear ⟨_, e, rfl⟩ F.entry_list_clear (F.args_list_clear_1 _) (AutoSeq1.list_clear_list_0 l its.toArray n (by rw [List.size_toArray]; omega)) ⟨e, ?_⟩
  exact ⟨.non, _, I.lset (its' := []) (ys := []) hH e rfl .nil (Nat.zero_le _), rfl, q⟩
end
section
variable {prog : Program} {w : World} {A : Around} {E : Value → Shared → Prop} {s : Shared}
set_option maxRecDepth 100000 in
end
section
variable {X : Cx}
end
end L2
namespace Att
open PySem PySem.W PySem.Calls PyProof.Rows
theorem ints_of_wellAll {P : Params} {h : Heap} : ∀ (ns : List Int) (vs : List Value), WellAll P h vs (ns.map WData.int) → IntsAre vs ns := by
  intro ns
  induction ns with
  | nil =>
    intro vs w
    rw [List.map_nil] at w
    cases w
    exact .nil
  | cons n ns ih =>
    intro vs w
    rw [List.map_cons] at w
    cases w with
    | cons a b =>
      cases a
      exact .cons _ _ (ih _ b)
theorem script_of {l : OpenLaw} {n : Nat} (hn : l.most = some n) {P : Params} {h : Heap} {args : List WData} {vals : List Value}
    (hpre : l.row.toRowW.claim.pre args = true) (hwl : WellAll P h vals args) :
    ∃ a vs ns, vals = [Value.ref a] ∧ args = [WData.list (ns.map WData.int)] ∧ h.get? a = some { cls := .type "list", data := .seq vs.toArray } ∧ IntsAre vs ns ∧ ns.length ≤ n := by
  have hsh : WShape.hasAll [] args [.list .int] = true := (pre_splitW hpre).1
  have hc : l.pre.holds [] { args := args } = true := (pre_splitW hpre).2
  obtain ⟨d, r, rfl, h1, h2⟩ := hasAllW_cons hsh
  obtain rfl := hasAllW_nil h2
  obtain ⟨xs, rfl, h3⟩ := hasW_list h1
  obtain ⟨ns, rfl⟩ := items_int h3
  have hlen : ns.length ≤ n := by
    unfold OpenLaw.pre at hc
    have h4 : (WTm.not (.lt (.lit (.int (n : Int))) (.len (.arg 0)))).holds [] { args := [.list (ns.map .int)] } = true := by
      have h4 := (holds_andW hc).1
      rw [hn] at h4
      exact h4
    have h5 := condW_of h4 (w_not (w_lt w_lit (w_len_list (w_arg rfl))))
    rw [List.length_map] at h5
    refine Nat.le_of_not_lt fun q => ?_
    have q' : (n : Int) < ((ns.length : Nat) : Int) := by omega
    first
      | (rw [decide_eq_true q'] at h5; exact absurd h5 (by decide))
      | (simp at h5; omega)
  cases hwl with
  | cons w1 w2 =>
    cases w2
    cases w1 with
    | list ho hall => exact ⟨_, _, ns, rfl, rfl, ho, ints_of_wellAll ns _ hall, hlen⟩
theorem post_true (l : OpenLaw) (args : List WData) : l.row.toRowW.claim.post args (.bool true) args = true :=
  postW_of (r := l.row.toRowW) (X := (true == true))
    (show WShape.has [] (.bool true) .bool = true by first | rfl | decide | simp [WShape.has, WShape.arms, WShape.armsAll])
    (show (WTm.eq .res (.lit (.bool true))).value [] { args := args, res := some (.bool true), after := args } = some (.bool (true == true)) from w_eq_bool (w_res rfl) w_lit) rfl
theorem attach_call {l : OpenLaw} {n : Nat} {q : Program} {loose : List Str} {XP : (Str → Option Value) → Heap → Prop} {YP : World → Heap → Prop} {d : DefRec}
    (hn : l.most = some n) (hdf : d.params.defaults = [])
    (call : ∀ (w : World) (s₀ s₁ : Shared) (mg mb : Str → Option Value) (fa : Addr) (o : Obj) (pm cd doc : Value) (a : Addr) (vs : List Value) (ns : List Int),
      Ground q loose [] XP w s₀ mg mb s₁.heap → YP w s₁.heap →
      s₁.heap.get? fa = some o → o.data = .func (docDef d.name d.params d.body d.scope pm cd doc) → s₁.heap.CodeRec cd d.name → mg d.name = some (.ref fa) →
      s₁.heap.get? a = some { cls := .type "list", data := .seq vs.toArray } → IntsAre vs ns → ns.length ≤ n → s₁.gens = #[] →
      codeAny (model l.prog w) callerA (.call (.ref fa) ⟨[.ref a], []⟩) (fun r s' => r = .ok (.ret (.bool true)) ∧ OldK s₁.heap s'.heap ∧ s'.os = s₁.os ∧ AllBare s'.gens) s₁) :
    WalkO q loose XP YP l.row.toRowW d [] (fun f vs => PySem.call f vs) := by
  intro w s₀ s₁ mg mb G Y fa o pm cd doc dV kV ho hd hcd hD hmg hg args vals as hpre hlay hrd hwl hlo
  obtain rfl : dV = .none := Dflts.none hD hdf
  obtain rfl : kV = .none := Dflts.noKw hD
  obtain ⟨a, vs, ns, rfl, rfl, hobj, hints, hlen⟩ := script_of hn hpre hwl
  refine enter_call (codeAny_mono (call w s₀ s₁ mg mb fa o pm cd doc a vs ns G Y ho (fd_plain hd) hcd hmg hobj hints hlen hg) fun r s' hq => ?_)
  obtain ⟨rfl, h2, h3, h4⟩ := hq
  exact ⟨.inl ⟨.bool true, .bool true, [], rfl, fun _ => rfl, .bool true, post_true l _, fun _ => ⟨List.Pairwise.nil, fun _ hm => (nomatch hm)⟩⟩, h2, h3, h4⟩
section
variable {prog : Program} {w : World} {A : Around} {E : Value → Shared → Prop} {s : Shared} {K : Frag}
end
end Att
namespace L2
open PySem PySem.Spec PyProof.Rows
theorem vals_ints : ∀ {vs : List Value} {ns : List Int}, IntsAre vs ns → Vals (ns.map V.int) vs
  | _, _, .nil => .nil
  | _, _, .cons n t h => .cons ⟨t, rfl⟩ (vals_ints h)
def Only (H : Hp) : Prop := ∀ b, H b = none ∨ ∃ o xs, H b = some (.frz o (.lst xs))
theorem law_call {P : Program} {w : World} {K : PySem.W.Frag} {mg mb : Str → Option Value} {CX : CXT} {k : Nat} {fa a : Addr} {fd : FuncData} {x : Str} {sp : Sp} {s₁ : Shared} {vs : List Value} {ns : List Int}
    (KX : K.In s₁.heap) (hns : s₁.heap.Ns mainGlobals mg) (hb : s₁.heap.Ns builtinsNs mb) (hbb : ∀ x : Str, x ≠ "__name__" → mb x = bootBuiltins x) (hlim : s₁.heap.NoLimit) (hg : s₁.gens = #[])
    (ha : s₁.heap.get? a = some { cls := .type "list", data := .seq vs.toArray }) (hi : IntsAre vs ns) (hl : ns.length ≤ sizeLine) (hr : Room k callerA)
    (F : ∀ base : Heap, K.In base → base.Ns mainGlobals mg → FnOk P w K mg base CX k fa fd [x] sp) (hbind : ∀ (s : Shared) (u : Value), BindsTo s fd ⟨[u], []⟩ [(x, u)])
    (hsp : ∀ H : Hp, Only H → SqL K H a (ns.map V.int) → sp [.ref a] H (fun v _ => v = .bl true) fun _ _ _ => False)
    (hCX : ∀ H e s', CX [] H s₁ (fun _ _ _ => False) e s' → False) :
    codeAny (model P w) callerA (.call (.ref fa) ⟨[.ref a], []⟩) (fun r s' => r = .ok (.ret (.bool true)) ∧ OldK s₁.heap s'.heap ∧ s'.os = s₁.os ∧ AllBare s'.gens) s₁ := by
  have rv := vals_ints hi
  have lenV := hi.length
  have core : ∀ H : Hp, Only H → SqL K H a (ns.map V.int) → HOk P w H s₁.heap → (∀ b, H b ≠ none → b = a) → (H a ≠ none → K.lookup a = none) →
      codeAny (model P w) callerA (.call (.ref fa) ⟨[.ref a], []⟩) (fun r s' => r = .ok (.ret (.bool true)) ∧ OldK s₁.heap s'.heap ∧ s'.os = s₁.os ∧ AllBare s'.gens) s₁ := by
    intro H hO hS hok hA hK
    have base_of : ∀ {b : Addr} {o : Obj}, s₁.heap.get? b = some o → H b = none → (hidT s₁.heap H).get? b = some o := fun e n => hidT_get e n
    have noA : ∀ {b : Addr} {o : Obj} {es : Array DictEntry} {ep : Nat}, s₁.heap.get? b = some o → o.data = .dict es ep → H b = none := fun {b o es ep} e d => by
      cases q : H b with
      | none => rfl
      | some u =>
        have e' : b = a := hA b (by rw [q]; simp)
        subst e'
        rw [ha] at e; cases e
        have d' : Data.seq vs.toArray _ = Data.dict es ep := d
        cases d'
    have nsK : ∀ {b : Addr} {m : Str → Option Value}, s₁.heap.Ns b m → (hidT s₁.heap H).Ns b m := fun {b m} ⟨o, es, ep, e, d, r⟩ => ⟨o, es, ep, base_of e (noA e d), d, r⟩
    have hKb : K.In (hidT s₁.heap H) := fun b o e => base_of (KX b o e) (by
      cases q : H b with
      | none => rfl
      | some u =>
        have e' : b = a := hA b (by rw [q]; simp)
        subst e'
        rw [hK (by rw [q]; simp)] at e; cases e)
    have hM : Mod K mg (hidT s₁.heap H) := ⟨hKb, nsK hns, ⟨mb, nsK hb, hbb⟩, let ⟨mc, h1, h2⟩ := hlim; ⟨mc, nsK h1, h2⟩⟩
    have e0 : Env0 P w K mg (hidT s₁.heap H) callerA [] s₁ H := ⟨rfl, hM, fun b o e => of_hidT e, Nat.le_of_eq (hidT_size _ _), trivial, fun b hb => absurd (show b ∈ ([] : List Addr) from hb) (by simp), hok, .of_eq hg⟩
    refine codeAny_mono ((F _ hKb (nsK hns)).run callerA [] s₁ H ⟨[.ref a], []⟩ [.ref a] [.ref a] _ _ hr e0 (hbind s₁ (.ref a)) (.cons rfl .nil) (hsp H hO hS)) fun r s' h => ?_
    cases r with
    | error e => exact (hCX H e s' h).elim
    | ok fl =>
      cases fl with
      | next => exact False.elim h
      | brk => exact False.elim h
      | cont => exact False.elim h
      | ret u =>
        obtain ⟨v, H', os, bare, un, hok', r', q⟩ := h
        have q' : v = .bl true := q
        subst q'
        obtain rfl : u = Value.bool true := r'
        refine ⟨rfl, OldK.of_keep fun b o e => ?_, os, bare⟩
        cases q : H b with
        | none => exact un.keep b o e q (by intro z; exact absurd (show b ∈ ([] : List Addr) from z) (by simp)) (by simp)
        | some u =>
          rcases hO b with z | ⟨ob, xs, z⟩
          · rw [q] at z; cases z
          · have z2 := un.frzs b ob _ z
            obtain ⟨e1, _⟩ := hok b _ z
            obtain ⟨e2, _⟩ := hok' b _ z2
            rw [e] at e1; cases e1
            exact e2
  cases hk : K.lookup a with
  | some o =>
    have e := KX a o hk
    rw [ha] at e
    cases e
    refine core (fun _ => none) (fun _ => .inl rfl) (.inr ⟨_, vs.toArray, _, hk, rfl, rfl, rfl, by rw [List.size_toArray, lenV]; exact hl, by simpa using rv⟩) (fun b u z => by have z' : (none : Option HO) = some u := z; cases z') (fun b z => absurd rfl z) fun z => absurd rfl z
  | none =>
    refine core (fun b => if b = a then some (.frz { cls := .type "list", data := .seq vs.toArray } (.lst (ns.map V.int))) else none) (fun b => ?_) (.inl (.inr ⟨{ cls := .type "list", data := .seq vs.toArray }, if_pos rfl⟩)) (fun b u z => ?_) (fun b z => ?_) fun _ => hk
    · by_cases hb : b = a
      · exact .inr ⟨_, _, if_pos hb⟩
      · exact .inl (if_neg hb)
    · by_cases hb : b = a
      · have z' := (if_pos hb).symm.trans z
        cases z'
        subst hb
        exact ⟨ha, by rw [List.length_map]; exact hl, vs, _, rv, ha⟩
      · have z' := (if_neg hb).symm.trans z
        cases z'
    · by_cases hb : b = a
      · exact hb
      · exact absurd (if_neg hb) z
end L2
namespace L2
open PySem PySem.Spec PyProof.Rows
theorem walk_of {l : PySem.W.OpenLaw} {n k : Nat} {q : Program} {loose : List Str} {XP : (Str → Option Value) → Heap → Prop} {YP : World → Heap → Prop} {d : DefRec} {K : Params → PySem.W.Frag} {CX : World → CXT} {sp : World → Sp} {x : Str}
    (hn : l.most = some n) (hn2 : n ≤ sizeLine) (hdf : d.params.defaults = []) (hr : Room k callerA)
    (hY : ∀ (w : World) (h : Heap), YP w h → (K w.params).In h)
    (F : ∀ (w : World) (mg : Str → Option Value) (fa : Addr) (h : Heap), (K w.params).In h → h.Ns mainGlobals mg → mg d.name = some (.ref fa) →
      ∃ fd : FuncData, (∀ (s : Shared) (u : Value), BindsTo s fd ⟨[u], []⟩ [(x, u)]) ∧
        ∀ base : Heap, (K w.params).In base → base.Ns mainGlobals mg → FnOk l.prog w (K w.params) mg base (CX w) k fa fd [x] (sp w))
    (hsp : ∀ (w : World) (H : Hp) (a : Addr) (ns : List Int), ns.length ≤ n → Only H → SqL (K w.params) H a (ns.map V.int) → sp w [.ref a] H (fun v _ => v = .bl true) fun _ _ _ => False)
    (hCX : ∀ (w : World) (H : Hp) (s : Shared) (e : Value) (s' : Shared), CX w [] H s (fun _ _ _ => False) e s' → False) :
    PySem.W.WalkO q loose XP YP l.row.toRowW d [] (fun f vs => PySem.call f vs) := by
  refine Att.attach_call hn hdf fun w s₀ s₁ mg mb fa o pm cd doc a vs ns G Y ho hd hcd hmg hobj hints hlen hg => ?_
  have KX := hY w _ Y
  obtain ⟨fd, hb, hF⟩ := F w mg fa _ KX G.T.g hmg
  exact law_call KX G.T.g G.T.b G.T.builtins G.T.nolimit hg hobj hints (Nat.le_trans hlen hn2) hr hF hb (fun H hO hS => hsp w H a ns hlen hO hS) fun H e s' => hCX w H s₁ e s'
end L2
/- THE LAST THEOREM (shape; LID, My.* are yours):
   My.Adr: a structure of the addresses that your layer names (classes, functions); My.Txt K t: a structure (Prop) of the equations over K;
   My.txt_mk : {K} {implicit addresses ..} (e1 : nsIn K mainGlobals "law" = some (some (.ref f))) (e2 : K.lookup f = some ⟨oc, od, .func (fnOf "law" "law" params body scope dV kV doc pm an cdv ct), sl⟩) (e3 : codeIn K cdv "law" = true) .. : ∃ t, My.Txt K t
set_option maxRecDepth 100000 in
set_option maxHeartbeats 0 in
theorem PySem.Challenge.cw_LID_holds : PySem.Challenge.rw_LID.Holds := by
  w_on; o_law; k_head; (case hw => w_witness2)
  k_fill
  refine L2.walk_of (l := PySem.Challenge.rw_LID) (n := 63) (k := 40) (x := "script") (CX := fun w => ..) (sp := fun _ => My.sp_law) rfl (by decide) rfl ⟨rfl, by decide, by decide⟩ (fun w h Y => PySem.W.kIn_of Y) ?F ?S ?C
  case F =>
    intro w mg fa h KX G hmg
    have T : ∃ t, My.Txt (L2.KOf KX) t := by
      dsimp only [L2.KOf]                          -- K must stand as «<heap const> w.params» for k_is
      refine' My.txt_mk ?e1 ?e2 ?e3 ..
      (case e1 => PySem.W.k_is)                    -- in the order: a name -> its address -> its object -> its parts
      (case e2 => PySem.W.k_is)
      ..
    obtain ⟨t, T⟩ := T
    have e0 := hmg.symm.trans (PySem.W.mg_of KX G T.law)
    cases e0                                       -- fa is the law's own address
    exact ⟨_, fun s u => .of_eq rfl, fun base kb nb => My.law_fn T kb nb⟩     -- if «.of_eq rfl» comes too early: refine' ⟨_, ?b, fun base kb nb => My.law_fn T kb nb⟩; exact fun s u => .of_eq rfl
  case S => exact fun w H a ns hl hO hS => ..
  case C => exact ..
(the tactic k_is has no namespace: write k_is) -/
namespace L2
open PySem PySem.Spec PyProof.Rows
def defArgs (s : Stmt) : Arguments := match s with
  | .FunctionDef _ a _ _ _ _ _ _ _ _ => a
  | _ => { posonlyargs := [], args := [], vararg := none, kwonlyargs := [], kw_defaults := [], kwarg := none, defaults := [] }
def defBody (s : Stmt) : List Stmt := match s with
  | .FunctionDef _ _ b _ _ _ _ _ _ _ => b
  | _ => []
def defScope (s : Stmt) : Scope := match s with
  | .FunctionDef _ _ _ _ _ _ sc _ _ _ => sc
  | _ => { kind := .function, names := [], isGenerator := false, isCoroutine := false }
abbrev CX0 : CXT := fun _ _ _ _ _ _ => False
abbrev E0 : XK := fun _ _ _ => False
theorem pass0 {X : Cx} : Passes CX0 X E0 := fun _ _ _ _ _ _ _ h => h.elim
structure Fun (K : PySem.W.Frag) (x qual : Str) (st : Stmt) (f : Addr) (fd : FuncData) : Prop where
  ex : ∃ (oc : Value) (od : Option Addr) (kV doc pm : Value) (an : Option Addr) (cdv ct : Value) (osl : Array (Option Value)),
    fd = PySem.W.fnOf x qual (defArgs st) (defBody st) (defScope st) .none kV doc pm an cdv ct ∧ K.lookup f = some ⟨oc, od, .func fd, osl⟩ ∧ PySem.W.codeIn K cdv qual = true
  kp : PySem.W.keepIn K (.ref f) = true
section
variable {P : Program} {w : World} {K : PySem.W.Frag} {mg : Str → Option Value} {base : Heap}
theorem Fun.ok {x qual : Str} {st : Stmt} {f : Addr} {fd : FuncData} {N ps : List Str} {k : Nat} {sp : Sp} (F : Fun K x qual st f fd) (S : FnScope N ps (defScope st)) (len : ∀ vs H Q E, sp vs H Q E → vs.length = ps.length)
    (hbody : ∀ (cdv : Value) (A : Around) (outer : List Env) (s : Shared) (H : Hp) (vs : List V) (Q : VK) (E : XK), Room k (A.deeper (envOfC qual (defScope st) s.heap.objs.size f cdv)) → sp vs H Q E →
      ∃ t, PSs (cxOf CX0 P w K mg base N qual (defScope st) f cdv A outer s H E).nox (defBody st) t ∧ t { nx := fun _ H' => Q .non H', rt := Q } (start N vs) H) : FnOk P w K mg base CX0 (k + 1) f fd ps sp := by
  obtain ⟨oc, od, kV, doc, pm, an, cdv, ct, osl, rfl, lk, hcd⟩ := F.ex
  refine fn_of lk hcd S len fun A outer s H vs Q E hr hsp => ?_
  obtain ⟨t, h, q⟩ := hbody cdv A outer s H vs Q E hr hsp
  exact ⟨t, h.nox, q⟩
theorem Fun.binds {x qual : Str} {st : Stmt} {f : Addr} {fd : FuncData} {ps : List Str} (F : Fun K x qual st f fd)
    (h : ∀ (kV doc pm : Value) (an : Option Addr) (cdv ct : Value) (us : List Value), us.length = ps.length → bindArgs (PySem.W.fnOf x qual (defArgs st) (defBody st) (defScope st) .none kV doc pm an cdv ct) ⟨us, []⟩ = pure (ps.zip us)) : Binds K fd ps [] := by
  obtain ⟨oc, od, kV, doc, pm, an, cdv, ct, osl, rfl, lk, hcd⟩ := F.ex
  exact .all (h kV doc pm an cdv ct)
theorem fun_mk {x qual : Str} {st : Stmt} {f : Addr} {oc : Value} {od an : Option Addr} {osl : Array (Option Value)} {kV doc pm cdv ct : Value} (l : K.lookup f = some ⟨oc, od, .func (PySem.W.fnOf x qual (defArgs st) (defBody st) (defScope st) .none kV doc pm an cdv ct), osl⟩)
    (c : PySem.W.codeIn K cdv qual = true) (k : PySem.W.keepIn K (.ref f) = true) : Fun K x qual st f (PySem.W.fnOf x qual (defArgs st) (defBody st) (defScope st) .none kV doc pm an cdv ct) := ⟨⟨oc, od, kV, doc, pm, an, cdv, ct, osl, rfl, l, c⟩, k⟩
end
theorem hu_of {A : Around} {k : Nat} (hr : Room k A) : A.units + 1 < cLine := Nat.lt_of_le_of_lt (Nat.add_le_add_left (by decide : 1 ≤ 64) _) hr.units
section
variable {X : Cx}
theorem pv (i : Nat) {x : Str} {pos : Pos} (hN : X.N[i]? = some x := by rfl) (hv : Vis X.env.scope x := by first | exact Or.inl rfl | exact Or.inr (Or.inl rfl) | exact Or.inr (Or.inr rfl)) (hd : (x == ("__debug__" : Str)) = false := by decide)
    (hcd : (x == ("__classdict__" : Str)) = false := by decide) : PE X (.Name x pos) (tVar i) := pe_var hN hv hd hcd
end
theorem iteF {A B : Prop} (h : B) : if false = true then A else B := by
  rw [if_neg Bool.false_ne_true]
  exact h
theorem iteT {A B : Prop} (h : A) : if true = true then A else B := by
  rw [if_pos rfl]
  exact h
theorem ite2 {c A B : Prop} [Decidable c] (h1 : c → A) (h2 : ¬ c → B) : if c then A else B := by
  by_cases h : c
  · rw [if_pos h]
    exact h1 h
  · rw [if_neg h]
    exact h2 h
def Same (H H' : Hp) : Prop := ∀ b o, H b = some o → H' b = some o
theorem Same.seq {K : PySem.W.Frag} {H H' : Hp} {a : Addr} {xs : List V} (e : Same H H') (h : SqL K H a xs) : SqL K H' a xs := by
  rcases h with (h | ⟨o, h⟩) | h
  · exact .inl (.inl (e _ _ h))
  · exact .inl (.inr ⟨o, e _ _ h⟩)
  · exact .inr h
end L2
set_option Elab.async false
set_option linter.all false
set_option maxRecDepth 100000
namespace L2
open PySem PySem.Spec PyProof.Rows
section
variable {κ : Type} [DecidableEq κ]
def valV (kvs : List (κ × V)) (k : κ) : Option V := (kvs.find? fun kv => decide (kv.1 = k)).map (·.2)
def putK (kvs : List (κ × V)) (k : κ) (v : V) : List (κ × V) :=
  if (kvs.any fun kv => decide (kv.1 = k)) = true then kvs.map (fun kv => if kv.1 = k then (kv.1, v) else kv) else kvs ++ [(k, v)]
theorem valV_pos {p : κ × V} {r : List (κ × V)} {k : κ} (e : p.1 = k) : valV (p :: r) k = some p.2 := by simp [valV, List.find?_cons, e]
theorem valV_neg {p : κ × V} {r : List (κ × V)} {k : κ} (e : ¬ p.1 = k) : valV (p :: r) k = valV r k := by simp [valV, List.find?_cons, e]
theorem valV_any (k : κ) : ∀ kvs : List (κ × V), (kvs.any fun kv => decide (kv.1 = k)) = (valV kvs k).isSome
  | [] => rfl
  | p :: r => by
    rw [List.any_cons]
    by_cases e : p.1 = k
    · simp only [valV_pos e, decide_eq_true e, Bool.true_or, Option.isSome_some]
    · rw [valV_neg e, decide_eq_false e, Bool.false_or]; exact valV_any k r
theorem length_putK (kvs : List (κ × V)) (k : κ) (v : V) : (putK kvs k v).length ≤ kvs.length + 1 := by
  unfold putK
  split
  · rw [List.length_map]; omega
  · rw [List.length_append, List.length_cons, List.length_nil]; omega
theorem RelO.isSome_eq {o : Option V} {u : Option Value} (r : RelO o u) : o.isSome = u.isSome := by
  cases o with
  | none => cases u with
    | none => rfl
    | some _ => exact (show False from r).elim
  | some _ => cases u with
    | none => exact (show False from r).elim
    | some _ => rfl
theorem RelO.getD {o : Option V} {u : Option Value} {d : V} {d' : Value} (r : RelO o u) (rd : RelV d d') : RelV (o.getD d) (u.getD d') := by
  cases o with
  | none => cases u with
    | none => exact rd
    | some _ => exact (show False from r).elim
  | some _ => cases u with
    | none => exact (show False from r).elim
    | some _ => exact r
theorem KV.val {kvs : List (κ × V)} {vs : List (κ × Value)} (r : KV kvs vs) (k : κ) : RelO (valV kvs k) (valueAt vs k) := by
  unfold KV at r
  induction r with
  | nil => exact True.intro
  | @cons p q ps qs h t ih =>
    obtain ⟨h1, h2⟩ := h
    by_cases e : p.1 = k
    · have e' : q.1 = k := h1.symm.trans e
      have b : valueAt (q :: qs) k = some q.2 := by simp [valueAt, List.find?_cons, e']
      rw [valV_pos e, b]; exact h2
    · have e' : ¬ q.1 = k := fun z => e (h1.trans z)
      have b : valueAt (q :: qs) k = valueAt qs k := by simp [valueAt, List.find?_cons, e']
      rw [valV_neg e, b]; exact ih
theorem KV.any {kvs : List (κ × V)} {vs : List (κ × Value)} (r : KV kvs vs) (k : κ) : (kvs.any fun kv => decide (kv.1 = k)) = vs.any fun kv => decide (kv.1 = k) := by
  unfold KV at r
  induction r with
  | nil => rfl
  | cons h t ih => rw [List.any_cons, List.any_cons, ih, h.1]
theorem KV.repl {kvs : List (κ × V)} {vs : List (κ × Value)} (r : KV kvs vs) (k : κ) {y : V} {u : Value} (ry : RelV y u) :
    KV (kvs.map fun kv => if kv.1 = k then (kv.1, y) else kv) (vs.map fun kv => if kv.1 = k then (kv.1, u) else kv) := by
  unfold KV at r ⊢
  induction r with
  | nil => exact .nil
  | @cons p q ps qs h t ih =>
    rw [List.map_cons, List.map_cons]
    refine .cons ?_ ih
    obtain ⟨h1, h2⟩ := h
    by_cases e : p.1 = k
    · rw [if_pos e, if_pos (h1.symm.trans e)]; exact ⟨h1, ry⟩
    · rw [if_neg e, if_neg (fun z => e (h1.trans z))]; exact ⟨h1, h2⟩
theorem KV.put {kvs : List (κ × V)} {vs : List (κ × Value)} (r : KV kvs vs) (k : κ) {y : V} {u : Value} (ry : RelV y u) : KV (putK kvs k y) (stored vs k u) := by
  unfold putK stored
  rw [r.any k]
  by_cases e : (vs.any fun kv => decide (kv.1 = k)) = true
  · rw [if_pos e, if_pos e]; exact r.repl k ry
  · rw [if_neg e, if_neg e]; exact Paired.snoc r ⟨rfl, ry⟩
theorem KV.length {kvs : List (κ × V)} {vs : List (κ × Value)} (r : KV kvs vs) : kvs.length = vs.length := Paired.length r
end
theorem kV_is {P : Program} {w : World} {k : Key} {u : Value} (r : RelV (kV k) u) : (mixKind P w).is k u = true := by
  cases k with
  | inl i => obtain ⟨t, e⟩ := (show ∃ t, u = Value.int i t from r); subst e; exact mixKind_int P w i t
  | inr x => obtain ⟨t, e⟩ := (show ∃ t, u = Value.str x t from r); subst e; exact mixKind_str P w x t
theorem items_are {P : Program} {w : World} : ∀ {ks : List Key} {us : List Value}, Vals (ks.map kV) us → ItemsAre (mixKind P w) ks us
  | [], _, r => by rw [List.map_nil] at r; cases r; exact .nil
  | k :: ks, _, r => by
    rw [List.map_cons] at r
    cases r with
    | cons h t => exact .cons (kV_is h) (items_are t)
abbrev KT (H : Hp) : List (List Key × V) → List (List Key × Addr × Value) → Prop := Paired fun p q => p.1 = q.1 ∧ H q.2.1 = some (.tup (p.1.map kV)) ∧ RelV p.2 q.2.2
theorem KT.val {H : Hp} {kvs : List (List Key × V)} {xs : List (List Key × Addr × Value)} (r : KT H kvs xs) (k : List Key) : RelO (valV kvs k) ((atKey xs k).map (·.2)) := by
  induction r with
  | nil => exact True.intro
  | @cons p q ps qs h t ih =>
    obtain ⟨h1, _, h2⟩ := h
    by_cases e : p.1 = k
    · have e' : q.1 = k := h1.symm.trans e
      have b : atKey (q :: qs) k = some q.2 := by simp [atKey, List.find?_cons, e']
      rw [valV_pos e, b]; exact h2
    · have e' : ¬ q.1 = k := fun z => e (h1.trans z)
      have b : atKey (q :: qs) k = atKey qs k := by simp [atKey, List.find?_cons, e']
      rw [valV_neg e, b]; exact ih
theorem KT.repl {H : Hp} {kvs : List (List Key × V)} {xs : List (List Key × Addr × Value)} (r : KT H kvs xs) (k : List Key) {y : V} {u : Value} (ry : RelV y u) :
    KT H (kvs.map fun kv => if kv.1 = k then (kv.1, y) else kv) (xs.map (putAt k u)) := by
  induction r with
  | nil => exact .nil
  | @cons p q ps qs h t ih =>
    rw [List.map_cons, List.map_cons]
    refine .cons ?_ ih
    obtain ⟨h1, h2, h3⟩ := h
    unfold putAt
    by_cases e : p.1 = k
    · rw [if_pos e, if_pos (h1.symm.trans e)]; exact ⟨h1, h2, ry⟩
    · rw [if_neg e, if_neg (fun z => e (h1.trans z))]; exact ⟨h1, h2, h3⟩
theorem KT.put {H : Hp} {kvs : List (List Key × V)} {xs : List (List Key × Addr × Value)} (r : KT H kvs xs) (k : List Key) {b : Addr} {y : V} {u : Value} (hb : H b = some (.tup (k.map kV))) (ry : RelV y u) :
    KT H (putK kvs k y) (storedH xs k b u) := by
  have e : (kvs.any fun kv => decide (kv.1 = k)) = (atKey xs k).isSome := by
    rw [valV_any, (r.val k).isSome_eq, Option.isSome_map]
  unfold putK storedH
  rw [e]
  by_cases q : (atKey xs k).isSome = true
  · rw [if_pos q, if_pos q]; exact r.repl k ry
  · rw [if_neg q, if_neg q]; exact Paired.snoc r ⟨rfl, hb, ry⟩
theorem KT.keeps {H H' : Hp} {kvs : List (List Key × V)} {xs : List (List Key × Addr × Value)} (r : KT H kvs xs) (ht : ∀ b ys, H b = some (.tup ys) → H' b = some (.tup ys)) : KT H' kvs xs :=
  Paired.mapP r fun _ _ z => ⟨z.1, ht _ _ z.2.1, z.2.2⟩
section
variable {P : Program} {w : World} {H : Hp} {h : Heap} {a : Addr}
theorem rd_of {u : HO} (ok : HOk P w H h) (e : Rd H a u) : ObjOk P w H h a u := e.ok ok
theorem dk_rd {kvs : List (Key × V)} (ok : HOk P w H h) (e : Rd H a (.dK kvs)) : kvs.length ≤ sizeLine ∧ (a == sysModules) = false ∧ ∃ vs, KV kvs vs ∧ h.DictOf (mixKind P w) a vs :=
  show ObjOk P w H h a (.dK kvs) from rd_of ok e
theorem dk_of {kvs : List (Key × V)} (ok : HOk P w H h) (e : H a = some (.dK kvs)) : kvs.length ≤ sizeLine ∧ (a == sysModules) = false ∧ ∃ vs, KV kvs vs ∧ h.DictOf (mixKind P w) a vs := dk_rd ok (.inl e)
theorem key_of {ks : List Key} (ok : HOk P w H h) (e : H a = some (.tup (ks.map kV))) : (tupleKind (mixKind P w)).is h ks a := by
  obtain ⟨_, its, r, o, h1, h2, n, h3⟩ := (show ObjOk P w H h a (.tup (ks.map kV)) from ok a _ e)
  exact ⟨o, its.toArray, n, h1, h2, h3, by simpa using items_are r⟩
theorem dt_rd {kvs : List (List Key × V)} (ok : HOk P w H h) (e : Rd H a (.dT kvs)) : kvs.length ≤ sizeLine ∧ (a == sysModules) = false ∧
    ∃ xs, KT H kvs xs ∧ h.DictOfH (tupleKind (mixKind P w)) a xs := by
  obtain ⟨z, y, xs, r, o, es, ep, h1, h2, h3, h4, h5⟩ := (show ObjOk P w H h a (.dT kvs) from rd_of ok e)
  refine ⟨z, y, xs, r, o, es, ep, h1, h2, h3, h4, fun x hx => ?_, h5⟩
  have all : ∀ {l : List (List Key × V)} {m : List (List Key × Addr × Value)}, KT H l m → ∀ x ∈ m, (tupleKind (mixKind P w)).is h x.1 x.2.1 := by
    intro l m q
    induction q with
    | nil => intro x hx; exact nomatch hx
    | @cons p q ps qs hq t ih =>
      intro x hx
      rcases List.mem_cons.mp hx with e | hx
      · subst e
        exact key_of ok (by rw [← hq.1]; exact hq.2.1)
      · exact ih x hx
  exact all r x hx
theorem dt_of {kvs : List (List Key × V)} (ok : HOk P w H h) (e : H a = some (.dT kvs)) : kvs.length ≤ sizeLine ∧ (a == sysModules) = false ∧
    ∃ xs, KT H kvs xs ∧ h.DictOfH (tupleKind (mixKind P w)) a xs := dt_rd ok (.inl e)
end
def DGet (H : Hp) (a : Addr) (y : V) (r : Option V) : Prop :=
  (∃ kvs k, Rd H a (.dK kvs) ∧ y = kV k ∧ r = valV kvs k) ∨ ∃ kvs k b, Rd H a (.dT kvs) ∧ y = .ref b ∧ H b = some (.tup (k.map kV)) ∧ r = valV kvs k
def DPut (H : Hp) (a : Addr) (y v : V) (H' : Hp) : Prop :=
  (∃ kvs k, H a = some (.dK kvs) ∧ y = kV k ∧ kvs.length < sizeLine ∧ H' = upd H a (.dK (putK kvs k v))) ∨
  ∃ kvs k b, H a = some (.dT kvs) ∧ y = .ref b ∧ H b = some (.tup (k.map kV)) ∧ kvs.length < sizeLine ∧ H' = upd H a (.dT (putK kvs k v))
theorem DGet.k {H : Hp} {a : Addr} {kvs : List (Key × V)} {k : Key} (e : H a = some (.dK kvs)) : DGet H a (kV k) (valV kvs k) := .inl ⟨kvs, k, .inl e, rfl, rfl⟩
theorem DPut.k {H : Hp} {a : Addr} {kvs : List (Key × V)} {k : Key} {v : V} (e : H a = some (.dK kvs)) (hl : kvs.length < sizeLine) : DPut H a (kV k) v (upd H a (.dK (putK kvs k v))) := .inl ⟨kvs, k, e, rfl, hl, rfl⟩
section
variable {X : Cx} {pins : List (Addr × Obj)} {σ : St} {H : Hp} {s : Shared} {a : Addr} {y v : V} {u r : Value} {o : Option V} {A : Around} {E : Value → Shared → Prop}
theorem Inv.big (I : Inv X pins σ H s) : sysModules < s.heap.objs.size := by
  have h : mainGlobals < s.heap.objs.size := (I.mod.glob.keeps I.bk).lt
  exact Nat.lt_trans (by decide) h
theorem d_getItem {Q : Value → Shared → Prop} (hu : A.units + 1 < cLine) (I : Inv X pins σ H s) (g : DGet H a y (some v)) (ry : RelV y u) (h : ∀ w' s', Inv X pins σ H s' → RelV v w' → Q w' s') :
    wpAny (model X.prog X.w) A (getItem (.ref a) u) Q E s := by
  rcases g with ⟨kvs, k, e, ey, l⟩ | ⟨kvs, k, b, e, ey, eb, l⟩
  · subst ey
    obtain ⟨z, hd, vs, rel, dd⟩ := dk_rd I.hok e
    obtain ⟨w', hw, rw'⟩ := RelO.some_of (v := v) (o := valueAt vs k) (by rw [l]; exact rel.val k)
    exact wpAny_getItem_of (kV_is ry) dd.mapOf hw (h w' _ (I.tok _) rw')
  · subst ey
    cases (show u = Value.ref b from ry)
    obtain ⟨z, hd, xs, rel, dd⟩ := dt_rd I.hok e
    obtain ⟨w', hw, rw'⟩ := RelO.some_of (v := v) (o := (atKey xs k).map (·.2)) (by rw [l]; exact rel.val k)
    obtain ⟨p, hp, hp2⟩ := Option.map_eq_some_iff.mp hw
    refine wpAny_getItem_heap (tupleKind_room_in1 hu) (key_of I.hok eb) dd hp ?_
    rw [hp2]
    exact h w' _ (I.tok _) rw'
theorem d_notIn {Q : Value → Shared → Prop} (hu : A.units + 1 < cLine) (I : Inv X pins σ H s) (g : DGet H a y o) (ry : RelV y u) (h : ∀ s', Inv X pins σ H s' → Q (.bool (!o.isSome)) s') :
    wpAny (model X.prog X.w) A (compareOp .NotIn u (.ref a)) Q E s := by
  rcases g with ⟨kvs, k, e, ey, l⟩ | ⟨kvs, k, b, e, ey, eb, l⟩
  · subst ey
    obtain ⟨z, hd, vs, rel, dd⟩ := dk_rd I.hok e
    refine wpAny_notIn_of (kV_is ry) hd dd.mapOf ?_
    rw [← (rel.val k).isSome_eq, ← l]
    exact h _ (I.tok _)
  · subst ey
    cases (show u = Value.ref b from ry)
    obtain ⟨z, hd, xs, rel, dd⟩ := dt_rd I.hok e
    refine wpAny_notIn_heap (tupleKind_room_in1 hu) (key_of I.hok eb) hd dd ?_
    have q := (rel.val k).isSome_eq
    rw [Option.isSome_map] at q
    rw [← q, ← l]
    exact h _ (I.tok _)
theorem d_write {h' : Heap} {t' : Nat} {ob : HO} (I : Inv X pins σ H s) (mu : Mut (H a)) (hs : Heap.SameBut a s.heap h') (he : ∃ q, h'.get? a = some q) (new : ObjOk X.prog X.w (upd H a ob) h' a ob) :
    Inv X pins σ (upd H a ob) { s with heap := h', toks := t' } :=
  I.write (x := a) (e := a) mu (.inl rfl) (fun b q hb z => (hs.2 b hb).trans z) he new
theorem dk_new {P : Program} {w : World} {H' : Hp} {h' : Heap} {kvs : List (Key × V)} {vs : List (Key × Value)} (z : kvs.length ≤ sizeLine) (hd : (a == sysModules) = false) (rel : KV kvs vs) (dd : h'.DictOf (mixKind P w) a vs) :
    ObjOk P w H' h' a (.dK kvs) := ⟨z, hd, vs, rel, dd⟩
theorem d_setItem {H' : Hp} {Q : Unit → Shared → Prop} (hu : A.units + 1 < cLine) (I : Inv X pins σ H s) (g : DPut H a y v H') (ry : RelV y u) (rv : RelV v r) (h : ∀ s', Inv X pins σ H' s' → Q () s') :
    wpAny (model X.prog X.w) A (setItem (.ref a) u r) Q E s := by
  rcases g with ⟨kvs, k, e, ey, l, eH⟩ | ⟨kvs, k, b, e, ey, eb, l, eH⟩
  · subst ey eH
    obtain ⟨z, hd, vs, rel, dd⟩ := dk_of I.hok e
    have hz : vs.length ≤ sizeLine := by rw [← rel.length]; exact z
    have hl : (putK kvs k v).length ≤ sizeLine := by have := length_putK kvs k v; omega
    refine wpAny_setItem_pairs (hsz := hz) (kV_is ry) dd fun h' dd' hs => h _ ?_
    have he : ∃ q, h'.get? a = some q := let ⟨q, _, _, hq, _⟩ := dd'; ⟨q, hq⟩
    exact d_write I (by rw [e]; exact True.intro) hs he (dk_new hl hd (rel.put k rv) dd')
  · subst ey eH
    cases (show u = Value.ref b from ry)
    obtain ⟨z, hd, xs, rel, dd⟩ := dt_of I.hok e
    have hz : xs.length ≤ sizeLine := by rw [← Paired.length rel]; exact z
    have hl : (putK kvs k v).length ≤ sizeLine := by have := length_putK kvs k v; omega
    refine wpAny_setItem_heap (hsz := hz) (tupleKind_room_in1 hu) (key_of I.hok eb) dd fun h' dd' hs => h _ ?_
    obtain ⟨q, es, ep, hq, h2, h3, h4, _, h5⟩ := dd'
    refine d_write I (by rw [e]; exact True.intro) hs ⟨q, hq⟩ ⟨hl, hd, _, (rel.put k eb rv).keeps fun c ys ec => ?_, q, es, ep, hq, h2, h3, h4, h5⟩
    rw [upd_ne (ne_of ec e (fun z => nomatch z))]
    exact ec
end
section
variable {X : Cx} {pins : List (Addr × Obj)} {σ : St} {H : Hp} {s : Shared} {a : Addr} {kvs : List (Key × V)} {k : Key} {u : Value} {A : Around} {E : Value → Shared → Prop}
theorem d_len {Q : Value → Shared → Prop} (I : Inv X pins σ H s) (e : Rd H a (.dK kvs)) (h : ∀ t s', Inv X pins σ H s' → Q (.int kvs.length t) s') : wpAny (model X.prog X.w) A (call (.builtin "len") [.ref a]) Q E s := by
  obtain ⟨z, hd, vs, rel, dd⟩ := dk_rd I.hok e
  refine call_len_dict hd dd (by rw [← rel.length]; rw [sizeLine_eq] at z; omega) ?_
  rw [← rel.length]
  exact h _ _ (I.tok _)
end
def NoSl (i : Expr) : Prop := ∀ ov iv, subscripted i false ov iv = operate [ov, iv] (getItem ov iv)
theorem subD_of {prog : Program} {w : World} {A : Around} {E : Value → Shared → Prop} {s : Shared} {env : Env} {value slice : Expr} {pos : Pos} {T id : String} {Q : Value → Shared → Prop}
    (hl : typeLookup (.type T) "__getitem__" = pure (some (.builtin id))) (hs : NoSl slice)
    (h : wpAny (model prog w) A (eval value env) (fun o s₁ => wpAny (model prog w) A (eval slice env) (fun i s₂ => s₂.TypeIs o T ∧ wpAny (model prog w) A (getItem o i) Q E s₂) E s₁) E s) :
    wpAny (model prog w) A (eval (.Subscript value slice pos) env) Q E s := by
  refine Subscript_ (wpAny_mono h (fun o s₁ h₁ => wpAny_mono h₁ (fun i s₂ h₂ => ?_) fun _ _ x => x) fun _ _ x => x)
  obtain ⟨hT, h₂⟩ := h₂
  unfold subscriptTail
  refine wpAny_bind ?_
  rw [getitemInPython_of_ne hT.not_modules]
  refine wpAny_bind (wpAny_specialOf hT hl ?_)
  have fin : wpAny (model prog w) A (subscripted slice false o i) (fun r s₃ => wpAny (model prog w) A (letTemporaryGo value o r >>= fun _ => pure r) Q E s₃) E s₂ := by
    rw [hs o i]
    exact wpAny_operating (wpAny_mono h₂ (fun r s₃ h₃ => wpAny_bind (wpAny_letTemporaryGo (wpAny_pure h₃))) fun _ _ x => x)
  first
    | exact wpAny_pure (wpAny_bind fin)
    | exact wpAny_bind (wpAny_pure (wpAny_bind fin))
    | exact wpAny_bind fin
theorem dict_typeIs {X : Cx} {pins : List (Addr × Obj)} {σ : St} {H : Hp} {s : Shared} {a : Addr} {y : V} {o : Option V} (I : Inv X pins σ H s) (g : DGet H a y o) : s.TypeIs (.ref a) "dict" := by
  rcases g with ⟨kvs, k, e, _, _⟩ | ⟨kvs, k, b, e, _, _, _⟩
  · obtain ⟨_, _, vs, _, dd⟩ := dk_rd I.hok e
    exact dd.typeIs
  · obtain ⟨_, _, xs, _, dd⟩ := dt_rd I.hok e
    exact dd.typeIs
def tDGet (td ty : TE) : TE := fun σ H Q => td σ H fun x H1 => ty σ H1 fun y H2 => ∃ a v, x = .ref a ∧ DGet H2 a y (some v) ∧ Q v H2
def tDNotIn (ty td : TE) : TE := fun σ H Q => ty σ H fun y H1 => td σ H1 fun x H2 => ∃ a o, x = .ref a ∧ DGet H2 a y o ∧ Q (.bl (!o.isSome)) H2
def sDPut (td ty tv : TE) : TS := fun D σ H => tv σ H fun v H1 => td σ H1 fun x H2 => ty σ H2 fun y H3 => ∃ a H4, x = .ref a ∧ DPut H3 a y v H4 ∧ D.nx σ H4
section
variable {X : Cx} {o i e value : Expr} {pos pos' tpos : Pos} {td ty tv : TE}
theorem pe_dget (hu : X.A.units + 1 < cLine) (ho : PE X o td) (hi : PE X i ty) (hs : NoSl i) : PE X (.Subscript o i pos) (tDGet td ty) := by
  intro pins s σ H Q I h
  refine subD_of PySem.F.slot_dict_getitem.lookup hs (thn (ho pins s σ H _ I h) fun u s1 ⟨x, H1, I1, rx, q1⟩ => thn (hi pins s1 σ H1 _ I1 q1) fun iv s2 ⟨y, H2, I2, ry, a, v, ex, g, q2⟩ => ?_)
  subst ex
  obtain rfl : u = Value.ref a := rx
  exact ⟨dict_typeIs I2 g, d_getItem hu I2 g ry fun w' s3 I3 rw' => ⟨v, H2, I3, rw', q2⟩⟩
theorem pc_dnotin (hu : X.A.units + 1 < cLine) (hi : PE X i ty) (ho : PE X o td) : PC X .NotIn i o (tDNotIn ty td) := by
  intro pins s σ H Q I h
  refine thn (hi pins s σ H _ I h) fun iv s1 ⟨y, H1, I1, ry, q1⟩ => thn (ho pins s1 σ H1 _ I1 q1) fun u s2 ⟨x, H2, I2, rx, a, ov, ex, g, q2⟩ => ?_
  subst ex
  obtain rfl : u = Value.ref a := rx
  exact d_notIn hu I2 g ry fun s3 I3 => ⟨.bl (!ov.isSome), H2, I3, rfl, q2⟩
theorem ps_dput (hu : X.A.units + 1 < cLine) (ho : PE X o td) (hi : PE X i ty) (hv : PE X value tv) (hs : swapsWith value (some (.Subscript o i pos')) pos.line X.env = pure false) :
    PS X (.Assign [.Subscript o i pos'] value pos) (sDPut td ty tv) := by
  intro pins s σ H D I h
  refine wpAny_Assign_Subscript (thn (hv pins s σ H _ I h) fun r s1 ⟨v, H1, I1, rv, q1⟩ => thn (ho pins s1 σ H1 _ I1 q1) fun u s2 ⟨x, H2, I2, rx, q2⟩ => thn (hi pins s2 σ H2 _ I2 q2) fun iv s3 ⟨y, H3, I3, ry, a, H4, ex, g, q3⟩ => ?_) hs
  subst ex
  obtain rfl : u = Value.ref a := rx
  exact d_setItem hu I3 g ry rv fun s4 I4 => ⟨σ, H4, I4, q3⟩
end
theorem dk_empty {P : Program} {w : World} {H : Hp} (h : Heap) (hb : sysModules < h.objs.size) : ObjOk P w H (h.push { cls := .type "dict", data := .dict #[] }) h.objs.size (.dK []) :=
  ⟨Nat.zero_le _, beq_eq_false_iff_ne.mpr (Ne.symm (Nat.ne_of_lt hb)), [], .nil, Heap.DictOf.new h⟩
def tDNewK : TE := fun _ H Q => ∀ p, H p = none → Q (.ref p) (upd H p (.dK []))
section
variable {X : Cx} {pos : Pos}
theorem pe_dnewK : PE X (.Dict [] [] pos) tDNewK := fun pins s σ H Q I h =>
  wpAny_Dict_empty ⟨.ref s.heap.objs.size, _, I.laid (a := s.heap.objs.size) (o := .dK []) (t' := s.toks) (fun _ _ q => Heap.get?_push_of_some _ q) (Nat.le_refl _) (dk_empty s.heap I.big), rfl, h _ (I.hok.fresh (Nat.le_refl _))⟩
end
structure M2 (X : Cx) (o : Expr) (m : Str) (apos : Pos) (e f : Expr) (cpos : Pos) : Prop where
  base : attributeBase o m X.env (eval o X.env) = eval o X.env
  few : ((backTo cpos (starEach [e, f] X.env)).all (fun x => !x.1) && (backToKw cpos (keywordEach [] X.env)).all (fun x => x.1.isSome)
    && decide (([e, f] : List Expr).length + ([] : List Keyword).length + (if ([] : List Keyword).isEmpty then 0 else 1) < 30)) = true
  line : (apos.endLine == cpos.line) = true
  trees : backTo cpos (starEach [e, f] X.env) = [(false, eval e X.env), (false, eval f X.env)]
def IsD (H : Hp) (a : Addr) : Prop := (∃ kvs, Rd H a (.dK kvs)) ∨ ∃ kvs, Rd H a (.dT kvs)
theorem isD_at {X : Cx} {pins : List (Addr × Obj)} {σ : St} {H : Hp} {s : Shared} {a : Addr} (I : Inv X pins σ H s) (d : IsD H a) :
    s.TypeIs (.ref a) "dict" ∧ (∀ b, Value.ref a = .ref b → ∃ ob, s.heap.get? b = some ob ∧ ob.dict = none) ∧ (a == sysModules) = false := by
  rcases d with ⟨kvs, e⟩ | ⟨kvs, e⟩
  · obtain ⟨_, hd, vs, _, dd⟩ := dk_rd I.hok e
    refine ⟨dd.typeIs, fun b q => ?_, hd⟩
    cases q
    obtain ⟨ob, _, _, h1, h2, _⟩ := dd
    exact ⟨ob, h1, h2.2.1⟩
  · obtain ⟨_, hd, xs, _, dd⟩ := dt_rd I.hok e
    refine ⟨dd.typeIs, fun b q => ?_, hd⟩
    cases q
    obtain ⟨ob, _, _, h1, h2, _⟩ := dd
    exact ⟨ob, h1, h2.2.1⟩
section
variable {X : Cx} {pins : List (Addr × Obj)} {σ : St} {H : Hp} {s : Shared} {a : Addr} {y d : V} {u r : Value} {o : Option V} {A : Around} {E : Value → Shared → Prop}
theorem d_get2 {Q : Value → Shared → Prop} (hu : A.units + 1 < cLine) (I : Inv X pins σ H s) (g : DGet H a y o) (ry : RelV y u) (rd : RelV d r) (h : ∀ w' s', Inv X pins σ H s' → RelV (o.getD d) w' → Q w' s') :
    wpAny (model X.prog X.w) A (call (.builtin "dict.get") [.ref a, u, r]) Q E s := by
  rcases g with ⟨kvs, k, e, ey, l⟩ | ⟨kvs, k, b, e, ey, eb, l⟩
  · subst ey
    obtain ⟨z, hd, vs, rel, dd⟩ := dk_rd I.hok e
    refine call_meetsIn PySem.F.slot_dict_get dd.typeIs PySem.F.entry_dict_get (PySem.F.args_dict_get_3 _ _ _) (meets_dict_get_default (mixKind X.prog X.w) a (kV_is ry) hd r) ⟨_, dd.mapOf, h _ _ (I.tok _) ?_⟩
    rw [l]
    exact (rel.val k).getD rd
  · subst ey
    cases (show u = Value.ref b from ry)
    obtain ⟨z, hd, xs, rel, dd⟩ := dt_rd I.hok e
    refine call_meetsIn PySem.F.slot_dict_get dd.typeIs PySem.F.entry_dict_get (PySem.F.args_dict_get_3 _ _ _) (meetsH_dict_get_default (tupleKind (mixKind X.prog X.w)) a b hd r) ⟨tupleKind_room_in1 hu, k, xs, key_of I.hok eb, dd, h _ _ (I.tok _) ?_⟩
    rw [l]
    exact (rel.val k).getD rd
end
def tDGet2 (td ty tx : TE) : TE := fun σ H Q => td σ H fun x H1 => ∃ a, x = .ref a ∧ IsD H1 a ∧ ty σ H1 fun y H2 => tx σ H2 fun z H3 => ∃ o, DGet H3 a y o ∧ Q (o.getD z) H3
section
variable {X : Cx} {o e f : Expr} {apos cpos : Pos} {td ty tx : TE}
theorem pe_dget2 (hu : X.A.units + 1 < cLine) (ho : PE X o td) (he : PE X e ty) (hf : PE X f tx) (m : M2 X o "get" apos e f cpos) : PE X (.Call (.Attribute o "get" apos) [e, f] [] cpos) (tDGet2 td ty tx) := by
  intro pins s σ H Q I h
  refine wpAny_Call_method m.base m.few m.line PySem.F.plainAttrs_dict PySem.F.slot_dict_get PySem.F.type_dict_get (thn (ho pins s σ H _ I h) fun u s1 ⟨x, H1, I1, rx, a, ex, d, q1⟩ => ?_)
  subst ex
  obtain rfl : u = Value.ref a := rx
  obtain ⟨t1, t2, _⟩ := isD_at I1 d
  refine ⟨t1, t2, ?_⟩
  rw [m.trees]
  refine Calls.callWith_builtin rfl (Calls.evalArgs_plain (Calls.spliced_cons (thn (he pins s1 σ H1 _ I1 q1) fun iv s2 ⟨y, H2, I2, ry, q2⟩ =>
    Calls.spliced_cons (thn (hf pins s2 σ H2 _ I2 q2) fun fv s3 ⟨z, H3, I3, rz, ov, g, q3⟩ => Calls.spliced_nil ?_))))
  exact d_get2 hu I3 g ry rz fun w' s4 I4 rw' => ⟨_, H3, I4, rw', q3⟩
end
section
variable {X : Cx} {pins : List (Addr × Obj)} {σ : St} {H : Hp} {s : Shared} {a : Addr} {kvs : List (Key × V)} {A : Around} {E : Value → Shared → Prop}
theorem d_copyOf {Q : Value → Shared → Prop} (I : Inv X pins σ H s) (e : Rd H a (.dK kvs)) (h : ∀ p s', H p = none → Inv X pins σ (upd H p (.dK kvs)) s' → Q (.ref p) s') : wpAny (model X.prog X.w) A (call (.type "dict") [.ref a]) Q E s := by
  obtain ⟨z, hd, vs, rel, dd⟩ := dk_rd I.hok e
  refine kt_call_dict hd dd (by rw [← rel.length]; exact z) fun h' dd' hs => ?_
  refine h _ _ (I.hok.fresh (Nat.le_refl _)) (I.laid (a := s.heap.objs.size) (o := .dK kvs) (t' := s.toks) (fun b q hq => ?_) (Nat.le_refl _) (dk_new z (beq_eq_false_iff_ne.mpr (Ne.symm (Nat.ne_of_lt I.big))) rel dd'))
  exact (hs.2 b (Nat.ne_of_lt (Heap.lt_size hq))).trans (Heap.get?_push_of_some _ hq)
end
section
variable {X : Cx} {pins : List (Addr × Obj)} {σ : St} {H : Hp} {s : Shared} {a : Addr} {y : V} {u : Value} {A : Around} {E : Value → Shared → Prop}
end
end L2
namespace L2
open PySem PySem.Spec PyProof.Rows
section
variable {X : Cx}
theorem call_lenD : CallR X (.builtin "len") (fun xs H Q => ∃ a kvs, xs = [V.ref a] ∧ H a = some (.dK kvs) ∧ Q (.int kvs.length) H) := by
  intro pins s σ H xs us Q I r h
  obtain ⟨a, kvs, rfl, ha, q⟩ := h
  obtain ⟨u, rfl, ru⟩ := vals1 r
  cases ru
  exact d_len I (.inl ha) fun t s' I' => ⟨.int kvs.length, H, I', ⟨t, rfl⟩, q⟩
end
section
variable {κ : Type} [DecidableEq κ]
end
end L2
set_option Elab.async false
set_option linter.all false
set_option maxRecDepth 100000
set_option maxHeartbeats 4000000
namespace L2
open PySem PySem.Spec PyProof.Rows
def clOf (env : Env) : List (Str × NameKind) → List (Str × Addr) → List (Str × Addr)
  | [], cs => cs
  | (n, k) :: r, cs => if (k == NameKind.free) = true then (match env.cells.lookup n with | some c => clOf env r ((n, c) :: cs) | none => clOf env r cs) else clOf env r cs
theorem closure_list {env : Env} : ∀ (l : List (Str × NameKind)) (cs : List (Str × Addr)), (∀ x ∈ l, x.2 = .free → ∃ c, env.cells.lookup x.1 = some c) →
    (forIn l cs (fun (x : Str × NameKind) (cs : List (Str × Addr)) => match x with
      | (name, kind) => if (kind == NameKind.free) = true then (do let c ← cellOf env name; pure (ForInStep.yield ((name, c) :: cs))) else pure (ForInStep.yield cs)) : Sem (List (Str × Addr))) = pure (clOf env l cs)
  | [], _, _ => rfl
  | (n, k) :: r, cs, h => by
    rw [List.forIn_cons]
    have hr : ∀ x ∈ r, x.2 = .free → ∃ c, env.cells.lookup x.1 = some c := fun x hx => h x (List.mem_cons_of_mem _ hx)
    by_cases hk : (k == NameKind.free) = true
    · obtain ⟨c, hc⟩ := h (n, k) List.mem_cons_self (by simpa using hk)
      have e1 : clOf env ((n, k) :: r) cs = clOf env r ((n, c) :: cs) := by
        show (if (k == NameKind.free) = true then _ else _) = _
        rw [if_pos hk]
        have hc : env.cells.lookup n = some c := hc
        rw [hc]
      have e2 : cellOf env n = pure c := by
        have hc : env.cells.lookup n = some c := hc
        unfold cellOf; rw [hc]
      rw [e1, ← closure_list r ((n, c) :: cs) hr]
      show (if (k == NameKind.free) = true then (do let c ← cellOf env n; pure (ForInStep.yield ((n, c) :: cs))) else pure (ForInStep.yield cs)) >>= _ = _
      rw [if_pos hk, e2, pure_bind, pure_bind]
    · have e1 : clOf env ((n, k) :: r) cs = clOf env r cs := by
        show (if (k == NameKind.free) = true then _ else _) = _
        rw [if_neg hk]
      rw [e1, ← closure_list r cs hr]
      show (if (k == NameKind.free) = true then (do let c ← cellOf env n; pure (ForInStep.yield ((n, c) :: cs))) else pure (ForInStep.yield cs)) >>= _ = _
      rw [if_neg hk, pure_bind]
theorem closureFor_of {scope : Scope} {env : Env} (h : ∀ x ∈ scope.names, x.2 = .free → ∃ c, env.cells.lookup x.1 = some c) : closureFor scope env = pure (clOf env scope.names []) := by
  unfold closureFor
  have e := closure_list (env := env) scope.names [] h
  first
    | exact e
    | (refine Eq.trans ?_ e; rfl)
    | (rw [bind_pure]; exact e)
    | simpa using e
theorem clOf_sub {env : Env} {x : Str} {c : Addr} : ∀ {l : List (Str × NameKind)} {cs : List (Str × Addr)}, (∀ y d, cs.lookup y = some d → env.cells.lookup y = some d) → (clOf env l cs).lookup x = some c → env.cells.lookup x = some c
  | [], cs, h, e => h x c e
  | (n, k) :: r, cs, h, e => by
    unfold clOf at e
    by_cases hk : (k == NameKind.free) = true
    · rw [if_pos hk] at e
      cases q : env.cells.lookup n with
      | none => rw [q] at e; exact clOf_sub h e
      | some d =>
        rw [q] at e
        refine clOf_sub (fun y z hy => ?_) e
        rw [List.lookup_cons] at hy
        cases hyn : y == n with
        | true =>
          rw [hyn] at hy
          have : y = n := by simpa using hyn
          subst this
          rw [q]; exact hy
        | false => rw [hyn] at hy; exact h y z hy
    · rw [if_neg hk] at e; exact clOf_sub h e
theorem clOf_keeps {env : Env} {x : Str} {c : Addr} (hx : env.cells.lookup x = some c) : ∀ {l : List (Str × NameKind)} {cs : List (Str × Addr)}, cs.lookup x = some c → (clOf env l cs).lookup x = some c
  | [], _, h => h
  | (n, k) :: r, cs, h => by
    unfold clOf
    by_cases hk : (k == NameKind.free) = true
    · rw [if_pos hk]
      cases q : env.cells.lookup n with
      | none => exact clOf_keeps hx h
      | some d =>
        refine clOf_keeps hx ?_
        rw [List.lookup_cons]
        cases hxn : x == n with
        | true =>
          have : x = n := by simpa using hxn
          subst this
          rw [← q, hx]
        | false => exact h
    · rw [if_neg hk]; exact clOf_keeps hx h
theorem clOf_has {env : Env} {x : Str} {c : Addr} (hx : env.cells.lookup x = some c) : ∀ {l : List (Str × NameKind)} {cs : List (Str × Addr)}, (x, NameKind.free) ∈ l → (clOf env l cs).lookup x = some c
  | [], _, h => nomatch h
  | (n, k) :: r, cs, h => by
    unfold clOf
    rcases List.mem_cons.mp h with e | h
    · cases e
      rw [if_pos (show (NameKind.free == NameKind.free) = true by decide), hx]
      exact clOf_keeps hx (by rw [List.lookup_cons]; simp)
    · by_cases hk : (k == NameKind.free) = true
      · rw [if_pos hk]
        cases q : env.cells.lookup n with
        | none => exact clOf_has hx h
        | some d => exact clOf_has hx h
      · rw [if_neg hk]; exact clOf_has hx h
theorem cellsFrom_out {x : Str} : ∀ {l : List (Str × NameKind)} {n : Nat} {acc : List (Str × Addr)}, (∀ y ∈ l, y.2 = .cell → y.1 ≠ x) → (cellsFrom n l acc).lookup x = acc.lookup x
  | [], _, _, _ => rfl
  | (y, k) :: r, n, acc, h => by
    have hr : ∀ z ∈ r, z.2 = .cell → z.1 ≠ x := fun z hz => h z (List.mem_cons_of_mem _ hz)
    unfold cellsFrom
    split
    · rename_i hk
      rw [cellsFrom_out hr, List.lookup_cons]
      have : (x == y) = false := by
        have := h (y, k) List.mem_cons_self (by simpa using hk)
        exact beq_eq_false_iff_ne.mpr (fun z => this z.symm)
      rw [this]
    · exact cellsFrom_out hr
theorem cellsFrom_or {x : Str} {c : Addr} : ∀ {l : List (Str × NameKind)} {n : Nat} {acc : List (Str × Addr)}, (cellsFrom n l acc).lookup x = some c → acc.lookup x = some c ∨ (n ≤ c ∧ (x, NameKind.cell) ∈ l)
  | [], _, _, h => .inl h
  | (y, k) :: r, n, acc, h => by
    unfold cellsFrom at h
    split at h
    · rename_i hk
      have hk' : k = .cell := by simpa using hk
      rcases cellsFrom_or h with z | ⟨z1, z2⟩
      · rw [List.lookup_cons] at z
        cases hx : x == y with
        | true =>
          rw [hx] at z
          have e : n = c := Option.some.inj z
          have e2 : x = y := by simpa using hx
          subst e2; subst hk'
          exact .inr ⟨Nat.le_of_eq e, List.mem_cons_self⟩
        | false => rw [hx] at z; exact .inl z
      · exact .inr ⟨Nat.le_trans (Nat.le_succ _) z1, List.mem_cons_of_mem _ z2⟩
    · rcases cellsFrom_or h with z | ⟨z1, z2⟩
      · exact .inl z
      · exact .inr ⟨z1, List.mem_cons_of_mem _ z2⟩
theorem cellsFrom_inj : ∀ {l : List (Str × NameKind)} {n : Nat} {acc : List (Str × Addr)}, (∀ x y c, acc.lookup x = some c → acc.lookup y = some c → x = y) → (∀ z d, acc.lookup z = some d → d < n) → ∀ x y c, (cellsFrom n l acc).lookup x = some c → (cellsFrom n l acc).lookup y = some c → x = y
  | [], _, _, p, _ => p
  | (w, k) :: r, n, acc, p, lt => by
    unfold cellsFrom
    split
    · refine cellsFrom_inj (l := r) (n := n + 1) (acc := (w, n) :: acc) (fun x y c h1 h2 => ?_) (fun z d h => ?_)
      · rw [List.lookup_cons] at h1 h2
        cases hx : x == w with
        | true =>
          rw [hx] at h1
          have e1 : n = c := Option.some.inj h1
          cases hy : y == w with
          | true => exact (by simpa using hx : x = w).trans (by simpa using hy : y = w).symm
          | false =>
            rw [hy] at h2
            have := lt y c h2
            rw [← e1] at this
            exact absurd this (Nat.lt_irrefl _)
        | false =>
          rw [hx] at h1
          cases hy : y == w with
          | true =>
            rw [hy] at h2
            have e2 : n = c := Option.some.inj h2
            have := lt x c h1
            rw [← e2] at this
            exact absurd this (Nat.lt_irrefl _)
          | false => rw [hy] at h2; exact p x y c h1 h2
      · rw [List.lookup_cons] at h
        cases hz : z == w with
        | true =>
          rw [hz] at h
          have e : n = d := Option.some.inj h
          rw [← e]; exact Nat.lt_succ_self _
        | false =>
          rw [hz] at h
          exact Nat.lt_succ_of_lt (lt z d h)
    · exact cellsFrom_inj p lt
theorem cellsFrom_cell {x : Str} {c : Addr} : ∀ {l : List (Str × NameKind)} {h : Heap} {acc : List (Str × Addr)}, (∀ y d, acc.lookup y = some d → ∃ v, h.IsCell d v) → (cellsFrom h.objs.size l acc).lookup x = some c → ∃ v, (pushCells h l).IsCell c v
  | [], _, _, hA, e => hA x c e
  | (y, k) :: r, h, acc, hA, e => by
    unfold cellsFrom at e
    unfold pushCells
    split at e
    · rename_i hk
      rw [if_pos hk]
      have hs : (h.push { cls := .type "cell", data := .cell none } : Heap).objs.size = h.objs.size + 1 := Heap.size_push ..
      rw [← hs] at e
      refine cellsFrom_cell (fun z d hz => ?_) e
      rw [List.lookup_cons] at hz
      cases hzy : z == y with
      | true =>
        rw [hzy] at hz
        have e : h.objs.size = d := Option.some.inj hz
        subst e
        exact ⟨none, _, Heap.get?_push_size _ rfl, rfl⟩
      | false =>
        rw [hzy] at hz
        obtain ⟨v, o, ho, hd⟩ := hA z d hz
        exact ⟨v, o, Heap.get?_push_of_some _ ho, hd⟩
    · rename_i hk
      rw [if_neg hk]
      exact cellsFrom_cell hA e
theorem wpAny_newEnv_block {M : Model} {A : Around} {E : Value → Shared → Prop} {s : Shared} {scope : Scope} {globals : Addr} {cl : List (Str × Addr)} {qual : Str} {outer : Env} {Q : Env → Shared → Prop}
    (h : Q (newEnv scope s.heap.objs.size globals (cellsFrom (s.heap.objs.size + 1) scope.names cl) qual none .none (some outer) builtinsNs) { s with heap := pushCells (s.heap.push { cls := .type "dict", data := .dict #[] }) scope.names }) :
    wpAny M A (newFunctionEnv scope globals cl [] qual none .none (some outer)) Q E s := by
  simp only [newFunctionEnv, Option.isSome_some, if_true]
  refine wpAny_bind (wpAny_alloc ?_)
  refine wpAny_bind (wpAny_layCells _ (fun name kind cells => by cases hkc : kind == NameKind.cell <;> simp [hkc]) _ _ _ _ ?_)
  rw [show ({ s with heap := s.heap.push { cls := .type "dict", data := .dict #[] } } : Shared).heap.objs.size = s.heap.objs.size + 1 from Heap.size_push ..]
  rw [List.forIn_nil]
  exact wpAny_bind (wpAny_pure (wpAny_pure h))
theorem clOf_none {env : Env} {x : Str} : ∀ {l : List (Str × NameKind)} {cs : List (Str × Addr)}, (∀ y ∈ l, y.2 = .free → y.1 ≠ x) → (clOf env l cs).lookup x = cs.lookup x
  | [], _, _ => rfl
  | (n, k) :: r, cs, h => by
    have hr : ∀ z ∈ r, z.2 = .free → z.1 ≠ x := fun z hz => h z (List.mem_cons_of_mem _ hz)
    unfold clOf
    by_cases hk : (k == NameKind.free) = true
    · rw [if_pos hk]
      have nx : (x == n) = false := beq_eq_false_iff_ne.mpr fun z => h (n, k) List.mem_cons_self (by simpa using hk) z.symm
      cases q : env.cells.lookup n with
      | none => exact clOf_none hr
      | some d =>
        rw [show (clOf env r ((n, d) :: cs)).lookup x = ((n, d) :: cs).lookup x from clOf_none hr, List.lookup_cons, nx]
    · rw [if_neg hk]; exact clOf_none hr
def Cx.block (X : Cx) (scope : Scope) (C : Addr) (s₀ : Shared) (H₀ : Hp) (ex : List Addr) (N : List Str) : Cx where
  prog := X.prog
  w := X.w
  K := X.K
  mg := X.mg
  base := X.base
  A := X.A
  N := N
  s₀ := s₀
  H₀ := H₀
  env := compEnvC scope (cellsFrom (C + 1) scope.names (clOf X.env scope.names [])) C X.env
  outer := X.stack
  stack := X.stack
  ex := ex
  fn := fun x => scope.names.lookup x == some .cell
  calm := X.calm
  pn := []
  xe := fun _ _ => False
structure BlkSc (X : Cx) (scope : Scope) : Prop where
  kind : scope.kind = .function
  apart : ∀ y ∈ scope.names, ∀ z ∈ scope.names, y.2 = .cell → z.2 = .free → y.1 ≠ z.1
  owns : ∀ y ∈ scope.names, y.2 = .cell → scope.names.lookup y.1 = some .cell
  free : ∀ y ∈ scope.names, y.2 = .free → X.env.kindOf y.1 = some .cell ∨ X.env.kindOf y.1 = some .free
  locs : ∀ y ∈ scope.names, y.2 = .local → scope.names.lookup y.1 = some .local
theorem relabel_kind {scope : Scope} {env : Env} {x : Str} {k : NameKind} : ∀ {l : List (Str × NameKind)}, 
    (l.map fun (n, k) => if (k == NameKind.free && env.scope.kind == .function && env.kindOf n == some .cell) then (n, NameKind.cell) else (n, k)).lookup x = some k →
    k = .cell ∨ k = .free → ∃ k', (x, k') ∈ l ∧ (k' = .cell ∨ k' = .free)
  | [], h, _ => by simp at h
  | (n, j) :: r, h, hk => by
    have h : List.lookup x ((if (j == NameKind.free && env.scope.kind == .function && env.kindOf n == some .cell) = true then (n, NameKind.cell) else (n, j)) :: (r.map fun (n, k) => if (k == NameKind.free && env.scope.kind == .function && env.kindOf n == some .cell) then (n, NameKind.cell) else (n, k))) = some k := h
    by_cases hc : (j == NameKind.free && env.scope.kind == .function && env.kindOf n == some .cell) = true
    · rw [if_pos hc, List.lookup_cons] at h
      have hj : j = .free := by
        simp only [Bool.and_eq_true] at hc
        simpa using hc.1.1
      cases hx : x == n with
      | true =>
        have : x = n := by simpa using hx
        subst this
        exact ⟨j, List.mem_cons_self, .inr hj⟩
      | false =>
        rw [hx] at h
        obtain ⟨k', m, q⟩ := relabel_kind (scope := scope) h hk
        exact ⟨k', List.mem_cons_of_mem _ m, q⟩
    · rw [if_neg hc, List.lookup_cons] at h
      cases hx : x == n with
      | true =>
        rw [hx] at h
        have e : j = k := Option.some.inj h
        have : x = n := by simpa using hx
        subst this
        exact ⟨j, List.mem_cons_self, by rw [e]; exact hk⟩
      | false =>
        rw [hx] at h
        obtain ⟨k', m, q⟩ := relabel_kind (scope := scope) h hk
        exact ⟨k', List.mem_cons_of_mem _ m, q⟩
inductive Draws (X : Cx) (scope : Scope) : List Str → List (Option Nat) → Prop
  | nil : Draws X scope [] []
  | own {x : Str} {N : List Str} {ix : List (Option Nat)} : Draws X scope N ix → Draws X scope (x :: N) (Option.none :: ix)
  | tk {x : Str} {N : List Str} {ix : List (Option Nat)} {i : Nat} (hN : X.N[i]? = some x) (hv : Vis X.env.scope x) (hk : (relabel scope X.env).names.lookup x = some .cell ∨ (relabel scope X.env).names.lookup x = some .free) (hf : (x, NameKind.free) ∈ scope.names) :
      Draws X scope N ix → Draws X scope (x :: N) (some i :: ix)
def blkSt (σ : St) (ix : List (Option Nat)) : St := ix.map fun o => o.bind fun i => (σ[i]?).join
theorem Draws.len {X : Cx} {scope : Scope} {N : List Str} {ix : List (Option Nat)} (D : Draws X scope N ix) : ix.length = N.length := by
  induction D with
  | nil => rfl
  | own _ ih => simp [ih]
  | tk _ _ _ _ _ ih => simp [ih]
theorem Draws.get {X : Cx} {scope : Scope} {N : List Str} {ix : List (Option Nat)} {σ : St} (D : Draws X scope N ix) : ∀ (j : Nat) (x : Str) (v : V), N[j]? = some x → (blkSt σ ix)[j]? = some (some v) →
    ∃ (i : Nat), X.N[i]? = some x ∧ σ[i]? = some (some v) ∧ Vis X.env.scope x ∧ ((relabel scope X.env).names.lookup x = some .cell ∨ (relabel scope X.env).names.lookup x = some .free) ∧ (x, NameKind.free) ∈ scope.names := by
  induction D with
  | nil => intro j x v h; simp at h
  | own d ih =>
    intro j x v h1 h2
    cases j with
    | zero => simp [blkSt] at h2
    | succ j => exact ih j x v (by simpa using h1) (by simpa [blkSt] using h2)
  | @tk y N ix i hN hv hk hf d ih =>
    intro j x v h1 h2
    cases j with
    | zero =>
      have e : y = x := by simpa using h1
      subst e
      refine ⟨i, hN, ?_, hv, hk, hf⟩
      have h2 : ((σ[i]?).join) = some v := by simpa [blkSt] using h2
      cases q : σ[i]? with
      | none => rw [q] at h2; cases h2
      | some o => rw [q] at h2; exact congrArg some h2
    | succ j => exact ih j x v (by simpa using h1) (by simpa [blkSt] using h2)
section
variable {X : Cx} {pins : List (Addr × Obj)} {σ : St} {H : Hp} {s : Shared} {scope : Scope} {N : List Str} {ix : List (Option Nat)} {fp : List Addr}
theorem Inv.nostk (I : Inv X pins σ H s) {b : Addr} (h1 : b ≠ X.env.locals) (h2 : b ∉ X.fs) : b ∉ frs X.stack := fun z => (List.mem_cons.mp (I.stkSub b z)).elim h1 h2
theorem Inv.blockStart {h' : Heap} {tk : Nat} {m : Str → Option Value} (I : Inv X pins σ H s) (B : BlkSc X scope) (D : Draws X scope N ix) (hfp : ∀ b ∈ fp, FpOk X pins H b) (hfo : ∀ b ∈ fp, ∃ o, s.heap.get? b = some o)
    (hns : h'.Ns s.heap.objs.size m) (hk : ∀ b o, s.heap.get? b = some o → h'.get? b = some o) (hcl : ∀ x c, (cellsFrom (s.heap.objs.size + 1) scope.names (clOf X.env scope.names [])).lookup x = some c → ∃ v, h'.IsCell c v) :
    Inv (X.block scope s.heap.objs.size s H fp N) (X.pn ++ pins) (blkSt σ ix) H { s with heap := h', toks := tk } := by
  have sub : ∀ {x : Str} {c : Addr}, (clOf X.env scope.names []).lookup x = some c → X.env.cells.lookup x = some c := fun {x c} e => clOf_sub (fun y d z => by simp at z) e
  have old : ∀ {x : Str} {c : Addr}, (clOf X.env scope.names []).lookup x = some c → c < s.heap.objs.size := fun {x c} e => by
    obtain ⟨v, o, ho, _⟩ := I.cell x c (sub e)
    exact Heap.lt_size ho
  have two : ∀ {x : Str} {c : Addr}, (cellsFrom (s.heap.objs.size + 1) scope.names (clOf X.env scope.names [])).lookup x = some c → X.env.cells.lookup x = some c ∨ s.heap.objs.size < c := fun {x c} e => by
    rcases cellsFrom_or e with z | ⟨z, _⟩
    · exact .inl (sub z)
    · exact .inr z
  have own : ∀ {x : Str}, (x, NameKind.free) ∈ scope.names → (cellsFrom (s.heap.objs.size + 1) scope.names (clOf X.env scope.names [])).lookup x = (clOf X.env scope.names []).lookup x := fun {x} hx => cellsFrom_out fun y hy e => B.apart y hy _ hx e rfl
  have okB : (X.block scope s.heap.objs.size s H fp N).Ok := by
    refine ⟨I.ok.mod, B.kind, I.ok.glob, I.ok.blt, Nat.le_refl _, cellsFrom_inj (fun x y c h1 h2 => I.ok.inj x y c (sub h1) (sub h2)) (fun z d h => Nat.lt_succ_of_lt (old h)), fun x hx => ?_, (fun x c z e => ?_), I.ok.hd, I.ok.frames, .inl rfl, fun b hb => ⟨?_, fun x c e => ?_⟩,
      I.bs, Nat.le_trans I.ok.bsz I.sz, fun b o e hb => ?_, fun b hb => I.nostk (hfp b hb).2.1 (hfp b hb).2.2.1, I.stack, I.stkFree⟩
    · have hx' : (relabel scope X.env).names.lookup x = some .cell ∨ (relabel scope X.env).names.lookup x = some .free := hx
      have key : ∃ k', (x, k') ∈ scope.names ∧ (k' = .cell ∨ k' = .free) := by
        rcases hx' with e | e
        · exact relabel_kind (scope := scope) e (.inl rfl)
        · exact relabel_kind (scope := scope) e (.inr rfl)
      obtain ⟨k', m1, q⟩ := key
      rcases q with q | q
      · subst q
        exact Option.isSome_iff_exists.mp (PySem.W.cellsFrom_some _ _ _ (.inl (B.owns _ m1 rfl)))
      · subst q
        obtain ⟨c, hc⟩ := I.ok.has x (B.free _ m1 rfl)
        exact ⟨c, (own m1).trans (clOf_has hc m1)⟩
    · rcases cellsFrom_or e with q | ⟨q, _⟩
      · have z : scope.names.lookup x = some .cell := by
          have z : (scope.names.lookup x == some NameKind.cell) = true := z
          simpa using z
        have hm := PySem.mem_of_lookup z
        have : (x, NameKind.free) ∈ scope.names ∨ True := .inr trivial
        exact absurd q (by
          rw [clOf_none (fun y hy e1 e2 => B.apart _ hm y hy rfl e1 e2.symm)]
          intro h; cases h)
      · exact Nat.le_of_lt q
    · obtain ⟨o, e⟩ := hfo b hb
      exact Nat.ne_of_lt (Heap.lt_size e)
    · rcases two e with z | z
      · exact (hfp b hb).2.2.2.2.1 x c z
      · obtain ⟨o, e⟩ := hfo b hb
        exact Nat.ne_of_gt (Nat.lt_trans (Heap.lt_size e) z)
    · rcases (hfp b hb).2.2.2.1 with z | z
      · exact I.ok.noex b o e z
      · exact absurd (Nat.lt_of_lt_of_le (Heap.lt_size (I.ok.bs b o e).1) z) (Nat.lt_irrefl _)
  refine ⟨okB, rfl, I.bare, Un.kept hk, ⟨m, hns, fun j x v h1 h2 h3 => ?_⟩, fun x c e => ?_, I.hok.fresh (Nat.le_refl _), fun x c e => (two e).elim (fun z => I.freeC x c z) (fun z => I.hok.fresh (Nat.le_of_lt z)), fun p hp => ?_, I.hok.kept hk, ?_⟩
  · obtain ⟨i, e1, e2, vis, kd, fr⟩ := D.get j x v h1 h2
    obtain ⟨m0, hn0, hl⟩ := I.loc
    obtain ⟨u, r, l⟩ := hl i x v e1 e2 vis
    refine ⟨u, r, ?_⟩
    rcases l with ⟨k, _⟩ | ⟨_, c, hc, o, ho, hd⟩
    · rcases B.free _ fr rfl with z | z
      · have z : X.env.kindOf x = some .cell := z
        rw [k] at z; cases z
      · have z : X.env.kindOf x = some .free := z
        rw [k] at z; cases z
    · exact .inr ⟨kd, c, (own fr).trans (clOf_has hc fr), o, hk c o ho, hd⟩
  · exact hcl x c e
  · have hp' : p ∈ X.pn ++ pins := by simpa [Cx.block] using hp
    obtain ⟨e, n, ne, nf, d⟩ := I.pin p hp'
    exact ⟨hk _ _ e, n, Nat.ne_of_lt (Heap.lt_size e), I.nostk ne nf, d⟩
  · show (blkSt σ ix).length = N.length
    unfold blkSt
    rw [List.length_map]
    exact D.len
end
def PTs (X : Cx) (ifs : List Expr) (t : TT) : Prop :=
  ∀ (pins : List (Addr × Obj)) (s : Shared) (σ : St) (H : Hp) (Q : Bool → Hp → Prop), Inv X pins σ H s → t σ H Q →
    wpAny (model X.prog X.w) X.A (forIn ifs true fun c r => if r = true then do let ok ← isTrue c X.env (eval c X.env); pure (ForInStep.yield ok) else pure (ForInStep.yield r)) (TP X pins σ Q) X.xe s
def tTrue : TT := fun _ H Q => Q true H
theorem pts_nil {X : Cx} : PTs X [] tTrue := fun _ _ _ H _ I h => wpAny_tests_nil ⟨H, I, h⟩
theorem pts_one {X : Cx} {c : Expr} {t : TT} (h : PT X c t) : PTs X [c] t := fun pins s σ H Q I hw => wpAny_tests_one (h pins s σ H Q I hw)
theorem comp_loop {prog : Program} {w : World} {A : Around} {R : Result → Shared → Prop} {s : Shared} {elt target iter : Expr} {ifs : List Expr} {scope : Scope} {pos : Pos} {it acc : Value} {env : Env} (I : Nat → Shared → Prop)
    (turn : ∀ n s, I n s → wpAny (model prog w) A (pyNext it) (fun r s₁ => match r with
      | none => R (.ok .next) s₁
      | some v => wpAny (model prog w) A (letOwnedTupleGo target it v) (fun _ s₁' => wpAny (model prog w) A (assign target env v) (fun _ s₂ =>
          wpAny (model prog w) A (forIn ifs true fun c r => if r = true then do let ok ← isTrue c env (eval c env); pure (ForInStep.yield ok) else pure (ForInStep.yield r)) (fun ok s₃ =>
            if ok = true then wpAny (model prog w) A (eval elt env) (fun x s₄ =>
              wpAny (model prog w) A (call (.builtin "list.append") [acc, x]) (fun _ s₅ => ∃ m, m < n ∧ I m s₅) (fun _ _ => False) s₄) (fun _ _ => False) s₃
            else ∃ m, m < n ∧ I m s₃) (fun _ _ => False) s₂) (fun _ _ => False) s₁') (fun _ _ => False) s₁) (fun _ _ => False) s)
    (n : Nat) (h : I n s) :
    codeAny (model prog w) A (.compLoop (.ListComp elt [⟨target, iter, ifs, 0⟩] scope pos) 0 it acc env) R s := by
  refine codeAny_loop rfl I (fun n s hI => ?_) n h
  show wpAny _ A ((compTurn (.ListComp elt [⟨target, iter, ifs, 0⟩] scope pos) 0 it acc env).onRaise (fun x => do noteFrame x env; theTreesLotGoes x)) _ _ s
  refine wpAny_noted ?_
  rw [compTurn_list]
  refine wpAny_bind (wpAny_standAt (wpAny_bind (wpAny_mono (turn n s hI) (fun r s₁ h₁ => ?_) fun _ _ h' => h'.elim)))
  cases r with
  | none => exact wpAny_pure h₁
  | some v =>
    refine wpAny_bind (wpAny_mono h₁ (fun _ s₁' h₁' => ?_) fun _ _ h' => h'.elim)
    refine wpAny_bind (wpAny_mono h₁' (fun _ s₂ h₂ => wpAny_bind (wpAny_mono h₂ (fun ok s₃ h₃ => ?_) fun _ _ h' => h'.elim)) fun _ _ h' => h'.elim)
    cases ok with
    | false => exact wpAny_pure ⟨rfl, h₃⟩
    | true =>
      exact wpAny_bind (wpAny_bind (wpAny_mono h₃ (fun x s₄ h₄ => wpAny_bind (wpAny_mono h₄ (fun _ s₅ h₅ => wpAny_pure (wpAny_pure ⟨rfl, h₅⟩)) fun _ _ h' => h'.elim)) fun _ _ h' => h'.elim))
def tComp (wi : TI) (ix : List (Option Nat)) (g : TG) (tt : TT) (te : TE) : TE := fun σ H Q => wi σ H fun J H1 => ∀ D, H1 D = none → ∃ W : Nat → Nat → List V → St → Hp → Prop,
  (∃ m, W 0 m [] (blkSt σ ix) (upd H1 D (.lst []))) ∧ ∀ i m ys τ H2, W i m ys τ H2 →
    (J.stop i H2 ∧ Q (.ref D) H2) ∨ (J.go i H2 ∧ ∃ N : List V → St → Hp → Prop, (∀ ys' τ' H', N ys' τ' H' → ∃ m', m' < m ∧ W (i + 1) m' ys' τ' H') ∧ ∀ x H3, J.yld i H2 x H3 → g x τ H3 fun τ' H4 => tt τ' H4 fun b H5 =>
      if b = true then te τ' H5 fun v H6 => H6 D = some (.lst ys) ∧ ys.length < sizeLine ∧ N (ys ++ [v]) τ' (upd H6 D (.lst (ys ++ [v])))
      else N ys τ' H5)
theorem block_loop {Y : Cx} {tg elt iter : Expr} {ifs : List Expr} {scope : Scope} {pos : Pos} {g : TG} {tt : TT} {te : TE} {J : It} {fp : List Addr} {it D : Addr} {tn : Nat → Heap → Prop} {P : List (Addr × Obj)} {W : Nat → Nat → List V → St → Hp → Prop} {m0 : Nat}
    {R : Result → Shared → Prop} {QD : Hp → Prop} {s4 : Shared} {τ0 : St} {H4 : Hp}
    (hc : Y.calm = true) (hx : ∀ e s, Y.xe e s → False) (hg : PG Y tg g) (ht : PTs Y ifs tt) (he : PE Y elt te) (T : Turn Y.prog Y.w Y.K tg J fp it tn)
    (stat : ∀ {H' : Hp}, (∀ b ∈ fp, H' b = none) → ∀ b ∈ fp, FpOk Y P H' b)
    (turn : ∀ i m ys τ H2, W i m ys τ H2 → (J.stop i H2 ∧ QD H2) ∨ (J.go i H2 ∧ ∃ N : List V → St → Hp → Prop, (∀ ys' τ' H', N ys' τ' H' → ∃ m', m' < m ∧ W (i + 1) m' ys' τ' H') ∧ ∀ x H3, J.yld i H2 x H3 → g x τ H3 fun τ' H4 => tt τ' H4 fun b H5 =>
      if b = true then te τ' H5 fun v H6 => H6 D = some (.lst ys) ∧ ys.length < sizeLine ∧ N (ys ++ [v]) τ' (upd H6 D (.lst (ys ++ [v])))
      else N ys τ' H5))
    (fin : ∀ τ H' s', Inv Y P τ H' s' → QD H' → R (.ok .next) s')
    (I0 : Inv Y P τ0 H4 s4) (t0 : tn 0 s4.heap) (n0 : ∀ b ∈ fp, H4 b = none) (w0 : W 0 m0 [] τ0 H4) :
    codeAny (model Y.prog Y.w) Y.A (.compLoop (.ListComp elt [⟨tg, iter, ifs, 0⟩] scope pos) 0 (.ref it) (.ref D) Y.env) R s4 := by
  have nx : ∀ {α : Type} {t : Sem α} {Q : α → Shared → Prop} {s : Shared}, wpAny (model Y.prog Y.w) Y.A t Q Y.xe s → wpAny (model Y.prog Y.w) Y.A t Q (fun _ _ => False) s := fun h => wpAny_mono h (fun _ _ q => q) hx
  refine comp_loop (fun n s' => ∃ i ys τ H', Inv Y P τ H' s' ∧ tn i s'.heap ∧ (∀ b ∈ fp, H' b = none) ∧ W i n ys τ H') ?_ m0 ⟨0, [], τ0, H4, I0, t0, n0, w0⟩
  rintro n s5 ⟨i, ys, τ, H5, I5, st5, fr5, w5⟩
  rcases turn i n ys τ H5 w5 with ⟨stop, q⟩ | ⟨go, N, hN, step⟩
  · refine thn (T.done Y rfl rfl rfl hc i P s5 τ H5 _ I5 (stat fr5) st5 stop) fun r s6 ⟨hr, I6⟩ => ?_
    subst hr
    exact fin τ H5 s6 I6 q
  · refine thn (T.item Y rfl rfl rfl hc i P s5 τ H5 _ I5 (stat fr5) st5 go) fun r s6 ⟨u, hr, h6⟩ => ?_
    subst hr
    refine thn h6 fun _ s7 ⟨x, H7, I7, r7, y7, st7, fr7⟩ => ?_
    have I7' := I7.pinned (stat fr7) (T.obj _ _ st7)
    refine nx (thn (hg _ s7 τ H7 x u _ I7' r7 (step x H7 y7)) fun _ s8 ⟨τ8, H8, I8, q8⟩ => ?_)
    refine nx (thn (ht _ s8 τ8 H8 _ I8 q8) fun ok s9 ⟨H9, I9, q9⟩ => ?_)
    have again : ∀ {ys' : List V} {H' : Hp} {s' : Shared}, Inv Y (P ++ pinsAt fp s7.heap) τ8 H' s' → (∃ m', m' < n ∧ W (i + 1) m' ys' τ8 H') → ∃ m, m < n ∧ ∃ i ys τ H', Inv Y P τ H' s' ∧ tn i s'.heap ∧ (∀ b ∈ fp, H' b = none) ∧ W i m ys τ H' := fun {ys' H' s'} I' ⟨m', hm, w'⟩ => by
      refine ⟨m', hm, i + 1, ys', τ8, H', I'.unpinned, T.keep _ _ _ st7 fun b hb o e => (I'.pin (b, o) (List.mem_append_right _ (List.mem_append_right _ (mem_pinsAt hb e)))).1, fun b hb => ?_, w'⟩
      obtain ⟨o, e, d⟩ := T.obj _ _ st7 b hb
      exact (I'.pin (b, o) (List.mem_append_right _ (List.mem_append_right _ (mem_pinsAt hb e)))).2.1
    cases ok with
    | false =>
      rw [if_neg Bool.false_ne_true] at q9 ⊢
      exact again I9 (hN _ _ _ q9)
    | true =>
      rw [if_pos rfl] at q9 ⊢
      refine nx (thn (he _ s9 τ8 H9 _ I9 q9) fun y s10 ⟨v, H10, I10, r10, hD, hz, w10⟩ => ?_)
      refine nx (thn (mt_append (X := Y) _ s10 τ8 H10 (.ref D) [v] (.ref D) [y] (fun _ H' => H' = upd H10 D (.lst (ys ++ [v]))) I10 rfl (.cons r10 .nil) ⟨D, ys, v, rfl, rfl, hD, hz, rfl⟩) fun _ s11 ⟨z, H11, I11, _, e11⟩ => ?_)
      subst e11
      exact again I11 (hN _ _ _ w10)
theorem run_comp {X : Cx} {elt tg iter : Expr} {ifs : List Expr} {scope : Scope} {pos p1 : Pos} {N : List Str} {ix : List (Option Nat)} {wi : TI} {g : TG} {tt : TT} {te : TE} {pins : List (Addr × Obj)} {s : Shared} {σ : St} {H : Hp} {Q : VK} {use : Option (Value → Sem Unit)}
    {Z : Value → Shared → Prop}
    (hc : X.calm = true) (B : BlkSc X scope) (Dr : Draws X scope N ix) (hi : PI X tg iter wi)
    (hg : ∀ C s₀ H₀ ex, PG (X.block scope C s₀ H₀ ex N) tg g) (ht : ∀ C s₀ H₀ ex, PTs (X.block scope C s₀ H₀ ex N) ifs tt) (he : ∀ C s₀ H₀ ex, PE (X.block scope C s₀ H₀ ex N) elt te)
    (hs : ∀ x, foldedSetIterable iter X.env x = pure x)
    (I : Inv X pins σ H s) (h : tComp wi ix g tt te σ H Q)
    (fin : ∀ (D C : Addr) (H' : Hp) (s' : Shared) (m : Str → Option Value), Inv X pins σ H' s' → Q (.ref D) H' → s'.heap.Ns C m → (∀ h', Heap.SameBut C s'.heap h' → Inv X pins σ H' { s' with heap := h' }) → C ≠ X.env.locals → (∀ x c, X.env.cells.lookup x = some c → c ≠ C) → H' C = none →
      (∀ p ∈ X.pn ++ pins, p.1 ≠ C) → X.s₀.heap.objs.size ≤ C → compPost (model X.prog X.w) X.A X.xe use Z (.ref D) C (.ok .next) s') :
    wpAny (model X.prog X.w) X.A (comprehension (.ListComp elt [⟨tg, iter, ifs, 0⟩] scope pos) scope X.env p1 (newList []) false (eval iter X.env) use) Z X.xe s := by
  have hfree : ∀ x ∈ scope.names, x.2 = .free → ∃ c, X.env.cells.lookup x.1 = some c := fun x hx e => I.ok.has _ (B.free x hx e)
  refine wpAny_comprehension_free (use := use) rfl hs (closureFor_of hfree) B.kind B.locs ?_
  refine thn (hi pins s σ H _ I h) fun v s1 h1 => thn h1 fun itv s2 h2 => ?_
  obtain ⟨it, fp, tn, J, H2, e, I2, T, st2, f2, R⟩ := h2
  subst e
  have hDf : H2 s2.heap.objs.size = none := I2.hok.fresh (Nat.le_refl _)
  obtain ⟨W, ⟨m0, w0⟩, turn⟩ := R _ hDf
  refine wpAny_newObj_type ?_ (by show (0 : Nat) ≤ sizeLine; exact Nat.zero_le _)
  have I3 : Inv X pins σ (upd H2 s2.heap.objs.size (.lst [])) { s2 with heap := s2.heap.push { cls := .type "list", data := .seq ([] : List Value).toArray } } := I2.lnew (t' := s2.toks) (ys := []) (its := []) .nil (Nat.zero_le _)
  generalize hD : s2.heap.objs.size = D at *
  have fpo : ∀ b ∈ fp, ∃ o, s2.heap.get? b = some o := fun b hb => let ⟨o, q, _⟩ := T.obj _ _ st2 b hb; ⟨o, q⟩
  have fpD : ∀ b ∈ fp, b ≠ D := fun b hb => by
    obtain ⟨o, q⟩ := fpo b hb
    rw [← hD]; exact Nat.ne_of_lt (Heap.lt_size q)
  have f3 : ∀ b ∈ fp, FpOk X pins (upd H2 D (.lst [])) b := fun b hb => ⟨by rw [upd_ne (fpD b hb)]; exact (f2 b hb).1, (f2 b hb).2⟩
  generalize hs3 : ({ s2 with heap := s2.heap.push { cls := .type "list", data := .seq ([] : List Value).toArray } } : Shared) = s3 at I3 ⊢
  have k23 : ∀ b o, s2.heap.get? b = some o → s3.heap.get? b = some o := fun b o q => by rw [← hs3]; exact Heap.get?_push_of_some _ q
  have fpo3 : ∀ b ∈ fp, ∃ o, s3.heap.get? b = some o := fun b hb => let ⟨o, q⟩ := fpo b hb; ⟨o, k23 b o q⟩
  have st3 : tn 0 s3.heap := T.keep _ _ _ st2 fun b hb o q => k23 b o q
  refine wpAny_newEnv_block ?_
  have k34 : ∀ b o, s3.heap.get? b = some o → (pushCells (s3.heap.push { cls := .type "dict", data := .dict #[] }) scope.names).get? b = some o := fun b o q => pushCells_keeps _ _ b o (Heap.get?_push_of_some _ q)
  have hns4 : (pushCells (s3.heap.push { cls := .type "dict", data := .dict #[] }) scope.names).Ns s3.heap.objs.size (fun _ => none) := (Heap.Ns.new s3.heap (.type "dict")).keeps (pushCells_keeps _ _)
  have hcl4 : ∀ x c, (cellsFrom (s3.heap.objs.size + 1) scope.names (clOf X.env scope.names [])).lookup x = some c → ∃ v, (pushCells (s3.heap.push { cls := .type "dict", data := .dict #[] }) scope.names).IsCell c v := fun x c e => by
    refine cellsFrom_cell (h := s3.heap.push { cls := .type "dict", data := .dict #[] }) (acc := clOf X.env scope.names []) (fun y d hy => ?_) (by rw [Heap.size_push]; exact e)
    obtain ⟨v, o, ho, hd⟩ := I3.cell y d (clOf_sub (fun y d z => by simp at z) hy)
    exact ⟨v, o, Heap.get?_push_of_some _ ho, hd⟩
  have IB := I3.blockStart (tk := s3.toks) B Dr f3 fpo3 hns4 k34 hcl4
  generalize hh4 : pushCells (s3.heap.push { cls := .type "dict", data := .dict #[] }) scope.names = h4 at *
  generalize hC : s3.heap.objs.size = C at *
  have hCX : X.s₀.heap.objs.size ≤ C := by rw [← hC]; exact I3.sz
  have CL : C ≠ X.env.locals := by rw [← hC]; exact Nat.ne_of_gt I3.lt
  have Cc : ∀ x c, X.env.cells.lookup x = some c → c ≠ C := fun x c q => by
    obtain ⟨v, o, ho, _⟩ := I3.cell x c q
    rw [← hC]; exact Nat.ne_of_lt (Heap.lt_size ho)
  have Cp : ∀ p ∈ X.pn ++ pins, p.1 ≠ C := fun p hp => by
    rw [← hC]; exact Nat.ne_of_lt (Heap.lt_size (I3.pin p hp).1)
  have fpC : ∀ b ∈ fp, b ≠ C := fun b hb => by
    obtain ⟨o, q⟩ := fpo3 b hb
    rw [← hC]; exact Nat.ne_of_lt (Heap.lt_size q)
  have stat : ∀ {H' : Hp}, (∀ b ∈ fp, H' b = none) → ∀ b ∈ fp, FpOk (X.block scope C s3 (upd H2 D (.lst [])) fp N) (X.pn ++ pins) H' b := fun {H'} hn b hb => by
    obtain ⟨_, q1, q2, q3, q4, q5⟩ := f2 b hb
    exact ⟨hn b hb, fpC b hb, I3.nostk q1 q2, .inl hb, fun x c e => (cellsFrom_or e).elim (fun z => q4 x c (clOf_sub (fun y d z => by simp at z) z)) (fun z => by obtain ⟨o, q⟩ := fpo3 b hb; have := Heap.lt_size q; rw [hC] at this; exact Nat.ne_of_gt (Nat.lt_of_lt_of_le (Nat.lt_succ_of_lt this) z.1)), fun p hp => q5 p (by simpa [Cx.block] using hp)⟩
  have st4 : tn 0 h4 := T.keep _ _ _ st3 fun b hb o q => k34 b o q
  have n4 : ∀ b ∈ fp, (upd H2 D (.lst [])) b = none := fun b hb => (f3 b hb).1
  have loop := block_loop (Y := X.block scope C s3 (upd H2 D (.lst [])) fp N) (iter := iter) (pos := pos) (scope := scope) (D := D) (R := compPost (model X.prog X.w) X.A X.xe use Z (.ref D) C) hc (fun _ _ z => z) (hg C s3 _ fp) (ht C s3 _ fp) (he C s3 _ fp) T stat turn
    (fun τ H' s' I' q => by
      have I5 : Inv X pins σ H' s' := I3.call' (ch := fp) I'.os I'.base I'.hok I'.bare fun b hb => by
        obtain ⟨_, q1, q2, q3, q4, q5⟩ := f2 b hb
        exact ⟨q3, q1, q4, q5⟩
      obtain ⟨m, hn, _⟩ := I'.loc
      have hC0 : H' C = none := I'.free
      exact fin D C H' s' m I5 q hn (fun h'' hs'' => I5.turned (t' := s'.toks) (fun b o hb e => hs''.extBut b o hb e) hC0 CL (.inr hCX) Cc Cp) CL Cc hC0 Cp hCX) IB st4 n4 w0
  exact codeAny_compStart_list loop (T.self _ 0 _ _ _ st4 loop)
theorem pe_comp {X : Cx} {elt tg iter : Expr} {ifs : List Expr} {scope : Scope} {pos : Pos} {N : List Str} {ix : List (Option Nat)} {wi : TI} {g : TG} {tt : TT} {te : TE} (hc : X.calm = true) (B : BlkSc X scope) (Dr : Draws X scope N ix) (hi : PI X tg iter wi)
    (hg : ∀ C s₀ H₀ ex, PG (X.block scope C s₀ H₀ ex N) tg g) (ht : ∀ C s₀ H₀ ex, PTs (X.block scope C s₀ H₀ ex N) ifs tt) (he : ∀ C s₀ H₀ ex, PE (X.block scope C s₀ H₀ ex N) elt te)
    (hs : ∀ x, foldedSetIterable iter X.env x = pure x := by intro _; rfl) : PE X (.ListComp elt [⟨tg, iter, ifs, 0⟩] scope pos) (tComp wi ix g tt te) := by
  intro pins s σ H Q I h
  rw [eval_ListComp]
  exact run_comp (use := none) hc B Dr hi hg ht he hs I h fun D C H' s' m I' q hn k _ _ _ _ _ => ⟨m, hn, fun h' hs' => ⟨.ref D, H', k h' hs', rfl, q⟩⟩
def blkOk (scope sc : Scope) : Bool := (scope.kind == .function) && (scope.names.all (fun y => scope.names.all fun z => y.2 != .cell || z.2 != .free || y.1 != z.1) && scope.names.all (fun y => y.2 != .cell || scope.names.lookup y.1 == some .cell)) && scope.names.all (fun y => y.2 != .free || sc.names.lookup y.1 == some .cell || sc.names.lookup y.1 == some .free) && scope.names.all (fun y => y.2 != .local || scope.names.lookup y.1 == some .local)
theorem blk_mk {X : Cx} {scope sc : Scope} (hsc : X.env.scope = sc) (h : blkOk scope sc = true) : BlkSc X scope := by
  unfold blkOk at h
  simp only [Bool.and_eq_true, List.all_eq_true, Bool.or_eq_true] at h
  obtain ⟨⟨⟨h1, h2, h5⟩, h3⟩, h4⟩ := h
  refine ⟨by simpa using h1, fun y hy z hz e1 e2 => ?_, fun y hy e => ?_, fun y hy e => ?_, fun y hy e => ?_⟩
  · rcases h2 y hy z hz with (q | q) | q
    · rw [e1] at q; simp at q
    · rw [e2] at q; simp at q
    · simpa using q
  · rcases h5 y hy with q | q
    · rw [e] at q; simp at q
    · simpa using q
  · have q := h3 y hy
    show X.env.scope.names.lookup y.1 = some .cell ∨ X.env.scope.names.lookup y.1 = some .free
    rw [hsc]
    rcases q with (q | q) | q
    · rw [e] at q; simp at q
    · exact .inl (by simpa using q)
    · exact .inr (by simpa using q)
  · have q := h4 y hy
    rcases q with q | q
    · rw [e] at q; simp at q
    · simpa using q
end L2
set_option Elab.async false
set_option linter.all false
set_option maxRecDepth 100000
set_option maxHeartbeats 4000000
namespace L2
open PySem PySem.Spec PyProof.Rows
def Its (z : Str) : It := ⟨fun i _ => i < z.cps.size, fun i H x H' => H' = H ∧ ∃ c, z.cps[i]? = some c ∧ x = .str ⟨#[c]⟩, fun i _ => z.cps.size ≤ i⟩
theorem turn_str {P : Program} {w : World} {K : PySem.W.Frag} {tg : Expr} (it : Addr) (z : Str) (t : Tok) (ty : String) (hty : ty = "str_ascii_iterator" ∨ ty = "str_iterator") : Turn P w K tg (Its z) [it] it (fun i h => h.IsStrIter it ty z t i) where
  mem := by simp
  obj := fun i h st b hb => by
    have e : b = it := by simpa using hb
    subst e
    obtain ⟨o, e, c, d⟩ := st
    exact ⟨o, e, fun v z => by rw [d] at z; cases z⟩
  keep := fun i h h' st k => by
    obtain ⟨o, e, c, d⟩ := st
    exact ⟨o, k it (by simp) o e, c, d⟩
  item := by
    intro X hP hw hK hc i pins s σ H E I hf st hg
    subst hP hw hK
    obtain ⟨f0, f1, f2, f3, f4, f5⟩ := hf it (by simp)
    have hlt : i < z.cps.size := hg
    have hx : z.cps[i]? = some z.cps[i] := by simp [hlt]
    have fin : ∀ h' : Heap, h'.IsStrIter it ty z t (i + 1) → Heap.SameBut it s.heap h' → ∃ u, some (Value.str ⟨#[z.cps[i]]⟩ s.toks) = some u ∧
        wpAny (model X.prog X.w) X.A (letOwnedTupleGo tg (.ref it) u) (fun _ s2 => ∃ x H', Inv X pins σ H' s2 ∧ RelV x u ∧ (Its z).yld i H x H' ∧ s2.heap.IsStrIter it ty z t (i + 1) ∧ ∀ b ∈ [it], H' b = none) E { s with heap := h', toks := s.toks + 1 } := fun h' st' sb => by
      have I1 : Inv X pins σ H { s with heap := h', toks := s.toks + 1 } := I.turned (t' := s.toks + 1) (fun b o hb e => (sb.2 b hb).trans e) f0 f1 f3 f4 f5
      obtain ⟨o, e, c, d⟩ := id st'
      exact ⟨_, rfl, go_of (s := { s with heap := h', toks := s.toks + 1 }) e c d (by rcases hty with rfl | rfl <;> decide) ⟨.str ⟨#[z.cps[i]]⟩, H, I1, ⟨_, rfl⟩, ⟨rfl, _, hx, rfl⟩, st', fun b hb => (hf b hb).1⟩⟩
    rcases hty with rfl | rfl
    · exact wpAny_pyNext_ascii_item st hx fin
    · exact wpAny_pyNext_wide_item st hx fin
  done := by
    intro X hP hw hK hc i pins s σ H E I hf st hg
    subst hP hw hK
    obtain ⟨f0, f1, f2, f3, f4, f5⟩ := hf it (by simp)
    have hle : z.cps.size ≤ i := hg
    have hx : z.cps[i]? = none := by simp [hle]
    have fin : ∀ h' : Heap, Heap.ExtBut it s.heap h' → (none : Option Value) = none ∧ Inv X pins σ H { s with heap := h' } := fun h' eb => ⟨rfl, I.turned (t' := s.toks) (fun b o hb e => eb b o hb e) f0 f1 f3 f4 f5⟩
    rcases hty with rfl | rfl
    · exact wpAny_pyNext_ascii_end (I.ok.hd hc) st hx fin
    · exact wpAny_pyNext_wide_end (I.ok.hd hc) st hx fin
  self := fun _ _ _ _ _ st h => by
    rcases hty with rfl | rfl
    · exact wpAny_pyIter_striter_ascii st h
    · exact wpAny_pyIter_striter_wide st h
def iStr (tl : TE) : TI := fun σ H R => tl σ H fun x H1 => ∃ z, x = .str z ∧ R (Its z) H1
theorem pi_str {X : Cx} {tg l : Expr} {tl : TE} (hl : PE X l tl) : PI X tg l (iStr tl) := by
  intro pins s σ H R I h
  refine thn (hl pins s σ H _ I h) fun v s1 ⟨x, H1, I1, r1, q1⟩ => ?_
  obtain ⟨z, e, q⟩ := q1
  subst e
  obtain ⟨t, rfl⟩ := r1
  have fin : ∀ (ty : String), (ty = "str_ascii_iterator" ∨ ty = "str_iterator") → PIE X pins σ tg R (.ref s1.heap.objs.size) { s1 with heap := s1.heap.push { cls := .type ty, data := .fields #[.str z t, .int 0 0] } } := fun ty hty =>
    ⟨s1.heap.objs.size, [s1.heap.objs.size], _, _, H1, rfl, I1.kept (t' := s1.toks) fun b o e => Heap.get?_push_of_some _ e, turn_str _ z t ty hty, ⟨_, Heap.get?_push_size _ rfl, rfl, rfl⟩, fun b hb => by
      have e : b = s1.heap.objs.size := by simpa using hb
      subst e
      exact I1.fpOk (Nat.le_refl _) (I1.hok.fresh (Nat.le_refl _)), q⟩
  cases ha : z.cps.all (· < 128)
  · exact wpAny_pyIter_wide ha (fin _ (.inr rfl))
  · exact wpAny_pyIter_ascii ha (fin _ (.inl rfl))
theorem bls_get {bs : List Bool} {its : List Value} (r : Vals (bs.map V.bl) its) {i : Nat} {v : Value} (h : its[i]? = some v) : v = .bool (bs.getD i false) ∧ i < bs.length := by
  have hl := r.length
  rw [List.length_map] at hl
  have hi : i < its.length := (List.getElem?_eq_some_iff.mp h).1
  have hb : i < bs.length := by omega
  have e : (bs.map V.bl)[i]? = some (V.bl bs[i]) := by simp [hb]
  obtain ⟨u, hu, ru⟩ := r.get e
  rw [h] at hu
  cases hu
  refine ⟨?_, hb⟩
  have : v = .bool bs[i] := ru
  rw [this, List.getD_eq_getElem?_getD]
  simp [hb]
theorem all_range (bs : List Bool) : (List.range bs.length).all (fun i => bs.getD i false) = bs.all id := by
  rw [Bool.eq_iff_iff]
  simp only [List.all_eq_true, List.mem_range]
  constructor
  · intro h x hx
    obtain ⟨i, hi, rfl⟩ := List.mem_iff_getElem.mp hx
    have := h i hi
    simpa [List.getD_eq_getElem?_getD, hi] using this
  · intro h i hi
    have := h bs[i] (List.getElem_mem hi)
    simpa [List.getD_eq_getElem?_getD, hi] using this
theorem call_all (X : Cx) (hc : X.calm = true) : CallR X (.builtin "all") (fun xs H Q => ∃ (p : Addr) (bs : List Bool), xs = [.ref p] ∧ SqL X.K H p (bs.map V.bl) ∧ Q (.bl (bs.all id)) H) := by
  intro pins s σ H xs us Q I rv h
  obtain ⟨p, bs, rfl, hq, q⟩ := h
  obtain ⟨u, rfl, ru⟩ := rv.one
  cases ru
  obtain ⟨its, r, pl, hz⟩ := I.list hq
  have hl := r.length
  rw [List.length_map] at hl
  refine call_all_walk (wpAny_pyIter_list pl.isList ?_)
  have hp : p < s.heap.objs.size := by obtain ⟨o, n, e, _⟩ := pl; exact Heap.lt_size e
  have I1 : Inv X pins σ H { s with heap := s.heap.push { cls := .type "list_iterator", data := .fields #[.ref p, .int 0 0] } } := I.kept (t' := s.toks) fun b o e => Heap.get?_push_of_some _ e
  refine ⟨s.heap.objs.size, _, _, _, _, _, fun i => bs.getD i false, rfl, Walks.list (A := X.A.in1) (show X.A.in1.handled = none from I.ok.hd hc) s.heap.objs.size p (Nat.ne_of_lt hp) its.toArray, ⟨⟨_, Heap.get?_push_size _ rfl, rfl, rfl⟩, pl.isList.at fun o e => Heap.get?_push_of_some _ e⟩, ?_, fun h' tk hk => ?_⟩
  · intro i v s' E' Q' hv hq'
    obtain ⟨rfl, _⟩ := bls_get r (by simpa using hv)
    exact wpAny_truthy_bool hq'
  · have e : (List.range its.toArray.size).all (fun i => bs.getD i false) = bs.all id := by
      rw [List.size_toArray, ← hl]; exact all_range bs
    refine ⟨.bl (bs.all id), H, ?_, by rw [e]; rfl, q⟩
    obtain ⟨f0, f1, f2, f3, f4, f5⟩ := I.fpOk (b := s.heap.objs.size) (Nat.le_refl _) (I.hok.fresh (Nat.le_refl _))
    exact I1.turned (t' := tk) (fun b o hb e => hk b o (by simpa using hb) e) f0 f1 f3 f4 f5
theorem call_isT {X : Cx} : CallR X (.builtin "isinstance") (fun xs H Q => ∃ x n t b, xs = [x, .ty n] ∧ TyOf X.K H x t ∧ PySem.W.kitOne X.K t (.type n) = some b ∧ Q (.bl b) H) := by
  intro pins s σ H xs us Q I rv h
  obtain ⟨x, n, t, b, rfl, ty, e, q⟩ := h
  obtain ⟨u, c, rfl, rx, rc⟩ := rv.two
  cases (show c = Value.type n from rc)
  exact isinst_ok I rx ty e fun tk => ⟨.bl b, H, I.tok tk, rfl, q⟩
theorem op_le_str {X : Cx} : OpR X (compareOp .LtE) (fun x y H Q => ∃ i j, x = .str i ∧ y = .str j ∧ Q (.bl (!(decide (j.cps.toList < i.cps.toList)))) H) := by
  intro pins s σ H x y v u Q I rx ry h
  obtain ⟨i, j, rfl, rfl, q⟩ := h
  obtain ⟨t, rfl⟩ := rx
  obtain ⟨t', rfl⟩ := ry
  exact PySem.P.le_str ⟨.bl _, H, I, rfl, q⟩
inductive Alike (K : PySem.W.Frag) (H : Hp) : Nat → V → V → Prop
  | flat {n : Nat} {x : V} (fx : flatV x = true) : Alike K H n x x
  | same {n : Nat} {a : Addr} : Alike K H n (.ref a) (.ref a)
  | lists {n : Nat} {a b : Addr} {xs ys : List V} (hx : SqL K H a xs) (hy : SqL K H b ys) (hl : xs.length = ys.length) (he : ∀ (i : Nat) (x y : V), xs[i]? = some x → ys[i]? = some y → Alike K H n x y) : Alike K H (n + 1) (.ref a) (.ref b)
  | tups {n : Nat} {a b : Addr} {xs ys : List V} (hx : SqT K H a xs) (hy : SqT K H b ys) (hl : xs.length = ys.length) (he : ∀ (i : Nat) (x y : V), xs[i]? = some x → ys[i]? = some y → Alike K H n x y) : Alike K H (n + 1) (.ref a) (.ref b)
theorem eqV_refl {x : V} (h : flatV x = true) : eqV x x = true := by
  cases x <;> simp [eqV] <;> simp [flatV] at h
section
variable {X : Cx} {pins : List (Addr × Obj)} {σ : St} {H : Hp} {s : Shared}
theorem all_true (n : Nat) : (List.range n).all (fun _ => true) = true := by simp
theorem alike_at (I : Inv X pins σ H s) {n : Nat} {x y : V} (h : Alike X.K H n x y) : ∀ {u v : Value} {A : Around}, RelV x u → RelV y v → A.units + n < cLine → SeqAt.EqAt A s u v true := by
  induction h with
  | flat fx =>
    intro u v A ru rv _
    have q := eqAt_V (A := A) (s := s) ru rv fx fx
    rwa [eqV_refl fx] at q
  | same =>
    intro u v A ru rv _
    cases ru
    cases rv
    exact SeqAt.EqAt.same _
  | @lists n a b xs ys hx hy hl he ih =>
    intro u v A ru rv hu
    cases ru
    cases rv
    by_cases ab : a = b
    · subst ab; exact SeqAt.EqAt.same _
    · obtain ⟨its, r, pl, hz⟩ := I.list hx
      obtain ⟨its2, r2, pl2, hz2⟩ := I.list hy
      have e1 := r.length
      have e2 := r2.length
      have q := SeqAt.RcAt.lists (A := A) (s := s) (e := fun _ => true) pl.isList pl2.isList (by rw [List.size_toArray, List.size_toArray]; omega) (by omega) (fun j h1 h2 => by
        rw [List.size_toArray] at h1 h2
        have hjx : xs[j]? = some (xs[j]'(by omega)) := by simp
        have hjy : ys[j]? = some (ys[j]'(by omega)) := by simp
        obtain ⟨u1, q1, ru1⟩ := r.get hjx
        obtain ⟨v1, q2, rv1⟩ := r2.get hjy
        have e3 : its.toArray[j] = u1 := by
          have : its[j]? = some its[j] := by simp
          rw [this] at q1; simpa using q1
        have e4 : its2.toArray[j] = v1 := by
          have : its2[j]? = some its2[j] := by simp
          rw [this] at q2; simpa using q2
        rw [e3, e4]
        exact ih j _ _ hjx hjy ru1 rv1 (by show A.units + 1 + n < cLine; omega))
      rw [all_true] at q
      exact SeqAt.EqAt.of_refs ab q
  | @tups n a b xs ys hx hy hl he ih =>
    intro u v A ru rv hu
    cases ru
    cases rv
    by_cases ab : a = b
    · subst ab; exact SeqAt.EqAt.same _
    · obtain ⟨its, r, pl, hz⟩ := I.tuple hx
      obtain ⟨its2, r2, pl2, hz2⟩ := I.tuple hy
      have e1 := r.length
      have e2 := r2.length
      have q := SeqAt.RcAt.tuples (A := A) (s := s) (e := fun _ => true) (show s.heap.IsTuple a its.toArray from pl) (show s.heap.IsTuple b its2.toArray from pl2) (by omega) (fun j h1 h2 => by
        rw [List.size_toArray] at h1 h2
        have hjx : xs[j]? = some (xs[j]'(by omega)) := by simp
        have hjy : ys[j]? = some (ys[j]'(by omega)) := by simp
        obtain ⟨u1, q1, ru1⟩ := r.get hjx
        obtain ⟨v1, q2, rv1⟩ := r2.get hjy
        have e3 : its.toArray[j] = u1 := by
          have : its[j]? = some its[j] := by simp
          rw [this] at q1; simpa using q1
        have e4 : its2.toArray[j] = v1 := by
          have : its2[j]? = some its2[j] := by simp
          rw [this] at q2; simpa using q2
        rw [e3, e4]
        exact ih j _ _ hjx hjy ru1 rv1 (by show A.units + 1 + n < cLine; omega))
      rw [all_true, Bool.true_and, List.size_toArray, List.size_toArray, ← e1, ← e2, hl, beq_self_eq_true] at q
      exact SeqAt.EqAt.of_refs ab q
end
section
variable {X : Cx}
end
end L2
set_option Elab.async false
set_option linter.all false
namespace SM
open PySem PySem.StrLaws PySem.Builtin PySem.Builtin.Str
end SM
set_option Elab.async false
set_option linter.all false
set_option maxRecDepth 100000
set_option maxHeartbeats 4000000
namespace L2
open PySem PySem.Spec PyProof.Rows
structure Cal (P : Program) (w : World) (K : PySem.W.Frag) (mg : Str → Option Value) (base : Heap) (x : Str) (k : Nat) (ps : List Str) (sp : Sp) : Prop where
  to : ∃ (f : Addr) (fd : FuncData), mg x = some (.ref f) ∧ PySem.W.keepIn K (.ref f) = true ∧ Binds K fd ps [] ∧ FnOk P w K mg base CX0 k f fd ps sp
theorem pe_callC {X : Cx} {x : Str} {k : Nat} {ps : List Str} {sp : Sp} {e : Expr} {es : List Expr} {p pos : Pos} {t : TA} (C : Cal X.prog X.w X.K X.mg X.base x k ps sp) (hr : Room k X.A) (hg : Gl X x) (ha : PA X (e :: es) t)
    (hdb : (x == ("__debug__" : Str)) = false := by decide) (he : starEach (e :: es) X.env = (false, eval e X.env) :: starEach es X.env := by rfl) (hpl : (backTo pos (starEach es X.env)).any (·.1) = false := by rfl) :
    PE X (.Call (.Name x p) (e :: es) [] pos) (tCall sp [] E0 t) := by
  obtain ⟨f, fd, h1, h2, h3, h4⟩ := C.to
  exact pe_call h4 hr hg h1 h2 h3 .nil pass0 ha hdb he hpl
theorem bo_max : bootBuiltins "max" = some (.builtin "max") := by decide +kernel
theorem bo_min : bootBuiltins "min" = some (.builtin "min") := by decide +kernel
theorem bo_all : bootBuiltins "all" = some (.builtin "all") := by decide +kernel
theorem bo_isinstance : bootBuiltins "isinstance" = some (.builtin "isinstance") := by decide +kernel
theorem bo_len : bootBuiltins "len" = some (.builtin "len") := by decide +kernel
theorem bo_int : bootBuiltins "int" = some (.type "int") := by decide +kernel
theorem bo_str : bootBuiltins "str" = some (.type "str") := by decide +kernel
theorem bo_list : bootBuiltins "list" = some (.type "list") := by decide +kernel
theorem bo_tuple : bootBuiltins "tuple" = some (.type "tuple") := by decide +kernel
theorem bo_dict : bootBuiltins "dict" = some (.type "dict") := by decide +kernel
theorem bo_bool : bootBuiltins "bool" = some (.type "bool") := by decide +kernel
def Fre (H : Hp) (l : Addr) : Prop := H l = none
def Kp (M : List Addr) (H H' : Hp) : Prop := ∀ b o, H b = some o → b ∉ M → H' b = some o
theorem Kp.refl {M : List Addr} {H : Hp} : Kp M H H := fun _ _ h _ => h
theorem Kp.trans {M : List Addr} {H H1 H2 : Hp} (a : Kp M H H1) (b : Kp M H1 H2) : Kp M H H2 := fun c o h n => b c o (a c o h n) n
theorem Kp.weak {M M' : List Addr} {H H' : Hp} (k : Kp M H H') (s : ∀ b, b ∈ M → b ∈ M') : Kp M' H H' := fun b o h n => k b o h fun z => n (s b z)
theorem Kp.new {M : List Addr} {H H' : Hp} {l : Addr} {o : HO} (k : Kp M H H') (f : Fre H l) : Kp M H (upd H' l o) := fun b u h n => by
  rw [upd_ne (ne_of_none h f)]; exact k b u h n
theorem Kp.put {M : List Addr} {H H' : Hp} {l : Addr} {o : HO} (k : Kp M H H') (f : l ∈ M) : Kp M H (upd H' l o) := fun b u h n => by
  rw [upd_ne (by intro e; subst e; exact n f)]; exact k b u h n
theorem Kp.at0 {H H' : Hp} (k : Kp [] H H') : Same H H' := fun b o h => k b o h (by simp)
theorem Kp.seq {K : PySem.W.Frag} {H H' : Hp} {a : Addr} {xs : List V} (e : Kp [] H H') (h : SqL K H a xs) : SqL K H' a xs := e.at0.seq h
theorem ne_fre {H : Hp} {a b : Addr} {o : HO} (f : Fre H b) (h : H a = some o) : a ≠ b := ne_of_none h f
theorem nm1 {a b : Addr} (h : a ≠ b) : a ∉ [b] := by simpa using h
theorem atI_at {α : Type} {xs : List α} {i : Int} {v : α} (h0 : 0 ≤ i) (h : xs[i.toNat]? = some v) : atI xs i = some v := by
  have hl : i.toNat < xs.length := (List.getElem?_eq_some_iff.mp h).1
  unfold atI ixN
  rw [if_pos h0, if_pos (by omega)]
  exact h
end L2
namespace L2
open PySem PySem.Spec PyProof.Rows
theorem hu2 {A : Around} {k n : Nat} (hr : Room k A) (h : n ≤ 60 := by decide) : A.units + 1 + n < cLine := by
  have := hr.units
  omega
theorem hu0 {A : Around} {k : Nat} (hr : Room k A) : A.units < cLine := by
  have := hr.units
  omega
theorem kit_same {K : PySem.W.Frag} {t : Value} (h : (t == t) = true := by rfl) : PySem.W.kitOne K t t = some true := by
  unfold PySem.W.kitOne; rw [if_pos h]
end L2
namespace L2
open PySem PySem.Spec PyProof.Rows
theorem if_mid {tb : TS} {D : Ends} {σ : St} {H : Hp} {b : Bool} (Mid : St → Hp → Prop) (h1 : ∀ N : St → Hp → Prop, (∀ σ H, Mid σ H → N σ H) → if b = true then tb { D with nx := N } σ H else N σ H) (h2 : ∀ σ H, Mid σ H → D.nx σ H) :
    if b = true then tb D σ H else tNext D σ H := h1 D.nx h2
end L2
namespace L2
open PySem PySem.Spec PyProof.Rows
theorem comp_str {z : Str} {ix : List (Option Nat)} {g : TG} {tt : TT} {te : TE} {QD : Hp → Prop} {σ : St} {H1 : Hp} {D : Addr} (Pv : Nat → List V → St → Hp → Prop) (h0 : Pv 0 [] (blkSt σ ix) (upd H1 D (.lst [])))
    (hs : ∀ i c ys τ H, z.cps.toList[i]? = some c → Pv i ys τ H → g (.str ⟨#[c]⟩) τ H fun τ' H4 => tt τ' H4 fun b H5 => if b = true then te τ' H5 fun v H6 => H6 D = some (.lst ys) ∧ ys.length < sizeLine ∧ Pv (i + 1) (ys ++ [v]) τ' (upd H6 D (.lst (ys ++ [v]))) else Pv (i + 1) ys τ' H5)
    (hd : ∀ ys τ H, Pv z.length ys τ H → QD H) :
    ∃ W : Nat → Nat → List V → St → Hp → Prop, (∃ m, W 0 m [] (blkSt σ ix) (upd H1 D (.lst []))) ∧ ∀ i m ys τ H2, W i m ys τ H2 →
      ((Its z).stop i H2 ∧ QD H2) ∨ ((Its z).go i H2 ∧ ∃ N : List V → St → Hp → Prop, (∀ ys' τ' H', N ys' τ' H' → ∃ m', m' < m ∧ W (i + 1) m' ys' τ' H') ∧ ∀ x H3, (Its z).yld i H2 x H3 → g x τ H3 fun τ' H4 => tt τ' H4 fun b H5 =>
        if b = true then te τ' H5 fun v H6 => H6 D = some (.lst ys) ∧ ys.length < sizeLine ∧ N (ys ++ [v]) τ' (upd H6 D (.lst (ys ++ [v])))
        else N ys τ' H5) := by
  refine ⟨fun i m ys τ H => m = z.length - i ∧ i ≤ z.length ∧ Pv i ys τ H, ⟨z.length, by simp, Nat.zero_le _, h0⟩, ?_⟩
  rintro i m ys τ H ⟨rfl, hi, p⟩
  by_cases hlt : i < z.length
  · refine .inr ⟨hlt, Pv (i + 1), fun ys' τ' H' p' => ⟨z.length - (i + 1), by omega, rfl, hlt, p'⟩, fun y H' yd => ?_⟩
    obtain ⟨e1, c, e2, e3⟩ := yd
    subst e1 e3
    exact hs i c ys τ _ (by simpa using e2) p
  · have e : i = z.length := by omega
    subst e
    exact .inl ⟨Nat.le_refl _, hd ys τ H p⟩
theorem comp_str0 {z : Str} {ix : List (Option Nat)} {g : TG} {te : TE} {QD : Hp → Prop} {σ : St} {H1 : Hp} {D : Addr} (Pv : Nat → List V → St → Hp → Prop) (h0 : Pv 0 [] (blkSt σ ix) (upd H1 D (.lst [])))
    (hs : ∀ i c ys τ H, z.cps.toList[i]? = some c → Pv i ys τ H → g (.str ⟨#[c]⟩) τ H fun τ' H4 => te τ' H4 fun v H6 => H6 D = some (.lst ys) ∧ ys.length < sizeLine ∧ Pv (i + 1) (ys ++ [v]) τ' (upd H6 D (.lst (ys ++ [v]))))
    (hd : ∀ ys τ H, Pv z.length ys τ H → QD H) :
    ∃ W : Nat → Nat → List V → St → Hp → Prop, (∃ m, W 0 m [] (blkSt σ ix) (upd H1 D (.lst []))) ∧ ∀ i m ys τ H2, W i m ys τ H2 →
      ((Its z).stop i H2 ∧ QD H2) ∨ ((Its z).go i H2 ∧ ∃ N : List V → St → Hp → Prop, (∀ ys' τ' H', N ys' τ' H' → ∃ m', m' < m ∧ W (i + 1) m' ys' τ' H') ∧ ∀ x H3, (Its z).yld i H2 x H3 → g x τ H3 fun τ' H4 => tTrue τ' H4 fun b H5 =>
        if b = true then te τ' H5 fun v H6 => H6 D = some (.lst ys) ∧ ys.length < sizeLine ∧ N (ys ++ [v]) τ' (upd H6 D (.lst (ys ++ [v])))
        else N ys τ' H5) := comp_str (tt := tTrue) Pv h0 hs hd
end L2
namespace L2
open PySem PySem.Spec PyProof.Rows
section
variable {X : Cx} {K : PySem.W.Frag}
theorem op_notIn_seqK (hK : X.K = K := by rfl) : OpR X (compareOp .NotIn) (rIn K true) := by subst hK; exact op_notIn_seq
end
end L2
namespace L2
open PySem PySem.Spec PyProof.Rows
end L2
set_option Elab.async false
set_option linter.all false
set_option maxRecDepth 100000
set_option maxHeartbeats 4000000
namespace Tim
open PySem PyProof.Rows
def gal : Bool → Keyed → Array Keyed → Nat → Nat → Nat → StateT SortSt Sem (Option Nat) := sortPriv% PySem.Builtin.gallop
def mLo : Array Keyed → Array Keyed → StateT SortSt Sem (Array Keyed) := sortPriv% PySem.Builtin.mergeLo
def mHi : Array Keyed → Array Keyed → StateT SortSt Sem (Array Keyed) := sortPriv% PySem.Builtin.mergeHi
def kk (κ : KeyKind) (p : Keyed) : κ.α := (κ.keyOf p.1).getD κ.dflt
def Has (κ : KeyKind) (p : Keyed) : Prop := ∃ a, κ.keyOf p.1 = some a
theorem Has.key {κ : KeyKind} {p : Keyed} (h : Has κ p) : κ.keyOf p.1 = some (kk κ p) := by
  obtain ⟨a, e⟩ := h
  unfold kk; rw [e]; rfl
theorem KK_at {κ : KeyKind} {xs : Array Keyed} {i : Nat} {p : Keyed} (h : xs[i]? = some p) : KK κ xs i = kk κ p := by
  unfold KK kk; rw [h]
def CmpOk (prog : Program) (w : World) (A : Around) (s : Shared) (kd : SortKind) (κ : KeyKind) : Prop :=
  ∀ (E : Value → Shared → Prop) (x y : Value) (a b : κ.α) (Q : Bool → Shared → Prop), κ.keyOf x = some a → κ.keyOf y = some b → Q (κ.blt a b) s → wpAny (model prog w) A (keyLt' kd x y) Q E s
section
variable {prog : Program} {w : World} {A : Around} {E : Value → Shared → Prop} {s : Shared} {kd : SortKind} {κ : KeyKind}
theorem w_lt {st : SortSt} {x y : Keyed} {Q : Option Bool → SortSt → Prop} (C : CmpOk prog w A s kd κ) (hk : kindOf st = kd) (hx : Has κ x) (hy : Has κ y) (h : Q (some (κ.blt (kk κ x) (kk κ y))) st) : wpS (model prog w) A E s (lt' x y) Q st := by
  rw [lt'_eq]
  refine wpS_bind (wpS_get ?_)
  rw [hk]
  exact wpS_bind (wpS_lift (wpAny_attempt (C _ x.1 y.1 _ _ _ hx.key hy.key ⟨rfl, wpS_pure h⟩)))
theorem w_elem {st : SortSt} {arr : Array Keyed} {i : Nat} {p : Keyed} {Q : Keyed → SortSt → Prop} (e : arr[i]? = some p) (h : Q p st) : wpS (model prog w) A E s (elem' arr i) Q st := by
  rw [elem'_eq, e]; exact wpS_pure h
theorem w_ltAt {st : SortSt} {i j : Nat} {Q : Option Bool → SortSt → Prop} (C : CmpOk prog w A s kd κ) (hk : kindOf st = kd) (hi : ∃ p, (arrOf st)[i]? = some p ∧ Has κ p) (hj : ∃ p, (arrOf st)[j]? = some p ∧ Has κ p)
    (h : Q (some (κ.blt (KK κ (arrOf st) i) (KK κ (arrOf st) j))) st) : wpS (model prog w) A E s (ltAt' i j) Q st := by
  obtain ⟨p, e1, h1⟩ := hi
  obtain ⟨q, e2, h2⟩ := hj
  rw [KK_at e1, KK_at e2] at h
  rw [ltAt'_eq]
  exact wpS_bind (wpS_get (wpS_bind (w_elem e1 (wpS_bind (w_elem e2 (w_lt C hk h1 h2 h))))))
def byd (left : Bool) (key : Keyed) (arr : Array Keyed) (base i : Nat) : StateT SortSt Sem (Option Bool) := do
  let x ← elem' arr (base + i)
  if left = true then lt' x key else (do let r ← lt' key x; pure (r.map fun b => !b))
theorem w_byd {st : SortSt} {left : Bool} {key : Keyed} {arr : Array Keyed} {base i : Nat} {Q : Option Bool → SortSt → Prop} (C : CmpOk prog w A s kd κ) (hk : kindOf st = kd) (hkey : Has κ key) (hi : ∃ p, arr[base + i]? = some p ∧ Has κ p)
    (h : Q (some (if left = true then κ.blt (KK κ arr (base + i)) (kk κ key) else !κ.blt (kk κ key) (KK κ arr (base + i)))) st) : wpS (model prog w) A E s (byd left key arr base i) Q st := by
  obtain ⟨p, e, hp⟩ := hi
  rw [KK_at e] at h
  refine wpS_bind (w_elem e ?_)
  cases left with
  | true => exact w_lt C hk hp hkey h
  | false => exact wpS_bind (w_lt C hk hkey hp (wpS_pure h))
structure Gal (n : Nat) (p : Nat → Bool) (k : Nat) : Prop where
  le : k ≤ n
  lo : ∀ i, i < k → p i = true
  hi : ∀ i, k ≤ i → i < n → p i = false
theorem w_gal {st : SortSt} {left : Bool} {key : Keyed} {arr : Array Keyed} {base n hint : Nat} {Q : Option Nat → SortSt → Prop} (p : Nat → Bool) (C : CmpOk prog w A s kd κ) (hk : kindOf st = kd) (hkey : Has κ key)
    (hin : ∀ i, i < n → ∃ q, arr[base + i]? = some q ∧ Has κ q) (hp : ∀ i, i < n → (if left = true then κ.blt (KK κ arr (base + i)) (kk κ key) else !κ.blt (kk κ key) (KK κ arr (base + i))) = p i)
    (mono : ∀ i j, i ≤ j → j < n → p j = true → p i = true) (hh : hint < n) (h : ∀ k, Gal n p k → Q (some k) st) : wpS (model prog w) A E s (gal left key arr base n hint) Q st := by
  have ask : ∀ (i : Nat) {R : Option Bool → SortSt → Prop}, i < n → R (some (p i)) st → wpS (model prog w) A E s (byd left key arr base i) R st := fun i R hi hR =>
    w_byd C hk hkey (hin i hi) (by rw [hp i hi]; exact hR)
  have bin : ∀ (l r : Nat), l ≤ r → r ≤ n → (∀ i, i < l → p i = true) → (∀ i, r ≤ i → i < n → p i = false) → ∀ (F : Nat → Option (Option Nat) × Nat × Nat → StateT SortSt Sem (ForInStep (Option (Option Nat) × Nat × Nat))),
      (∀ x l r, F x (none, l, r) = (if l ≥ r then pure (ForInStep.done (none, l, r)) else do
        let c ← byd left key arr base (l + (r - l) / 2)
        match c with
        | some more => if more = true then pure (ForInStep.yield (none, l + (r - l) / 2 + 1, r)) else pure (ForInStep.yield (none, l, l + (r - l) / 2))
        | _ => pure (ForInStep.done (some none, l, r)))) → ∀ G : Option (Option Nat) × Nat × Nat → StateT SortSt Sem (Option Nat), (∀ l r, G (none, l, r) = pure (some r)) →
      wpS (model prog w) A E s (forIn [:n] ((none, l, r) : Option (Option Nat) × Nat × Nat) F >>= G) Q st := by
    intro l r hlr hrn hl hr F hF G hG
    refine wpS_bind (wpS_mono (wpS_forRange (I := fun x c st' => st' = st ∧ ∃ l r, c = (none, l, r) ∧ l ≤ r ∧ r ≤ n ∧ r - l ≤ n - x ∧ (∀ i, i < l → p i = true) ∧ (∀ i, r ≤ i → i < n → p i = false))
      (Q := fun c st' => st' = st ∧ ∃ r, c = (none, r, r) ∧ r ≤ n ∧ (∀ i, i < r → p i = true) ∧ (∀ i, r ≤ i → i < n → p i = false)) ?step ?fin ⟨rfl, l, r, rfl, hlr, hrn, by omega, hl, hr⟩) ?post)
    case fin =>
      rintro c st' ⟨rfl, l, r, rfl, h1, h2, h3, h4, h5⟩
      have : l = r := by omega
      subst this
      exact ⟨rfl, l, rfl, h2, h4, h5⟩
    case post =>
      rintro c st' ⟨rfl, r, rfl, h1, h2, h3⟩
      rw [hG]
      exact wpS_pure (h r ⟨h1, h2, h3⟩)
    case step =>
      rintro x c st' _ hx ⟨rfl, l, r, rfl, h1, h2, h3, h4, h5⟩
      rw [hF x l r]
      by_cases hge : l ≥ r
      · rw [if_pos hge]
        have : l = r := by omega
        subst this
        exact wpS_pure ⟨rfl, l, rfl, h2, h4, h5⟩
      · rw [if_neg hge]
        have hm : l + (r - l) / 2 < n := by omega
        refine wpS_bind (ask _ hm ?_)
        cases e : p (l + (r - l) / 2) with
        | true =>
          show wpS _ _ _ _ (if true = true then _ else _) _ _
          rw [if_pos rfl]
          exact wpS_pure ⟨rfl, _, _, rfl, by omega, h2, by omega, fun i hi => mono i _ (by omega) hm e, h5⟩
        | false =>
          show wpS _ _ _ _ (if false = true then _ else _) _ _
          rw [if_neg (by decide)]
          refine wpS_pure ⟨rfl, _, _, rfl, by omega, by omega, by omega, h4, fun i h6 h7 => ?_⟩
          cases z : p i with
          | false => rfl
          | true => rw [mono _ i h6 h7 z] at e; cases e
  refine wpS_bind (ask hint hh ?_)
  cases e0 : p hint with
  | true =>
    show wpS _ _ _ _ (if true = true then _ else _) _ _
    rw [if_pos rfl]
    refine wpS_bind (wpS_mono (wpS_forRange (I := fun x c st' => st' = st ∧ ∃ l o, c = (none, l, o) ∧ l < o ∧ hint + l < n ∧ p (hint + l) = true ∧ x + 1 ≤ o)
      (Q := fun c st' => st' = st ∧ ∃ l o, c = (none, l, o) ∧ l < o ∧ hint + l < n ∧ p (hint + l) = true ∧ (n - hint ≤ o ∨ p (hint + o) = false)) ?step ?fin ⟨rfl, 0, 1, rfl, by omega, by omega, e0, by omega⟩) ?post)
    case fin =>
      rintro c st' ⟨rfl, l, o, rfl, h1, h2, h3, h4⟩
      exact ⟨rfl, l, o, rfl, h1, h2, h3, .inl (by omega)⟩
    case step =>
      rintro x c st' _ hx ⟨rfl, l, o, rfl, h1, h2, h3, h4⟩
      dsimp only
      by_cases ho : o ≥ n - hint
      · rw [if_pos ho]
        exact wpS_pure ⟨rfl, l, o, rfl, h1, h2, h3, .inl ho⟩
      · rw [if_neg ho]
        refine wpS_bind (ask (hint + o) (by omega) ?_)
        cases e : p (hint + o) with
        | true =>
          show wpS _ _ _ _ (if false = true then _ else _) _ _
          rw [if_neg (by decide)]
          exact wpS_pure ⟨rfl, o, 2 * o + 1, rfl, by omega, by omega, e, by omega⟩
        | false =>
          show wpS _ _ _ _ (if true = true then _ else _) _ _
          rw [if_pos rfl]
          exact wpS_pure ⟨rfl, l, o, rfl, h1, h2, h3, .inr e⟩
    case post =>
      rintro c st' ⟨rfl, l, o, rfl, h1, h2, h3, h4⟩
      refine bin (hint + l + 1) (hint + min o (n - hint)) ?_ ?_ ?_ ?_ _ (fun x l r => rfl) _ (fun l r => rfl)
      · rcases h4 with z | z
        · omega
        · by_cases ho : o < n - hint
          · omega
          · omega
      · omega
      · intro i hi
        exact mono i (hint + l) (by omega) h2 h3
      · intro i h5 h6
        rcases h4 with z | z
        · omega
        · cases q : p i with
          | false => rfl
          | true =>
            by_cases ho : o < n - hint
            · rw [mono (hint + o) i (by omega) h6 q] at z; cases z
            · omega
  | false =>
    show wpS _ _ _ _ (if false = true then _ else _) _ _
    rw [if_neg (by decide)]
    refine wpS_bind (wpS_mono (wpS_forRange (I := fun x c st' => st' = st ∧ ∃ l o, c = (none, l, o) ∧ l < o ∧ l ≤ hint ∧ p (hint - l) = false ∧ x + 1 ≤ o)
      (Q := fun c st' => st' = st ∧ ∃ l o, c = (none, l, o) ∧ l < o ∧ l ≤ hint ∧ p (hint - l) = false ∧ (hint + 1 ≤ o ∨ (o ≤ hint ∧ p (hint - o) = true))) ?step ?fin ⟨rfl, 0, 1, rfl, by omega, by omega, e0, by omega⟩) ?post)
    case fin =>
      rintro c st' ⟨rfl, l, o, rfl, h1, h2, h3, h4⟩
      exact ⟨rfl, l, o, rfl, h1, h2, h3, .inl (by omega)⟩
    case step =>
      rintro x c st' _ hx ⟨rfl, l, o, rfl, h1, h2, h3, h4⟩
      dsimp only
      by_cases ho : o ≥ hint + 1
      · rw [if_pos ho]
        exact wpS_pure ⟨rfl, l, o, rfl, h1, h2, h3, .inl ho⟩
      · rw [if_neg ho]
        refine wpS_bind (ask (hint - o) (by omega) ?_)
        cases e : p (hint - o) with
        | true =>
          show wpS _ _ _ _ (if true = true then _ else _) _ _
          rw [if_pos rfl]
          exact wpS_pure ⟨rfl, l, o, rfl, h1, h2, h3, .inr ⟨by omega, e⟩⟩
        | false =>
          show wpS _ _ _ _ (if false = true then _ else _) _ _
          rw [if_neg (by decide)]
          exact wpS_pure ⟨rfl, o, 2 * o + 1, rfl, by omega, by omega, e, by omega⟩
    case post =>
      rintro c st' ⟨rfl, l, o, rfl, h1, h2, h3, h4⟩
      refine bin (hint + 1 - min o (hint + 1)) (hint - l) ?_ ?_ ?_ ?_ _ (fun x l r => rfl) _ (fun l r => rfl)
      · omega
      · omega
      · intro i hi
        rcases h4 with z | ⟨z1, z2⟩
        · omega
        · exact mono i (hint - o) (by omega) (by omega) z2
      · intro i h5 h6
        cases q : p i with
        | false => rfl
        | true => rw [mono (hint - l) i h5 h6 q] at h3; cases h3
end
end Tim
set_option Elab.async false
set_option linter.all false
set_option maxRecDepth 100000
set_option maxHeartbeats 4000000
namespace Tim
open PySem PyProof.Rows
section
variable {κ : KeyKind}
def le (κ : KeyKind) (x y : Keyed) : Prop := κ.kle (kk κ x) (kk κ y)
theorem le.trans {x y z : Keyed} (a : le κ x y) (b : le κ y z) : le κ x z := KeyOrd.kle_trans a b
theorem le.refl (x : Keyed) : le κ x x := KeyOrd.kle_refl _
theorem le_of_lt {x y : Keyed} (h : κ.blt (kk κ x) (kk κ y) = true) : le κ x y := KeyOrd.kle_of_klt h
theorem le_of_not {x y : Keyed} (h : κ.blt (kk κ x) (kk κ y) = false) : le κ y x := h
abbrev Srt (κ : KeyKind) (l : List Keyed) : Prop := l.Pairwise (le κ)
theorem drop_at {a : Array Keyed} {i : Nat} {x : Keyed} (e : a[i]? = some x) : a.toList.drop i = x :: a.toList.drop (i + 1) := by
  have e' : a.toList[i]? = some x := by simpa using e
  have hi : i < a.toList.length := (List.getElem?_eq_some_iff.mp e').1
  have hx : a.toList[i] = x := (List.getElem?_eq_some_iff.mp e').2
  rw [← hx, List.getElem_cons_drop]
theorem srt_drop {a : Array Keyed} (h : Srt κ a.toList) (i : Nat) : Srt κ (a.toList.drop i) := h.sublist (List.drop_sublist i _)
theorem srt_head {a : Array Keyed} {i : Nat} {x : Keyed} (h : Srt κ a.toList) (e : a[i]? = some x) : ∀ y ∈ a.toList.drop i, le κ x y := fun y hy => by
  have s := srt_drop h i
  rw [drop_at e] at s hy
  rcases List.mem_cons.mp hy with z | z
  · rw [z]; exact le.refl _
  · exact (List.pairwise_cons.mp s).1 y z
theorem ext_more {a : Array Keyed} {i k : Nat} {x : Keyed} (e : a[i + k]? = some x) : a.extract i (i + (k + 1)) = (a.extract i (i + k)).push x := by
  have hk : i + k < a.size := (Array.getElem?_eq_some_iff.mp e).1
  apply Array.toList_inj.mp
  rw [Array.toList_push, Array.toList_extract, Array.toList_extract, List.extract_eq_drop_take, List.extract_eq_drop_take]
  have e1 : i + (k + 1) - i = k + 1 := by omega
  have e2 : i + k - i = k := by omega
  rw [e1, e2, List.take_succ]
  congr 1
  rw [List.getElem?_drop]
  have : a.toList[i + k]? = some x := by simpa using e
  rw [this]; rfl
structure MI (κ : KeyKind) (a b out : Array Keyed) (ia ib : Nat) : Prop where
  la : ia ≤ a.size
  lb : ib ≤ b.size
  perm : (out.toList ++ (a.toList.drop ia ++ b.toList.drop ib)).Perm (a.toList ++ b.toList)
  srt : Srt κ out.toList
  low : ∀ x ∈ out.toList, ∀ y ∈ a.toList.drop ia ++ b.toList.drop ib, le κ x y
structure Fn (κ : KeyKind) (a b r : Array Keyed) : Prop where
  perm : r.toList.Perm (a.toList ++ b.toList)
  srt : Srt κ r.toList
section
variable {a b out : Array Keyed} {ia ib : Nat}
theorem MI.tB (M : MI κ a b out ia ib) {y : Keyed} (e : b[ib]? = some y) (sb : Srt κ b.toList) (h : ∀ x ∈ a.toList.drop ia, le κ y x) : MI κ a b (out.push y) ia (ib + 1) := by
  have hb : ib < b.size := (Array.getElem?_eq_some_iff.mp e).1
  have d := drop_at e
  have hy : y ∈ b.toList.drop ib := by rw [d]; exact List.mem_cons_self
  refine ⟨M.la, hb, ?_, ?_, ?_⟩
  · refine List.Perm.trans ?_ M.perm
    rw [Array.toList_push, d, List.append_assoc]
    refine List.Perm.append_left _ ?_
    show (y :: (a.toList.drop ia ++ b.toList.drop (ib + 1))).Perm _
    exact (List.perm_middle).symm
  · rw [Array.toList_push]
    refine List.pairwise_append.mpr ⟨M.srt, List.pairwise_singleton _ _, fun x hx z hz => ?_⟩
    have : z = y := by simpa using hz
    subst this
    exact M.low x hx z (List.mem_append_right _ hy)
  · intro x hx z hz
    rw [Array.toList_push] at hx
    have hz' : z ∈ a.toList.drop ia ++ b.toList.drop ib := by
      rcases List.mem_append.mp hz with q | q
      · exact List.mem_append_left _ q
      · exact List.mem_append_right _ (by rw [d]; exact List.mem_cons_of_mem _ q)
    rcases List.mem_append.mp hx with q | q
    · exact M.low x q z hz'
    · have : x = y := by simpa using q
      subst this
      rcases List.mem_append.mp hz' with q | q
      · exact h z q
      · exact srt_head sb e z q
theorem MI.tA (M : MI κ a b out ia ib) {x : Keyed} (e : a[ia]? = some x) (sa : Srt κ a.toList) (h : ∀ y ∈ b.toList.drop ib, le κ x y) : MI κ a b (out.push x) (ia + 1) ib := by
  have ha : ia < a.size := (Array.getElem?_eq_some_iff.mp e).1
  have d := drop_at e
  have hx : x ∈ a.toList.drop ia := by rw [d]; exact List.mem_cons_self
  refine ⟨ha, M.lb, ?_, ?_, ?_⟩
  · refine List.Perm.trans ?_ M.perm
    rw [Array.toList_push, d, List.append_assoc]
    exact List.Perm.refl _
  · rw [Array.toList_push]
    refine List.pairwise_append.mpr ⟨M.srt, List.pairwise_singleton _ _, fun y hy z hz => ?_⟩
    have : z = x := by simpa using hz
    subst this
    exact M.low y hy z (List.mem_append_left _ hx)
  · intro y hy z hz
    rw [Array.toList_push] at hy
    have hz' : z ∈ a.toList.drop ia ++ b.toList.drop ib := by
      rcases List.mem_append.mp hz with q | q
      · exact List.mem_append_left _ (by rw [d]; exact List.mem_cons_of_mem _ q)
      · exact List.mem_append_right _ q
    rcases List.mem_append.mp hy with q | q
    · exact M.low y q z hz'
    · have : y = x := by simpa using q
      subst this
      rcases List.mem_append.mp hz' with q | q
      · exact srt_head sa e z q
      · exact h z q
theorem MI.tAs (M : MI κ a b out ia ib) (sa : Srt κ a.toList) : ∀ k, ia + k ≤ a.size → (∀ i x, i < k → a[ia + i]? = some x → ∀ y ∈ b.toList.drop ib, le κ x y) → MI κ a b (out ++ a.extract ia (ia + k)) (ia + k) ib
  | 0, _, _ => by
    have : a.extract ia (ia + 0) = #[] := by simp; omega
    rw [this]; simpa using M
  | k + 1, hk, h => by
    have ih := MI.tAs M sa k (by omega) fun i x hi => h i x (by omega)
    have e : a[ia + k]? = some (a[ia + k]'(by omega)) := by simp
    rw [ext_more e, Array.append_push]
    exact ih.tA e sa (h k _ (by omega) e)
theorem MI.tBs (M : MI κ a b out ia ib) (sb : Srt κ b.toList) : ∀ k, ib + k ≤ b.size → (∀ i y, i < k → b[ib + i]? = some y → ∀ x ∈ a.toList.drop ia, le κ y x) → MI κ a b (out ++ b.extract ib (ib + k)) ia (ib + k)
  | 0, _, _ => by
    have : b.extract ib (ib + 0) = #[] := by simp; omega
    rw [this]; simpa using M
  | k + 1, hk, h => by
    have ih := MI.tBs M sb k (by omega) fun i x hi => h i x (by omega)
    have e : b[ib + k]? = some (b[ib + k]'(by omega)) := by simp
    rw [ext_more e, Array.append_push]
    exact ih.tB e sb (h k _ (by omega) e)
theorem ext_all (a : Array Keyed) (i : Nat) : (a.extract i a.size).toList = a.toList.drop i := by
  rw [Array.toList_extract, List.extract_eq_drop_take]
  exact List.take_of_length_le (by simp)
theorem MI.doneB (M : MI κ a b out ia ib) (sa : Srt κ a.toList) (h : ib = b.size) : Fn κ a b (out ++ a.extract ia a.size ++ b.extract ib b.size) := by
  have e : b.toList.drop ib = [] := List.drop_eq_nil_of_le (by simp [h])
  have p := M.perm
  have l := M.low
  rw [e, List.append_nil] at p l
  refine ⟨?_, ?_⟩
  · rw [Array.toList_append, Array.toList_append, ext_all, ext_all, e, List.append_nil]; exact p
  · rw [Array.toList_append, Array.toList_append, ext_all, ext_all, e, List.append_nil]
    exact List.pairwise_append.mpr ⟨M.srt, srt_drop sa ia, l⟩
theorem MI.doneA (M : MI κ a b out ia ib) (sb : Srt κ b.toList) (h : ia = a.size) : Fn κ a b (out ++ a.extract ia a.size ++ b.extract ib b.size) := by
  have e : a.toList.drop ia = [] := List.drop_eq_nil_of_le (by simp [h])
  have p := M.perm
  have l := M.low
  rw [e, List.nil_append] at p l
  refine ⟨?_, ?_⟩
  · rw [Array.toList_append, Array.toList_append, ext_all, ext_all, e, List.append_nil]; exact p
  · rw [Array.toList_append, Array.toList_append, ext_all, ext_all, e, List.append_nil]
    exact List.pairwise_append.mpr ⟨M.srt, srt_drop sb ib, l⟩
theorem MI.last (M : MI κ a b out ia ib) (sb : Srt κ b.toList) (h : ia + 1 = a.size) (hl : ∀ z, a[a.size - 1]? = some z → ∀ y ∈ b.toList, le κ y z) : Fn κ a b (out ++ b.extract ib b.size ++ a.extract ia a.size) := by
  have ei : a[ia]? = some (a[ia]'(by omega)) := by simp
  have e : a.toList.drop ia = [a[ia]'(by omega)] := by
    rw [drop_at ei, List.drop_eq_nil_of_le (by simp; omega)]
  have hz := hl (a[ia]'(by omega)) (by rw [show a.size - 1 = ia by omega]; exact ei)
  refine ⟨?_, ?_⟩
  · rw [Array.toList_append, Array.toList_append, ext_all, ext_all, List.append_assoc]
    exact (List.Perm.append_left _ List.perm_append_comm).trans M.perm
  · rw [Array.toList_append, Array.toList_append, ext_all, ext_all, List.append_assoc]
    refine List.pairwise_append.mpr ⟨M.srt, List.pairwise_append.mpr ⟨srt_drop sb ib, srt_drop_one e, fun y hy x hx => ?_⟩, fun x hx y hy => M.low x hx y (List.mem_append.mpr (List.mem_append.mp hy).symm)⟩
    rw [e] at hx
    have : x = a[ia]'(by omega) := by simpa using hx
    subst this
    exact hz y (List.mem_of_mem_drop hy)
where srt_drop_one {l : List Keyed} {x : Keyed} (e : l = [x]) : Srt κ l := by rw [e]; exact List.pairwise_singleton _ _
end
end
structure Like (st st' : SortSt) : Prop where
  kd : kindOf st' = kindOf st
  ar : arrOf st' = arrOf st
  pn : pendingOf st' = pendingOf st
  fl : failedOf st' = failedOf st
theorem Like.refl (st : SortSt) : Like st st := ⟨rfl, rfl, rfl, rfl⟩
theorem Like.trans {a b c : SortSt} (h : Like a b) (k : Like b c) : Like a c := ⟨k.kd.trans h.kd, k.ar.trans h.ar, k.pn.trans h.pn, k.fl.trans h.fl⟩
section
variable {prog : Program} {w : World} {A : Around} {E : Value → Shared → Prop} {s : Shared} {kd : SortKind} {κ : KeyKind} {a b : Array Keyed}
theorem has_at {a : Array Keyed} (ha : ∀ x ∈ a.toList, Has κ x) {i : Nat} (hi : i < a.size) : ∃ p, a[i]? = some p ∧ Has κ p :=
  ⟨a[i], by simp, ha _ (by simp)⟩
theorem w_galA {st : SortSt} {i : Nat} {y : Keyed} {hint : Nat} {Q : Option Nat → SortSt → Prop} (C : CmpOk prog w A s kd κ) (hk : kindOf st = kd) (ha : ∀ x ∈ a.toList, Has κ x) (sa : Srt κ a.toList) (hy : Has κ y) (n : Nat) (hn : i + n ≤ a.size) (hh : hint < n)
    (h : ∀ k, k ≤ n → (∀ j x, j < k → a[i + j]? = some x → le κ x y) → (∀ j x, k ≤ j → j < n → a[i + j]? = some x → κ.blt (kk κ y) (kk κ x) = true) → Q (some k) st) : wpS (model prog w) A E s (gal false y a i n hint) Q st := by
  refine w_gal (κ := κ) (fun j => !κ.blt (kk κ y) (KK κ a (i + j))) C hk hy (fun j hj => has_at ha (by omega)) (fun j hj => rfl) (fun u v huv hv e => ?_) hh fun k G => h k G.le (fun j x hj e => ?_) (fun j x h1 h2 e => ?_)
  · obtain ⟨p, ep, _⟩ := has_at ha (show i + u < a.size by omega)
    obtain ⟨q, eq, _⟩ := has_at ha (show i + v < a.size by omega)
    rw [KK_at eq] at e
    rw [KK_at ep]
    have e : κ.blt (kk κ y) (kk κ q) = false := by simpa using e
    have hpq : le κ p q := srt_head sa ep q (by
      have : a.toList[i + v]? = some q := by simpa using eq
      refine List.mem_of_getElem? (i := v - u) ?_
      rw [List.getElem?_drop, show i + u + (v - u) = i + v by omega]; exact this)
    have : κ.blt (kk κ y) (kk κ p) = false := hpq.trans (le_of_not e)
    simp [this]
  · have := G.lo j hj
    rw [KK_at e] at this
    exact le_of_not (by simpa using this)
  · have := G.hi j h1 h2
    rw [KK_at e] at this
    simpa using this
theorem w_galB {st : SortSt} {i : Nat} {x : Keyed} {hint : Nat} {Q : Option Nat → SortSt → Prop} (C : CmpOk prog w A s kd κ) (hk : kindOf st = kd) (hb : ∀ x ∈ b.toList, Has κ x) (sb : Srt κ b.toList) (hx : Has κ x) (n : Nat) (hn : i + n ≤ b.size) (hh : hint < n)
    (h : ∀ k, k ≤ n → (∀ j y, j < k → b[i + j]? = some y → κ.blt (kk κ y) (kk κ x) = true) → (∀ j y, k ≤ j → j < n → b[i + j]? = some y → le κ x y) → Q (some k) st) : wpS (model prog w) A E s (gal true x b i n hint) Q st := by
  refine w_gal (κ := κ) (fun j => κ.blt (KK κ b (i + j)) (kk κ x)) C hk hx (fun j hj => has_at hb (by omega)) (fun j hj => rfl) (fun u v huv hv e => ?_) hh fun k G => h k G.le (fun j y hj e => ?_) (fun j y h1 h2 e => ?_)
  · obtain ⟨p, ep, _⟩ := has_at hb (show i + u < b.size by omega)
    obtain ⟨q, eq, _⟩ := has_at hb (show i + v < b.size by omega)
    rw [KK_at eq] at e
    rw [KK_at ep]
    have hpq : le κ p q := srt_head sb ep q (by
      have : b.toList[i + v]? = some q := by simpa using eq
      refine List.mem_of_getElem? (i := v - u) ?_
      rw [List.getElem?_drop, show i + u + (v - u) = i + v by omega]; exact this)
    exact KeyOrd.klt_of_kle_of_klt hpq e
  · have := G.lo j hj
    rw [KK_at e] at this; exact this
  · have := G.hi j h1 h2
    rw [KK_at e] at this
    exact le_of_not this
abbrev Cell := Option (Array Keyed) × Array Keyed × Nat × Nat × Nat × Nat × Nat
def tA (a b o : Array Keyed) (i j g p q : Nat) : StateT SortSt Sem (ForInStep Cell) := do
  let x ← elem' a i
  if (i + 1 + 1 == a.size) = true then pure (.done (some (o.push x ++ b.extract j b.size ++ a.extract (i + 1) a.size), o.push x, i + 1, j, g, p, q))
  else if (decide (p < 7) && decide (q < 7)) = true then pure (.done (none, o.push x, i + 1, j, g, p, q))
  else pure (.yield (none, o.push x, i + 1, j, g, p, q))
def tB (a b o : Array Keyed) (i j g p q : Nat) : StateT SortSt Sem (ForInStep Cell) := do
  let y ← elem' b j
  if (j + 1 == b.size) = true then pure (.done (some (o.push y ++ a.extract i a.size ++ b.extract (j + 1) b.size), o.push y, i, j + 1, g, p, q))
  else do
    let x ← elem' a i
    let r ← gal true x b (j + 1) (b.size - (j + 1)) 0
    match r with
    | some k =>
      if k > 0 then
        if (j + 1 + k == b.size) = true then pure (.done (some (o.push y ++ b.extract (j + 1) (j + 1 + k) ++ a.extract i a.size ++ b.extract (j + 1 + k) b.size), o.push y ++ b.extract (j + 1) (j + 1 + k), i, j + 1 + k, g, p, k))
        else tA a b (o.push y ++ b.extract (j + 1) (j + 1 + k)) i (j + 1 + k) g p k
      else tA a b (o.push y) i (j + 1) g p k
    | _ => pure (.done (some (o.push y ++ a.extract i a.size ++ b.extract (j + 1) b.size), o.push y, i, j + 1, g, p, q))
def tT (a b o : Array Keyed) (i j g p q : Nat) : StateT SortSt Sem (ForInStep Cell) := do
  let y ← elem' b j
  let r ← gal false y a i (a.size - i) 0
  match r with
  | some k =>
    if k > 0 then
      if (i + k + 1 == a.size) = true then pure (.done (some (o ++ a.extract i (i + k) ++ b.extract j b.size ++ a.extract (i + k) a.size), o ++ a.extract i (i + k), i + k, j, g, k, q))
      else if (i + k == a.size) = true then pure (.done (some (o ++ a.extract i (i + k) ++ a.extract (i + k) a.size ++ b.extract j b.size), o ++ a.extract i (i + k), i + k, j, g, k, q))
      else tB a b (o ++ a.extract i (i + k)) (i + k) j g k q
    else tB a b o i j g k q
  | _ => pure (.done (some (o ++ a.extract i a.size ++ b.extract j b.size), o, i, j, g, p, q))
def TO (κ : KeyKind) (a b : Array Keyed) (m : Nat) (st3 : SortSt) (R : ForInStep Cell → SortSt → Prop) : Prop :=
  (∀ r o i j g p q, Fn κ a b r → R (.done (some r, o, i, j, g, p, q)) st3) ∧ (∀ o i j g p q, MI κ a b o i j → i + 1 < a.size → j < b.size → m ≤ i + j → R (.done (none, o, i, j, g, p, q)) st3 ∧ R (.yield (none, o, i, j, g, p, q)) st3)
theorem w_tA {st3 : SortSt} {o : Array Keyed} {i j g p q m : Nat} {R : ForInStep Cell → SortSt → Prop} (ha : ∀ x ∈ a.toList, Has κ x) (sa : Srt κ a.toList) (sb : Srt κ b.toList) (hl : ∀ z, a[a.size - 1]? = some z → ∀ y ∈ b.toList, le κ y z)
    (M : MI κ a b o i j) (hi : i + 1 < a.size) (hj : j < b.size) (hm : m ≤ i + j) (hx : ∀ x, a[i]? = some x → ∀ y ∈ b.toList.drop j, le κ x y) (hR : TO κ a b m st3 R) : wpS (model prog w) A E s (tA a b o i j g p q) R st3 := by
  obtain ⟨x, ex, _⟩ := has_at ha (show i < a.size by omega)
  have M2 := M.tA ex sa (hx x ex)
  refine wpS_bind (w_elem ex ?_)
  by_cases d1 : (i + 1 + 1 == a.size) = true
  · rw [if_pos d1]
    exact wpS_pure (hR.1 _ _ _ _ _ _ _ (M2.last sb (by simpa using d1) hl))
  · have d1' : i + 1 + 1 < a.size := by
      have : ¬ i + 1 + 1 = a.size := by simpa using d1
      omega
    rw [if_neg d1]
    have q := hR.2 _ _ _ g p q M2 d1' hj (by omega)
    split
    · exact wpS_pure q.1
    · exact wpS_pure q.2
theorem w_tB {st3 : SortSt} {o : Array Keyed} {i j g p q m : Nat} {R : ForInStep Cell → SortSt → Prop} (C : CmpOk prog w A s kd κ) (hk : kindOf st3 = kd) (ha : ∀ x ∈ a.toList, Has κ x) (hb : ∀ x ∈ b.toList, Has κ x) (sa : Srt κ a.toList) (sb : Srt κ b.toList)
    (hl : ∀ z, a[a.size - 1]? = some z → ∀ y ∈ b.toList, le κ y z) (M : MI κ a b o i j) (hi : i + 1 < a.size) (hj : j < b.size) (hm : m ≤ i + j) (hy : ∀ x y, a[i]? = some x → b[j]? = some y → le κ y x) (hR : TO κ a b m st3 R) :
    wpS (model prog w) A E s (tB a b o i j g p q) R st3 := by
  obtain ⟨y, ey, hyy⟩ := has_at hb hj
  obtain ⟨x, ex, hxx⟩ := has_at ha (show i < a.size by omega)
  have M2 := M.tB ey sb fun z hz => (hy x y ex ey).trans (srt_head sa ex z hz)
  refine wpS_bind (w_elem ey ?_)
  by_cases d1 : (j + 1 == b.size) = true
  · rw [if_pos d1]
    exact wpS_pure (hR.1 _ _ _ _ _ _ _ (M2.doneB sa (by simpa using d1)))
  · have d1' : j + 1 < b.size := by
      have : ¬ j + 1 = b.size := by simpa using d1
      omega
    rw [if_neg d1]
    refine wpS_bind (w_elem ex (wpS_bind (w_galB C hk hb sb hxx (b.size - (j + 1)) (by omega) (by omega) fun k k1 k2 k3 => ?_)))
    have M3 := M2.tBs sb k (by omega) fun t z ht ez u hu => (le_of_lt (k2 t z ht ez)).trans (srt_head sa ex u hu)
    show wpS _ _ _ _ (if k > 0 then _ else _) _ _
    by_cases hk0 : k > 0
    · rw [if_pos hk0]
      by_cases d2 : (j + 1 + k == b.size) = true
      · rw [if_pos d2]
        exact wpS_pure (hR.1 _ _ _ _ _ _ _ (M3.doneB sa (by simpa using d2)))
      · rw [if_neg d2]
        have d2' : j + 1 + k < b.size := by
          have : ¬ j + 1 + k = b.size := by simpa using d2
          omega
        refine w_tA ha sa sb hl M3 hi d2' (by omega) (fun x' ex' u hu => ?_) hR
        rw [ex] at ex'
        cases ex'
        obtain ⟨v, ev, _⟩ := has_at hb d2'
        exact (k3 k v (Nat.le_refl _) (by omega) ev).trans (srt_head sb ev u hu)
    · rw [if_neg hk0]
      refine w_tA ha sa sb hl M2 hi d1' (by omega) (fun x' ex' u hu => ?_) hR
      rw [ex] at ex'
      cases ex'
      obtain ⟨v, ev, _⟩ := has_at hb d1'
      exact (k3 0 v (by omega) (by omega) ev).trans (srt_head sb ev u hu)
theorem w_tT {st3 : SortSt} {o : Array Keyed} {i j g p q m : Nat} {R : ForInStep Cell → SortSt → Prop} (C : CmpOk prog w A s kd κ) (hk : kindOf st3 = kd) (ha : ∀ x ∈ a.toList, Has κ x) (hb : ∀ x ∈ b.toList, Has κ x) (sa : Srt κ a.toList) (sb : Srt κ b.toList)
    (hl : ∀ z, a[a.size - 1]? = some z → ∀ y ∈ b.toList, le κ y z) (M : MI κ a b o i j) (hi : i + 1 < a.size) (hj : j < b.size) (hm : m ≤ i + j) (hR : TO κ a b m st3 R) : wpS (model prog w) A E s (tT a b o i j g p q) R st3 := by
  obtain ⟨y, ey, hyy⟩ := has_at hb hj
  refine wpS_bind (w_elem ey (wpS_bind (w_galA C hk ha sa hyy (a.size - i) (by omega) (by omega) fun k k1 k2 k3 => ?_)))
  have M3 := M.tAs sa k (by omega) fun t z ht ez u hu => (k2 t z ht ez).trans (srt_head sb ey u hu)
  show wpS _ _ _ _ (if k > 0 then _ else _) _ _
  by_cases hk0 : k > 0
  · rw [if_pos hk0]
    by_cases d1 : (i + k + 1 == a.size) = true
    · rw [if_pos d1]
      exact wpS_pure (hR.1 _ _ _ _ _ _ _ (M3.last sb (by simpa using d1) hl))
    · rw [if_neg d1]
      by_cases d2 : (i + k == a.size) = true
      · rw [if_pos d2]
        exact wpS_pure (hR.1 _ _ _ _ _ _ _ (M3.doneA sb (by simpa using d2)))
      · rw [if_neg d2]
        have d1' : ¬ i + k + 1 = a.size := by simpa using d1
        have d2' : ¬ i + k = a.size := by simpa using d2
        refine w_tB C hk ha hb sa sb hl M3 (by omega) hj (by omega) (fun x y' ex ey' => ?_) hR
        rw [ey] at ey'
        cases ey'
        exact le_of_lt (k3 k x (Nat.le_refl _) (by omega) ex)
  · rw [if_neg hk0]
    refine w_tB C hk ha hb sa sb hl M hi hj hm (fun x y' ex ey' => ?_) hR
    rw [ey] at ey'
    cases ey'
    exact le_of_lt (k3 0 x (by omega) (by omega) (by simpa using ex))
theorem w_mLo {st : SortSt} {Q : Array Keyed → SortSt → Prop} (C : CmpOk prog w A s kd κ) (hk : kindOf st = kd) (ha : ∀ x ∈ a.toList, Has κ x) (hb : ∀ x ∈ b.toList, Has κ x) (sa : Srt κ a.toList) (sb : Srt κ b.toList) (na : 1 ≤ a.size) (nb : 1 ≤ b.size)
    (h0 : ∀ x y, a[0]? = some x → b[0]? = some y → le κ y x) (hl : ∀ z, a[a.size - 1]? = some z → ∀ y ∈ b.toList, le κ y z)
    (h : ∀ r st', Like st st' → Fn κ a b r → Q r st') : wpS (model prog w) A E s (mLo a b) Q st := by
  refine wpS_bind (wpS_lift (wpAny_rule ⟨rfl, ?_⟩))
  obtain ⟨y0, ey, hy⟩ := has_at hb (show 0 < b.size by omega)
  obtain ⟨x0, ex, hx⟩ := has_at ha (show 0 < a.size by omega)
  refine wpS_bind (w_elem ey ?_)
  have M0 : MI κ a b #[] 0 0 := ⟨by omega, by omega, by simp, by simp, by simp⟩
  have M1 : MI κ a b #[y0] 0 1 := by
    have := M0.tB ey sb fun x hx => (h0 x0 y0 ex ey).trans (srt_head sa ex x hx)
    simpa using this
  show wpS _ _ _ _ (if (1 == b.size) = true then _ else _) _ _
  by_cases c1 : (1 == b.size) = true
  · rw [if_pos c1]
    exact wpS_pure (h _ _ (Like.refl _) (M1.doneB sa (by simpa using c1)))
  rw [if_neg c1]
  show wpS _ _ _ _ (if (0 + 1 == a.size) = true then _ else _) _ _
  by_cases c2 : (0 + 1 == a.size) = true
  · rw [if_pos c2]
    exact wpS_pure (h _ _ (Like.refl _) (M1.last sb (by simpa using c2) hl))
  rw [if_neg c2]
  have c1' : 1 < b.size := by
    have : ¬ 1 = b.size := by simpa using c1
    omega
  have c2' : 0 + 1 < a.size := by
    have : ¬ 0 + 1 = a.size := by simpa using c2
    omega
  refine wpS_bind (wpS_get ?_)
  refine wpS_bind (wpS_mono (wpS_forRange (I := fun x c st' => Like st st' ∧ ∃ out ia ib g, c = (none, out, ia, ib, g) ∧ MI κ a b out ia ib ∧ ia + 1 < a.size ∧ ib < b.size ∧ x + 1 ≤ ia + ib)
    (Q := fun c st' => Like st st' ∧ ∃ r out ia ib g, c = (some r, out, ia, ib, g) ∧ Fn κ a b r) ?step ?fin ⟨Like.refl _, _, _, _, _, rfl, M1, c2', c1', by omega⟩) ?post)
  case fin =>
    rintro c st' ⟨_, out, ia, ib, g, rfl, M, h1, h2, h3⟩
    omega
  case post =>
    rintro c st' ⟨L, r, out, ia, ib, g, rfl, F⟩
    exact wpS_pure (h r st' L F)
  case step =>
    rintro x c st1 _ hx1 ⟨L1, out0, ia0, ib0, g0, rfl, M, u1, u2, u3⟩
    have hk1 : kindOf st1 = kd := L1.kd.trans hk
    dsimp only
    refine wpS_bind (wpS_mono (wpS_forRange (I := fun x c st' => st' = st1 ∧ ∃ out ia ib p q, c = (none, out, ia, ib, p, q) ∧ MI κ a b out ia ib ∧ ia + 1 < a.size ∧ ib < b.size ∧ ia0 + ib0 + x ≤ ia + ib)
      (Q := fun c st' => st' = st1 ∧ ((∃ r out ia ib p q, c = (some r, out, ia, ib, p, q) ∧ Fn κ a b r) ∨ ∃ out ia ib p q, c = (none, out, ia, ib, p, q) ∧ MI κ a b out ia ib ∧ ia + 1 < a.size ∧ ib < b.size ∧ ia0 + ib0 + 1 ≤ ia + ib)) ?step1 ?fin1
      ⟨rfl, _, _, _, _, _, rfl, M, u1, u2, by omega⟩) ?post1)
    case fin1 =>
      rintro c st' ⟨rfl, out, ia, ib, p, q, rfl, M', v1, v2, v3⟩
      exact ⟨rfl, .inr ⟨out, ia, ib, p, q, rfl, M', v1, v2, by omega⟩⟩
    case step1 =>
      rintro x2 c st' _ hx2 ⟨rfl, out, ia, ib, p, q, rfl, M', v1, v2, v3⟩
      obtain ⟨yb, eb, hyb⟩ := has_at hb v2
      obtain ⟨xa, ea, hxa⟩ := has_at ha (show ia < a.size by omega)
      dsimp only
      refine wpS_bind (w_elem eb (wpS_bind (w_elem ea (wpS_bind (w_lt C hk1 hyb hxa ?_)))))
      cases e : κ.blt (kk κ yb) (kk κ xa) with
      | true =>
        show wpS _ _ _ _ (if true = true then _ else _) _ _
        rw [if_pos rfl]
        refine wpS_bind (w_elem eb ?_)
        have M2 := M'.tB eb sb fun x hx => (le_of_lt e).trans (srt_head sa ea x hx)
        by_cases d1 : (ib + 1 == b.size) = true
        · rw [if_pos d1]
          exact wpS_pure ⟨rfl, .inl ⟨_, _, _, _, _, _, rfl, M2.doneB sa (by simpa using d1)⟩⟩
        · have d1' : ib + 1 < b.size := by
            have : ¬ ib + 1 = b.size := by simpa using d1
            omega
          rw [if_neg d1]
          by_cases d2 : q + 1 ≥ g0
          · rw [if_pos d2]
            exact wpS_pure ⟨rfl, .inr ⟨_, _, _, _, _, rfl, M2, v1, d1', by omega⟩⟩
          · rw [if_neg d2]
            exact wpS_pure ⟨rfl, _, _, _, _, _, rfl, M2, v1, d1', by omega⟩
      | false =>
        show wpS _ _ _ _ (if false = true then _ else _) _ _
        rw [if_neg (by decide)]
        refine wpS_bind (w_elem ea ?_)
        have M2 := M'.tA ea sa fun y hy => (le_of_not e).trans (srt_head sb eb y hy)
        by_cases d1 : (ia + 1 + 1 == a.size) = true
        · rw [if_pos d1]
          exact wpS_pure ⟨rfl, .inl ⟨_, _, _, _, _, _, rfl, M2.last sb (by simpa using d1) hl⟩⟩
        · have d1' : ia + 1 + 1 < a.size := by
            have : ¬ ia + 1 + 1 = a.size := by simpa using d1
            omega
          rw [if_neg d1]
          by_cases d2 : p + 1 ≥ g0
          · rw [if_pos d2]
            exact wpS_pure ⟨rfl, .inr ⟨_, _, _, _, _, rfl, M2, d1', v2, by omega⟩⟩
          · rw [if_neg d2]
            exact wpS_pure ⟨rfl, _, _, _, _, _, rfl, M2, d1', v2, by omega⟩
    case post1 =>
      rintro c st' ⟨rfl, ⟨r, out, ia, ib, p, q, rfl, F⟩ | ⟨out, ia, ib, p, q, rfl, M', v1, v2, v3⟩⟩
      · exact wpS_pure ⟨L1, _, _, _, _, _, rfl, F⟩
      · dsimp only
        refine wpS_bind (wpS_lift (wpAny_rule ⟨rfl, ?_⟩))
        refine wpS_bind (wpS_mono (wpS_forRange (I := fun x c st' => Like st st' ∧ ∃ out ia ib g p q, c = (none, out, ia, ib, g, p, q) ∧ MI κ a b out ia ib ∧ ia + 1 < a.size ∧ ib < b.size ∧ ia0 + ib0 + 1 ≤ ia + ib)
          (Q := fun c st' => Like st st' ∧ ((∃ r out ia ib g p q, c = (some r, out, ia, ib, g, p, q) ∧ Fn κ a b r) ∨ ∃ out ia ib g p q, c = (none, out, ia, ib, g, p, q) ∧ MI κ a b out ia ib ∧ ia + 1 < a.size ∧ ib < b.size ∧ ia0 + ib0 + 1 ≤ ia + ib)) ?step2 ?fin2
          ⟨L1, _, _, _, _, _, _, rfl, M', v1, v2, v3⟩) ?post2)
        case fin2 =>
          rintro c st' ⟨L, out, ia, ib, g, p, q, rfl, M', v⟩
          exact ⟨L, .inr ⟨_, _, _, _, _, _, rfl, M', v⟩⟩
        case post2 =>
          rintro c st' ⟨L, ⟨r, out, ia, ib, g, p, q, rfl, F⟩ | ⟨out, ia, ib, g, p, q, rfl, M', v1, v2, v3⟩⟩
          · exact wpS_pure ⟨L, _, _, _, _, _, rfl, F⟩
          · dsimp only
            refine wpS_bind (wpS_modify (wpS_pure ⟨L.trans ⟨rfl, rfl, rfl, rfl⟩, _, _, _, _, rfl, M', v1, v2, by omega⟩))
        case step2 =>
          rintro x3 c st2 _ hx3 ⟨L2, out, ia, ib, g, p, q, rfl, M2, w1, w2, w3⟩
          dsimp only
          have run : ∀ g' : Nat, wpS (model prog w) A E s (tT a b out ia ib g' p q) (fun r st' => match r with
              | .done c' => Like st st' ∧ ((∃ r out ia ib g p q, c' = (some r, out, ia, ib, g, p, q) ∧ Fn κ a b r) ∨ ∃ out ia ib g p q, c' = (none, out, ia, ib, g, p, q) ∧ MI κ a b out ia ib ∧ ia + 1 < a.size ∧ ib < b.size ∧ ia0 + ib0 + 1 ≤ ia + ib)
              | .yield c' => Like st st' ∧ ∃ out ia ib g p q, c' = (none, out, ia, ib, g, p, q) ∧ MI κ a b out ia ib ∧ ia + 1 < a.size ∧ ib < b.size ∧ ia0 + ib0 + 1 ≤ ia + ib) (SortSt.mk' (kindOf st2) (arrOf st2) (pendingOf st2) g' (failedOf st2)) := fun g' => by
            have L3 : Like st (SortSt.mk' (kindOf st2) (arrOf st2) (pendingOf st2) g' (failedOf st2)) := L2.trans ⟨rfl, rfl, rfl, rfl⟩
            refine w_tT C (L3.kd.trans hk) ha hb sa sb hl M2 w1 w2 w3 ⟨fun r o i j g p q F => ⟨L3, .inl ⟨_, _, _, _, _, _, _, rfl, F⟩⟩, fun o i j g p q M' h1 h2 h3 => ⟨⟨L3, .inr ⟨_, _, _, _, _, _, rfl, M', h1, h2, h3⟩⟩, ⟨L3, _, _, _, _, _, _, rfl, M', h1, h2, h3⟩⟩⟩
          by_cases d0 : g > 1
          · rw [if_pos d0]
            refine wpS_bind (wpS_modify ?_)
            refine wpS_mono (m := tT a b out ia ib (g - 1) p q) (run (g - 1)) fun r st' hr => ?_
            cases r <;> exact hr
          · rw [if_neg d0]
            refine wpS_bind (wpS_modify ?_)
            refine wpS_mono (m := tT a b out ia ib (g) p q) (run (g)) fun r st' hr => ?_
            cases r <;> exact hr
end
end Tim
set_option Elab.async false
set_option linter.all false
set_option maxRecDepth 100000
set_option maxHeartbeats 4000000
namespace Tim
open PySem PyProof.Rows
section
variable {κ : KeyKind}
theorem take_at {a : Array Keyed} {n : Nat} {x : Keyed} (e : a[n]? = some x) : a.toList.take (n + 1) = a.toList.take n ++ [x] := by
  have e' : a.toList[n]? = some x := by simpa using e
  rw [List.take_succ, e']; rfl
theorem srt_take {a : Array Keyed} (h : Srt κ a.toList) (i : Nat) : Srt κ (a.toList.take i) := h.sublist (List.take_sublist i _)
theorem srt_last {a : Array Keyed} {n : Nat} {x : Keyed} (h : Srt κ a.toList) (e : a[n]? = some x) : ∀ y ∈ a.toList.take (n + 1), le κ y x := fun y hy => by
  have s := srt_take h (n + 1)
  rw [take_at e] at s hy
  rcases List.mem_append.mp hy with z | z
  · exact (List.pairwise_append.mp s).2.2 y z x (by simp)
  · have : y = x := by simpa using z
    rw [this]; exact le.refl _
structure MH (κ : KeyKind) (a b out : Array Keyed) (na nb : Nat) : Prop where
  la : na ≤ a.size
  lb : nb ≤ b.size
  perm : ((a.toList.take na ++ b.toList.take nb) ++ out.toList.reverse).Perm (a.toList ++ b.toList)
  srt : Srt κ out.toList.reverse
  low : ∀ x ∈ a.toList.take na ++ b.toList.take nb, ∀ y ∈ out.toList.reverse, le κ x y
section
variable {a b out : Array Keyed} {na nb : Nat}
theorem MH.tA (M : MH κ a b out (na + 1) nb) {x : Keyed} (e : a[na]? = some x) (sa : Srt κ a.toList) (h : ∀ y ∈ b.toList.take nb, le κ y x) : MH κ a b (out.push x) na nb := by
  have d := take_at e
  have hx : x ∈ a.toList.take (na + 1) := by rw [d]; simp
  have er : (out.push x).toList.reverse = x :: out.toList.reverse := by simp
  refine ⟨Nat.le_of_succ_le M.la, M.lb, ?_, ?_, ?_⟩
  · refine List.Perm.trans ?_ M.perm
    rw [er, d, List.append_assoc, List.append_assoc, List.append_assoc]
    refine List.Perm.append_left _ ?_
    show (b.toList.take nb ++ x :: out.toList.reverse).Perm (x :: (b.toList.take nb ++ out.toList.reverse))
    exact List.perm_middle
  · rw [er]
    exact List.pairwise_cons.mpr ⟨fun y hy => M.low x (List.mem_append_left _ hx) y hy, M.srt⟩
  · intro z hz y hy
    rw [er] at hy
    have hz' : z ∈ a.toList.take (na + 1) ++ b.toList.take nb := by
      rcases List.mem_append.mp hz with q | q
      · exact List.mem_append_left _ (by rw [d]; exact List.mem_append_left _ q)
      · exact List.mem_append_right _ q
    rcases List.mem_cons.mp hy with q | q
    · rw [q]
      rcases List.mem_append.mp hz' with q | q
      · exact srt_last sa e z q
      · exact h z q
    · exact M.low z hz' y q
theorem MH.tB (M : MH κ a b out na (nb + 1)) {x : Keyed} (e : b[nb]? = some x) (sb : Srt κ b.toList) (h : ∀ y ∈ a.toList.take na, le κ y x) : MH κ a b (out.push x) na nb := by
  have d := take_at e
  have hx : x ∈ b.toList.take (nb + 1) := by rw [d]; simp
  have er : (out.push x).toList.reverse = x :: out.toList.reverse := by simp
  refine ⟨M.la, Nat.le_of_succ_le M.lb, ?_, ?_, ?_⟩
  · refine List.Perm.trans ?_ M.perm
    rw [er, d, List.append_assoc, List.append_assoc, List.append_assoc]
    exact List.Perm.refl _
  · rw [er]
    exact List.pairwise_cons.mpr ⟨fun y hy => M.low x (List.mem_append_right _ hx) y hy, M.srt⟩
  · intro z hz y hy
    rw [er] at hy
    have hz' : z ∈ a.toList.take na ++ b.toList.take (nb + 1) := by
      rcases List.mem_append.mp hz with q | q
      · exact List.mem_append_left _ q
      · exact List.mem_append_right _ (by rw [d]; exact List.mem_append_left _ q)
    rcases List.mem_cons.mp hy with q | q
    · rw [q]
      rcases List.mem_append.mp hz' with q | q
      · exact h z q
      · exact srt_last sb e z q
    · exact M.low z hz' y q
theorem ext_rev {a : Array Keyed} {k n : Nat} {x : Keyed} (e : a[n]? = some x) (hk : k ≤ n) (o : Array Keyed) : o ++ (a.extract k (n + 1)).reverse = o.push x ++ (a.extract k n).reverse := by
  obtain ⟨d, rfl⟩ : ∃ d, n = k + d := ⟨n - k, by omega⟩
  rw [show k + d + 1 = k + (d + 1) by omega, ext_more e]
  apply Array.toList_inj.mp
  simp
theorem MH.tAs (sa : Srt κ a.toList) (k : Nat) : ∀ (n : Nat) (out : Array Keyed), k ≤ n → MH κ a b out n nb → (∀ j x, k ≤ j → j < n → a[j]? = some x → ∀ y ∈ b.toList.take nb, le κ y x) → MH κ a b (out ++ (a.extract k n).reverse) k nb
  | 0, out, hk, M, _ => by
    have : k = 0 := by omega
    subst this
    have e : a.extract 0 0 = #[] := by simp
    rw [e]; simpa using M
  | n + 1, out, hk, M, h => by
    by_cases hkn : k = n + 1
    · subst hkn
      have e : a.extract (n + 1) (n + 1) = #[] := by simp; omega
      rw [e]; simpa using M
    · have e : a[n]? = some (a[n]'(by have := M.la; omega)) := by simp
      rw [ext_rev e (by omega)]
      exact MH.tAs sa k n _ (by omega) (M.tA e sa (h n _ (by omega) (by omega) e)) fun j x h1 h2 => h j x h1 (by omega)
theorem MH.tBs (sb : Srt κ b.toList) (k : Nat) : ∀ (n : Nat) (out : Array Keyed), k ≤ n → MH κ a b out na n → (∀ j x, k ≤ j → j < n → b[j]? = some x → ∀ y ∈ a.toList.take na, le κ y x) → MH κ a b (out ++ (b.extract k n).reverse) na k
  | 0, out, hk, M, _ => by
    have : k = 0 := by omega
    subst this
    have e : b.extract 0 0 = #[] := by simp
    rw [e]; simpa using M
  | n + 1, out, hk, M, h => by
    by_cases hkn : k = n + 1
    · subst hkn
      have e : b.extract (n + 1) (n + 1) = #[] := by simp; omega
      rw [e]; simpa using M
    · have e : b[n]? = some (b[n]'(by have := M.lb; omega)) := by simp
      rw [ext_rev e (by omega)]
      exact MH.tBs sb k n _ (by omega) (M.tB e sb (h n _ (by omega) (by omega) e)) fun j x h1 h2 => h j x h1 (by omega)
theorem ext_take (a : Array Keyed) (n : Nat) : (a.extract 0 n).toList = a.toList.take n := by
  rw [Array.toList_extract, List.extract_eq_drop_take]; simp
theorem MH.doneA (M : MH κ a b out na nb) (sb : Srt κ b.toList) (h : na = 0) : Fn κ a b (a.extract 0 na ++ b.extract 0 nb ++ out.reverse) := by
  subst h
  have p := M.perm
  have l := M.low
  rw [List.take_zero, List.nil_append] at p l
  refine ⟨?_, ?_⟩
  · rw [Array.toList_append, Array.toList_append, ext_take, ext_take, List.take_zero, List.nil_append, Array.toList_reverse]; exact p
  · rw [Array.toList_append, Array.toList_append, ext_take, ext_take, List.take_zero, List.nil_append, Array.toList_reverse]
    exact List.pairwise_append.mpr ⟨srt_take sb nb, M.srt, l⟩
theorem MH.doneB (M : MH κ a b out na nb) (sa : Srt κ a.toList) (h : nb = 0) : Fn κ a b (a.extract 0 na ++ b.extract 0 nb ++ out.reverse) := by
  subst h
  have p := M.perm
  have l := M.low
  rw [List.take_zero, List.append_nil] at p l
  refine ⟨?_, ?_⟩
  · rw [Array.toList_append, Array.toList_append, ext_take, ext_take, List.take_zero, List.append_nil, Array.toList_reverse]; exact p
  · rw [Array.toList_append, Array.toList_append, ext_take, ext_take, List.take_zero, List.append_nil, Array.toList_reverse]
    exact List.pairwise_append.mpr ⟨srt_take sa na, M.srt, l⟩
theorem MH.first (M : MH κ a b out na nb) (sa : Srt κ a.toList) (h : nb = 1) (hf : ∀ z, b[0]? = some z → ∀ x ∈ a.toList, le κ z x) : Fn κ a b (b.extract 0 nb ++ a.extract 0 na ++ out.reverse) := by
  subst h
  have hb := M.lb
  have ei : b[0]? = some (b[0]'(by omega)) := by simp
  have e : b.toList.take 1 = [b[0]'(by omega)] := by
    have := take_at ei
    simpa using this
  refine ⟨?_, ?_⟩
  · rw [Array.toList_append, Array.toList_append, ext_take, ext_take, Array.toList_reverse]
    exact (List.Perm.append_right _ List.perm_append_comm).trans M.perm
  · rw [Array.toList_append, Array.toList_append, ext_take, ext_take, Array.toList_reverse]
    refine List.pairwise_append.mpr ⟨List.pairwise_append.mpr ⟨by rw [e]; exact List.pairwise_singleton _ _, srt_take sa na, fun y hy x hx => ?_⟩, M.srt, fun x hx y hy => M.low x (List.mem_append.mpr (List.mem_append.mp hx).symm) y hy⟩
    rw [e] at hy
    have : y = b[0]'(by omega) := by simpa using hy
    subst this
    exact hf _ ei x (List.mem_of_mem_take hx)
end
end
section
variable {prog : Program} {w : World} {A : Around} {E : Value → Shared → Prop} {s : Shared} {kd : SortKind} {κ : KeyKind} {a b : Array Keyed}
abbrev CellH := Option (Array Keyed) × Nat × Nat × Array Keyed × Nat × Nat × Nat
def uA (a b o : Array Keyed) (i j g p q : Nat) : StateT SortSt Sem (ForInStep CellH) := do
  let x ← elem' a (i - 1)
  if (i - 1 == 0) = true then pure (.done (some (a.extract 0 (i - 1) ++ b.extract 0 j ++ (o.push x).reverse), i - 1, j, o.push x, g, p, q))
  else if (decide (p < 7) && decide (q < 7)) = true then pure (.done (none, i - 1, j, o.push x, g, p, q))
  else pure (.yield (none, i - 1, j, o.push x, g, p, q))
def uB (a b o : Array Keyed) (i j g p q : Nat) : StateT SortSt Sem (ForInStep CellH) := do
  let y ← elem' b (j - 1)
  if (j - 1 == 1) = true then pure (.done (some (b.extract 0 (j - 1) ++ a.extract 0 i ++ (o.push y).reverse), i, j - 1, o.push y, g, p, q))
  else do
    let x ← elem' a (i - 1)
    let r ← gal true x b 0 (j - 1) (j - 1 - 1)
    match r with
    | some k =>
      if j - 1 - k > 0 then
        if (k == 1) = true then pure (.done (some (b.extract 0 k ++ a.extract 0 i ++ (o.push y ++ (b.extract k (j - 1)).reverse).reverse), i, k, o.push y ++ (b.extract k (j - 1)).reverse, g, p, j - 1 - k))
        else if (k == 0) = true then pure (.done (some (a.extract 0 i ++ b.extract 0 k ++ (o.push y ++ (b.extract k (j - 1)).reverse).reverse), i, k, o.push y ++ (b.extract k (j - 1)).reverse, g, p, j - 1 - k))
        else uA a b (o.push y ++ (b.extract k (j - 1)).reverse) i k g p (j - 1 - k)
      else uA a b (o.push y) i (j - 1) g p (j - 1 - k)
    | _ => pure (.done (some (a.extract 0 i ++ b.extract 0 (j - 1) ++ (o.push y).reverse), i, j - 1, o.push y, g, p, q))
def uT (a b o : Array Keyed) (i j g p q : Nat) : StateT SortSt Sem (ForInStep CellH) := do
  let y ← elem' b (j - 1)
  let r ← gal false y a 0 i (i - 1)
  match r with
  | some k =>
    if i - k > 0 then
      if (k == 0) = true then pure (.done (some (a.extract 0 k ++ b.extract 0 j ++ (o ++ (a.extract k i).reverse).reverse), k, j, o ++ (a.extract k i).reverse, g, i - k, q))
      else uB a b (o ++ (a.extract k i).reverse) k j g (i - k) q
    else uB a b o i j g (i - k) q
  | _ => pure (.done (some (a.extract 0 i ++ b.extract 0 j ++ o.reverse), i, j, o, g, p, q))
def TH (κ : KeyKind) (a b : Array Keyed) (m : Nat) (st3 : SortSt) (R : ForInStep CellH → SortSt → Prop) : Prop :=
  (∀ r o i j g p q, Fn κ a b r → R (.done (some r, i, j, o, g, p, q)) st3) ∧ (∀ o i j g p q, MH κ a b o i j → 1 ≤ i → 1 < j → i + j ≤ m → R (.done (none, i, j, o, g, p, q)) st3 ∧ R (.yield (none, i, j, o, g, p, q)) st3)
theorem mem_take {a : Array Keyed} {n : Nat} {y : Keyed} (h : y ∈ a.toList.take n) : ∃ j, j < n ∧ a[j]? = some y := by
  obtain ⟨j, hj, rfl⟩ := List.mem_iff_getElem.mp h
  rw [List.length_take] at hj
  refine ⟨j, by omega, ?_⟩
  have : j < a.size := by simp at hj; omega
  simp [this]
theorem w_uA {st3 : SortSt} {o : Array Keyed} {i j g p q m : Nat} {R : ForInStep CellH → SortSt → Prop} (ha : ∀ x ∈ a.toList, Has κ x) (sa : Srt κ a.toList) (sb : Srt κ b.toList)
    (M : MH κ a b o i j) (hi : 1 ≤ i) (hj : 1 < j) (hm : i + j ≤ m + 1) (hx : ∀ x, a[i - 1]? = some x → ∀ y ∈ b.toList.take j, le κ y x) (hR : TH κ a b m st3 R) : wpS (model prog w) A E s (uA a b o i j g p q) R st3 := by
  have hla := M.la
  obtain ⟨n, rfl⟩ : ∃ n, i = n + 1 := ⟨i - 1, by omega⟩
  obtain ⟨x, ex, _⟩ := has_at ha (show n < a.size by omega)
  have M2 := M.tA ex sa (hx x ex)
  refine wpS_bind (w_elem ex ?_)
  show wpS _ _ _ _ (if (n == 0) = true then _ else _) _ _
  by_cases d1 : (n == 0) = true
  · rw [if_pos d1]
    exact wpS_pure (hR.1 _ _ _ _ _ _ _ (M2.doneA sb (by simpa using d1)))
  · have d1' : ¬ n = 0 := by simpa using d1
    rw [if_neg d1]
    have q := hR.2 _ _ _ g p q M2 (by omega) hj (by omega)
    split
    · exact wpS_pure q.1
    · exact wpS_pure q.2
theorem w_uB {st3 : SortSt} {o : Array Keyed} {i j g p q m : Nat} {R : ForInStep CellH → SortSt → Prop} (C : CmpOk prog w A s kd κ) (hk : kindOf st3 = kd) (ha : ∀ x ∈ a.toList, Has κ x) (hb : ∀ x ∈ b.toList, Has κ x) (sa : Srt κ a.toList) (sb : Srt κ b.toList)
    (hf : ∀ z, b[0]? = some z → ∀ x ∈ a.toList, le κ z x) (M : MH κ a b o i j) (hi : 1 ≤ i) (hj : 1 < j) (hm : i + j ≤ m + 1) (hy : ∀ y, b[j - 1]? = some y → ∀ x ∈ a.toList.take i, le κ x y) (hR : TH κ a b m st3 R) :
    wpS (model prog w) A E s (uB a b o i j g p q) R st3 := by
  have hla := M.la
  have hlb := M.lb
  obtain ⟨n, rfl⟩ : ∃ n, j = n + 1 := ⟨j - 1, by omega⟩
  obtain ⟨y, ey, hyy⟩ := has_at hb (show n < b.size by omega)
  obtain ⟨x, ex, hxx⟩ := has_at ha (show i - 1 < a.size by omega)
  have M2 := M.tB ey sb (hy y ey)
  refine wpS_bind (w_elem ey ?_)
  show wpS _ _ _ _ (if (n == 1) = true then _ else _) _ _
  by_cases d1 : (n == 1) = true
  · rw [if_pos d1]
    exact wpS_pure (hR.1 _ _ _ _ _ _ _ (M2.first sa (by simpa using d1) hf))
  · have d1' : ¬ n = 1 := by simpa using d1
    rw [if_neg d1]
    refine wpS_bind (w_elem ex (wpS_bind (w_galB (i := 0) C hk hb sb hxx n (by omega) (show n - 1 < n by omega) fun k k1 k2 k3 => ?_)))
    have hxa : ∀ z ∈ a.toList.take i, le κ z x := by
      obtain ⟨u, rfl⟩ : ∃ u, i = u + 1 := ⟨i - 1, by omega⟩
      exact srt_last sa ex
    have M3 := MH.tBs sb k n _ k1 M2 fun t z h1 h2 ez u hu => (hxa u hu).trans (k3 t z h1 h2 (by rw [Nat.zero_add]; exact ez))
    have low : ∀ v, v ∈ b.toList.take k → le κ v x := fun v hv => by
      obtain ⟨t, ht, et⟩ := mem_take hv
      exact le_of_lt (k2 t v ht (by rw [Nat.zero_add]; exact et))
    show wpS _ _ _ _ (if n - k > 0 then _ else _) _ _
    by_cases hk0 : n - k > 0
    · rw [if_pos hk0]
      by_cases d2 : (k == 1) = true
      · rw [if_pos d2]
        exact wpS_pure (hR.1 _ _ _ _ _ _ _ (M3.first sa (by simpa using d2) hf))
      · rw [if_neg d2]
        by_cases d3 : (k == 0) = true
        · rw [if_pos d3]
          exact wpS_pure (hR.1 _ _ _ _ _ _ _ (M3.doneB sa (by simpa using d3)))
        · rw [if_neg d3]
          have d2' : ¬ k = 1 := by simpa using d2
          have d3' : ¬ k = 0 := by simpa using d3
          refine w_uA ha sa sb M3 hi (by omega) (by omega) (fun x' ex' u hu => ?_) hR
          rw [ex] at ex'
          cases ex'
          exact low u hu
    · rw [if_neg hk0]
      have : k = n := by omega
      subst this
      refine w_uA ha sa sb M2 hi (by omega) (by omega) (fun x' ex' u hu => ?_) hR
      rw [ex] at ex'
      cases ex'
      exact low u hu
theorem w_uT {st3 : SortSt} {o : Array Keyed} {i j g p q m : Nat} {R : ForInStep CellH → SortSt → Prop} (C : CmpOk prog w A s kd κ) (hk : kindOf st3 = kd) (ha : ∀ x ∈ a.toList, Has κ x) (hb : ∀ x ∈ b.toList, Has κ x) (sa : Srt κ a.toList) (sb : Srt κ b.toList)
    (hf : ∀ z, b[0]? = some z → ∀ x ∈ a.toList, le κ z x) (M : MH κ a b o i j) (hi : 1 ≤ i) (hj : 1 < j) (hm : i + j ≤ m + 1) (hR : TH κ a b m st3 R) : wpS (model prog w) A E s (uT a b o i j g p q) R st3 := by
  have hla := M.la
  have hlb := M.lb
  obtain ⟨y, ey, hyy⟩ := has_at hb (show j - 1 < b.size by omega)
  have hyb : ∀ z ∈ b.toList.take j, le κ z y := by
    obtain ⟨u, rfl⟩ : ∃ u, j = u + 1 := ⟨j - 1, by omega⟩
    exact srt_last sb ey
  refine wpS_bind (w_elem ey (wpS_bind (w_galA (i := 0) C hk ha sa hyy i (by omega) (show i - 1 < i by omega) fun k k1 k2 k3 => ?_)))
  have M3 := MH.tAs sa k i _ k1 M fun t z h1 h2 ez u hu => (hyb u hu).trans (le_of_lt (k3 t z h1 h2 (by rw [Nat.zero_add]; exact ez)))
  have low : ∀ v, v ∈ a.toList.take k → le κ v y := fun v hv => by
    obtain ⟨t, ht, et⟩ := mem_take hv
    exact k2 t v ht (by rw [Nat.zero_add]; exact et)
  show wpS _ _ _ _ (if i - k > 0 then _ else _) _ _
  by_cases hk0 : i - k > 0
  · rw [if_pos hk0]
    by_cases d1 : (k == 0) = true
    · rw [if_pos d1]
      exact wpS_pure (hR.1 _ _ _ _ _ _ _ (M3.doneA sb (by simpa using d1)))
    · rw [if_neg d1]
      have d1' : ¬ k = 0 := by simpa using d1
      refine w_uB C hk ha hb sa sb hf M3 (by omega) hj (by omega) (fun y' ey' => ?_) hR
      rw [ey] at ey'
      cases ey'
      exact low
  · rw [if_neg hk0]
    have : k = i := by omega
    subst this
    refine w_uB C hk ha hb sa sb hf M hi hj hm (fun y' ey' => ?_) hR
    rw [ey] at ey'
    cases ey'
    exact low
theorem w_mHi {st : SortSt} {Q : Array Keyed → SortSt → Prop} (C : CmpOk prog w A s kd κ) (hk : kindOf st = kd) (ha : ∀ x ∈ a.toList, Has κ x) (hb : ∀ x ∈ b.toList, Has κ x) (sa : Srt κ a.toList) (sb : Srt κ b.toList) (na : 1 ≤ a.size) (nb : 1 ≤ b.size)
    (hf : ∀ z, b[0]? = some z → ∀ x ∈ a.toList, le κ z x) (hl : ∀ z, a[a.size - 1]? = some z → ∀ y ∈ b.toList, le κ y z)
    (h : ∀ r st', Like st st' → Fn κ a b r → Q r st') : wpS (model prog w) A E s (mHi a b) Q st := by
  refine wpS_bind (wpS_lift (wpAny_rule ⟨rfl, ?_⟩))
  obtain ⟨n, hn⟩ : ∃ n, a.size = n + 1 := ⟨a.size - 1, by omega⟩
  obtain ⟨x0, ex, hx⟩ := has_at ha (show n < a.size by omega)
  have en : a.size - 1 = n := by omega
  refine wpS_bind (w_elem (p := x0) (by rw [en]; exact ex) ?_)
  have M0 : MH κ a b #[] (n + 1) b.size := ⟨by omega, by omega, by rw [← hn, List.take_of_length_le (show a.toList.length ≤ a.size by simp), List.take_of_length_le (show b.toList.length ≤ b.size by simp)]; simp, by simp, by simp⟩
  have M1 : MH κ a b #[x0] n b.size := by
    have := M0.tA ex sa fun y hy => hl x0 (by rw [en]; exact ex) y (List.mem_of_mem_take hy)
    simpa using this
  rw [← en] at M1
  show wpS _ _ _ _ (if (a.size - 1 == 0) = true then _ else _) _ _
  by_cases c1 : (a.size - 1 == 0) = true
  · rw [if_pos c1]
    exact wpS_pure (h _ _ (Like.refl _) (M1.doneA sb (by simpa using c1)))
  rw [if_neg c1]
  by_cases c2 : (b.size == 1) = true
  · rw [if_pos c2]
    exact wpS_pure (h _ _ (Like.refl _) (M1.first sa (by simpa using c2) hf))
  rw [if_neg c2]
  have c1' : ¬ a.size - 1 = 0 := by simpa using c1
  have c2' : ¬ b.size = 1 := by simpa using c2
  refine wpS_bind (wpS_get ?_)
  refine wpS_bind (wpS_mono (wpS_forRange (I := fun x c st' => Like st st' ∧ ∃ out i j g, c = (none, i, j, out, g) ∧ MH κ a b out i j ∧ 1 ≤ i ∧ 1 < j ∧ i + j + x ≤ a.size + b.size)
    (Q := fun c st' => Like st st' ∧ ∃ r out i j g, c = (some r, i, j, out, g) ∧ Fn κ a b r) ?step ?fin ⟨Like.refl _, _, _, _, _, rfl, M1, by omega, by omega, by omega⟩) ?post)
  case fin =>
    rintro c st' ⟨_, out, i, j, g, rfl, M, h1, h2, h3⟩
    omega
  case post =>
    rintro c st' ⟨L, r, out, i, j, g, rfl, F⟩
    exact wpS_pure (h r st' L F)
  case step =>
    rintro x c st1 _ hx1 ⟨L1, out0, i0, j0, g0, rfl, M, u1, u2, u3⟩
    have hk1 : kindOf st1 = kd := L1.kd.trans hk
    dsimp only
    refine wpS_bind (wpS_mono (wpS_forRange (I := fun x c st' => st' = st1 ∧ ∃ out i j p q, c = (none, i, j, out, p, q) ∧ MH κ a b out i j ∧ 1 ≤ i ∧ 1 < j ∧ i + j + x ≤ i0 + j0)
      (Q := fun c st' => st' = st1 ∧ ((∃ r out i j p q, c = (some r, i, j, out, p, q) ∧ Fn κ a b r) ∨ ∃ out i j p q, c = (none, i, j, out, p, q) ∧ MH κ a b out i j ∧ 1 ≤ i ∧ 1 < j ∧ i + j + 1 ≤ i0 + j0)) ?step1 ?fin1
      ⟨rfl, _, _, _, _, _, rfl, M, u1, u2, by omega⟩) ?post1)
    case fin1 =>
      rintro c st' ⟨rfl, out, i, j, p, q, rfl, M', v1, v2, v3⟩
      exact ⟨rfl, .inr ⟨out, i, j, p, q, rfl, M', v1, v2, by omega⟩⟩
    case step1 =>
      rintro x2 c st' _ hx2 ⟨rfl, out, i, j, p, q, rfl, M', v1, v2, v3⟩
      have hla := M'.la
      have hlb := M'.lb
      obtain ⟨n, rfl⟩ : ∃ n, i = n + 1 := ⟨i - 1, by omega⟩
      obtain ⟨m, rfl⟩ : ∃ m, j = m + 1 := ⟨j - 1, by omega⟩
      obtain ⟨yb, eb, hyb⟩ := has_at hb (show m < b.size by omega)
      obtain ⟨xa, ea, hxa⟩ := has_at ha (show n < a.size by omega)
      dsimp only
      refine wpS_bind (w_elem eb (wpS_bind (w_elem ea (wpS_bind (w_lt C hk1 hyb hxa ?_)))))
      cases e : κ.blt (kk κ yb) (kk κ xa) with
      | true =>
        show wpS _ _ _ _ (if true = true then _ else _) _ _
        rw [if_pos rfl]
        refine wpS_bind (w_elem ea ?_)
        have M2 := M'.tA ea sa fun y hy => (srt_last sb eb y hy).trans (le_of_lt e)
        show wpS _ _ _ _ (if (n == 0) = true then _ else _) _ _
        by_cases d1 : (n == 0) = true
        · rw [if_pos d1]
          exact wpS_pure ⟨rfl, .inl ⟨_, _, _, _, _, _, rfl, M2.doneA sb (by simpa using d1)⟩⟩
        · have d1' : ¬ n = 0 := by simpa using d1
          rw [if_neg d1]
          by_cases d2 : p + 1 ≥ g0
          · rw [if_pos d2]
            exact wpS_pure ⟨rfl, .inr ⟨_, _, _, _, _, rfl, M2, by omega, v2, by omega⟩⟩
          · rw [if_neg d2]
            exact wpS_pure ⟨rfl, _, _, _, _, _, rfl, M2, by omega, v2, by omega⟩
      | false =>
        show wpS _ _ _ _ (if false = true then _ else _) _ _
        rw [if_neg (by decide)]
        refine wpS_bind (w_elem eb ?_)
        have M2 := M'.tB eb sb fun y hy => (srt_last sa ea y hy).trans (le_of_not e)
        show wpS _ _ _ _ (if (m == 1) = true then _ else _) _ _
        by_cases d1 : (m == 1) = true
        · rw [if_pos d1]
          exact wpS_pure ⟨rfl, .inl ⟨_, _, _, _, _, _, rfl, M2.first sa (by simpa using d1) hf⟩⟩
        · have d1' : ¬ m = 1 := by simpa using d1
          rw [if_neg d1]
          by_cases d2 : q + 1 ≥ g0
          · rw [if_pos d2]
            exact wpS_pure ⟨rfl, .inr ⟨_, _, _, _, _, rfl, M2, v1, by omega, by omega⟩⟩
          · rw [if_neg d2]
            exact wpS_pure ⟨rfl, _, _, _, _, _, rfl, M2, v1, by omega, by omega⟩
    case post1 =>
      rintro c st' ⟨rfl, ⟨r, out, i, j, p, q, rfl, F⟩ | ⟨out, i, j, p, q, rfl, M', v1, v2, v3⟩⟩
      · exact wpS_pure ⟨L1, _, _, _, _, _, rfl, F⟩
      · dsimp only
        refine wpS_bind (wpS_lift (wpAny_rule ⟨rfl, ?_⟩))
        refine wpS_bind (wpS_mono (wpS_forRange (I := fun x c st' => Like st st' ∧ ∃ out i j g p q, c = (none, i, j, out, g, p, q) ∧ MH κ a b out i j ∧ 1 ≤ i ∧ 1 < j ∧ i + j + 1 ≤ i0 + j0)
          (Q := fun c st' => Like st st' ∧ ((∃ r out i j g p q, c = (some r, i, j, out, g, p, q) ∧ Fn κ a b r) ∨ ∃ out i j g p q, c = (none, i, j, out, g, p, q) ∧ MH κ a b out i j ∧ 1 ≤ i ∧ 1 < j ∧ i + j + 1 ≤ i0 + j0)) ?step2 ?fin2
          ⟨L1, _, _, _, _, _, _, rfl, M', v1, v2, v3⟩) ?post2)
        case fin2 =>
          rintro c st' ⟨L, out, i, j, g, p, q, rfl, M', v⟩
          exact ⟨L, .inr ⟨_, _, _, _, _, _, rfl, M', v⟩⟩
        case post2 =>
          rintro c st' ⟨L, ⟨r, out, i, j, g, p, q, rfl, F⟩ | ⟨out, i, j, g, p, q, rfl, M', v1, v2, v3⟩⟩
          · exact wpS_pure ⟨L, _, _, _, _, _, rfl, F⟩
          · dsimp only
            refine wpS_bind (wpS_modify (wpS_pure ⟨L.trans ⟨rfl, rfl, rfl, rfl⟩, _, _, _, _, rfl, M', v1, v2, by omega⟩))
        case step2 =>
          rintro x3 c st2 _ hx3 ⟨L2, out, i, j, g, p, q, rfl, M2, w1, w2, w3⟩
          dsimp only
          have run : ∀ g' : Nat, wpS (model prog w) A E s (uT a b out i j g' p q) (fun r st' => match r with
              | .done c' => Like st st' ∧ ((∃ r out i j g p q, c' = (some r, i, j, out, g, p, q) ∧ Fn κ a b r) ∨ ∃ out i j g p q, c' = (none, i, j, out, g, p, q) ∧ MH κ a b out i j ∧ 1 ≤ i ∧ 1 < j ∧ i + j + 1 ≤ i0 + j0)
              | .yield c' => Like st st' ∧ ∃ out i j g p q, c' = (none, i, j, out, g, p, q) ∧ MH κ a b out i j ∧ 1 ≤ i ∧ 1 < j ∧ i + j + 1 ≤ i0 + j0) (SortSt.mk' (kindOf st2) (arrOf st2) (pendingOf st2) g' (failedOf st2)) := fun g' => by
            have L3 : Like st (SortSt.mk' (kindOf st2) (arrOf st2) (pendingOf st2) g' (failedOf st2)) := L2.trans ⟨rfl, rfl, rfl, rfl⟩
            refine w_uT (m := i0 + j0 - 1) C (L3.kd.trans hk) ha hb sa sb hf M2 w1 w2 (by omega) ⟨fun r o i j g p q F => ⟨L3, .inl ⟨_, _, _, _, _, _, _, rfl, F⟩⟩, fun o i j g p q M' h1 h2 h3 => ⟨⟨L3, .inr ⟨_, _, _, _, _, _, rfl, M', h1, h2, by omega⟩⟩, ⟨L3, _, _, _, _, _, _, rfl, M', h1, h2, by omega⟩⟩⟩
          by_cases d0 : g > 1
          · rw [if_pos d0]
            refine wpS_bind (wpS_modify ?_)
            refine wpS_mono (m := uT a b out i j (g - 1) p q) (run (g - 1)) fun r st' hr => ?_
            cases r <;> exact hr
          · rw [if_neg d0]
            refine wpS_bind (wpS_modify ?_)
            refine wpS_mono (m := uT a b out i j g p q) (run g) fun r st' hr => ?_
            cases r <;> exact hr
end
end Tim
set_option Elab.async false
set_option linter.all false
set_option maxRecDepth 100000
set_option maxHeartbeats 4000000
namespace Tim
open PySem PyProof.Rows
section
variable {prog : Program} {w : World} {A : Around} {E : Value → Shared → Prop} {s : Shared} {kd : SortKind} {κ : KeyKind}
structure Fr (lo : Nat) (st st' : SortSt) : Prop where
  kd : kindOf st' = kindOf st
  pn : pendingOf st' = pendingOf st
  fl : failedOf st' = failedOf st
  perm : (arrOf st').Perm (arrOf st)
  low : ∀ k, k < lo → (arrOf st')[k]? = (arrOf st)[k]?
theorem Fr.refl (lo : Nat) (st : SortSt) : Fr lo st st := ⟨rfl, rfl, rfl, Array.Perm.refl _, fun _ _ => rfl⟩
theorem Fr.trans {lo : Nat} {a b c : SortSt} (h : Fr lo a b) (k : Fr lo b c) : Fr lo a c := ⟨k.kd.trans h.kd, k.pn.trans h.pn, k.fl.trans h.fl, k.perm.trans h.perm, fun i hi => (k.low i hi).trans (h.low i hi)⟩
theorem Fr.size {lo : Nat} {a b : SortSt} (h : Fr lo a b) : (arrOf b).size = (arrOf a).size := h.perm.size_eq
theorem Fr.rev {lo : Nat} (st : SortSt) (i j : Nat) (hi : lo ≤ i) (hj : j ≤ (arrOf st).size) : Fr lo st (setArr st (mirror (arrOf st) i j ((j - i) / 2))) :=
  ⟨rfl, rfl, rfl, mirror_perm _ _ _ _, fun k hk => by
    show (mirror (arrOf st) i j ((j - i) / 2))[k]? = _
    rw [getElem?_mirror_all hj, if_neg (by omega)]⟩
def All (κ : KeyKind) (st : SortSt) : Prop := ∀ x ∈ (arrOf st).toList, Has κ x
theorem All.fr {lo : Nat} {a b : SortSt} (h : All κ a) (f : Fr lo a b) : All κ b := fun x hx => h x ((Array.perm_iff_toList_perm.mp f.perm).mem_iff.mp hx)
theorem All.at {st : SortSt} (h : All κ st) {i : Nat} (hi : i < (arrOf st).size) : ∃ p, (arrOf st)[i]? = some p ∧ Has κ p := has_at h hi
def Up (κ : KeyKind) (st : SortSt) (lo n : Nat) : Prop := ∀ i j, i ≤ j → j < n → κ.kle (KK κ (arrOf st) (lo + i)) (KK κ (arrOf st) (lo + j))
def Dn (κ : KeyKind) (st : SortSt) (lo n : Nat) : Prop := ∀ i j, i ≤ j → j < n → κ.kle (KK κ (arrOf st) (lo + j)) (KK κ (arrOf st) (lo + i))
theorem Up.one (st : SortSt) (lo : Nat) : Up κ st lo 1 := fun i j h1 h2 => by
  have e : i = j := by omega
  rw [e]; exact KeyOrd.kle_refl _
theorem Up.more {st : SortSt} {lo n : Nat} (h : Up κ st lo n) (h1 : 1 ≤ n) (e : κ.kle (KK κ (arrOf st) (lo + n - 1)) (KK κ (arrOf st) (lo + n))) : Up κ st lo (n + 1) := fun i j hij hj => by
  by_cases c : j < n
  · exact h i j hij c
  · have ej : j = n := by omega
    by_cases ci : i = n
    · rw [ej, ci]; exact KeyOrd.kle_refl _
    · rw [ej]
      have q := h i (n - 1) (by omega) (by omega)
      rw [show lo + (n - 1) = lo + n - 1 by omega] at q
      exact KeyOrd.kle_trans q e
theorem Dn.more {st : SortSt} {lo n : Nat} (h : Dn κ st lo n) (h1 : 1 ≤ n) (e : κ.kle (KK κ (arrOf st) (lo + n)) (KK κ (arrOf st) (lo + n - 1))) : Dn κ st lo (n + 1) := fun i j hij hj => by
  by_cases c : j < n
  · exact h i j hij c
  · have ej : j = n := by omega
    by_cases ci : i = n
    · rw [ej, ci]; exact KeyOrd.kle_refl _
    · rw [ej]
      have q := h i (n - 1) (by omega) (by omega)
      rw [show lo + (n - 1) = lo + n - 1 by omega] at q
      exact KeyOrd.kle_trans e q
theorem w_asc {st : SortSt} {lo nrem n0 : Nat} {α : Type} {Q : α → SortSt → Prop} (C : CmpOk prog w A s kd κ) (hk : kindOf st = kd) (al : All κ st) (hn : lo + nrem ≤ (arrOf st).size) (h1 : 1 ≤ n0) (h2 : n0 ≤ nrem) (up : Up κ st lo n0)
    (F : Nat → Option (Option Nat) × Nat → StateT SortSt Sem (ForInStep (Option (Option Nat) × Nat))) (hF : ∀ x n, F x (none, n) = (do
      let c ← ltAt' (lo + n) (lo + n - 1)
      match c with
      | some c => if c = true then pure (ForInStep.done (none, n)) else pure (ForInStep.yield (none, n + 1))
      | _ => pure (ForInStep.done (some none, n)))) (G : Option (Option Nat) × Nat → StateT SortSt Sem α)
    (hG : ∀ n, n0 ≤ n → n ≤ nrem → Up κ st lo n → (n = nrem ∨ κ.klt (KK κ (arrOf st) (lo + n)) (KK κ (arrOf st) (lo + n - 1))) → wpS (model prog w) A E s (G (none, n)) Q st) :
    wpS (model prog w) A E s (forIn [n0:nrem] ((none, n0) : Option (Option Nat) × Nat) F >>= G) Q st := by
  refine wpS_bind (wpS_forRange (I := fun x c st' => st' = st ∧ c = (none, x) ∧ x ≤ nrem ∧ Up κ st lo x) ?step ?fin ⟨rfl, rfl, h2, up⟩)
  case fin =>
    rintro c st' ⟨rfl, rfl, h3, h4⟩
    rw [show max n0 nrem = nrem by omega] at h4 ⊢
    exact hG nrem h2 (Nat.le_refl _) h4 (.inl rfl)
  case step =>
    rintro x c st' hx1 hx2 ⟨rfl, rfl, h3, h4⟩
    rw [hF]
    refine wpS_bind (w_ltAt C hk (al.at (by omega)) (al.at (by omega)) ?_)
    cases e : κ.blt (KK κ (arrOf st') (lo + x)) (KK κ (arrOf st') (lo + x - 1)) with
    | true =>
      show wpS _ _ _ _ (if true = true then _ else _) _ _
      rw [if_pos rfl]
      exact wpS_pure (hG x hx1 h3 h4 (.inr e))
    | false =>
      show wpS _ _ _ _ (if false = true then _ else _) _ _
      rw [if_neg (by decide)]
      exact wpS_pure ⟨rfl, rfl, by omega, h4.more (by omega) e⟩
theorem rev_up {st : SortSt} {lo n : Nat} (h : Dn κ st lo n) (hn : lo + n ≤ (arrOf st).size) : Up κ (setArr st (mirror (arrOf st) lo (lo + n) ((lo + n - lo) / 2))) lo n := fun i j hij hj => by
  show κ.kle (KK κ (mirror (arrOf st) lo (lo + n) _) (lo + i)) (KK κ (mirror (arrOf st) lo (lo + n) _) (lo + j))
  rw [KK_mirror hn, KK_mirror hn, if_pos (by omega), if_pos (by omega)]
  have q := h (n - 1 - j) (n - 1 - i) (by omega) (by omega)
  rw [show lo + (lo + n) - 1 - (lo + i) = lo + (n - 1 - i) by omega, show lo + (lo + n) - 1 - (lo + j) = lo + (n - 1 - j) by omega]
  exact q
theorem w_tail {st : SortSt} {lo nrem n : Nat} {Q : Option Nat → SortSt → Prop} (C : CmpOk prog w A s kd κ) (hk : kindOf st = kd) (al : All κ st) (hn : lo + nrem ≤ (arrOf st).size) (h1 : 1 ≤ n) (h2 : n ≤ nrem) (dn : Dn κ st lo n)
    (F : Nat → Option (Option Nat) × Nat → StateT SortSt Sem (ForInStep (Option (Option Nat) × Nat))) (hF : ∀ x n, F x (none, n) = (do
      let c ← ltAt' (lo + n) (lo + n - 1)
      match c with
      | some c => if c = true then pure (ForInStep.done (none, n)) else pure (ForInStep.yield (none, n + 1))
      | _ => pure (ForInStep.done (some none, n)))) (G : Option (Option Nat) × Nat → StateT SortSt Sem (Option Nat)) (hG : ∀ n, G (none, n) = pure (some n))
    (h : ∀ m st', Fr lo st st' → 1 ≤ m → m ≤ nrem → Up κ st' lo m → Q (some m) st') :
    wpS (model prog w) A E s (reverseSlice' lo (lo + n) >>= fun _ => forIn [n:nrem] ((none, n) : Option (Option Nat) × Nat) F >>= G) Q st := by
  have f := Fr.rev (lo := lo) st lo (lo + n) (Nat.le_refl _) (by omega)
  refine wpS_bind (wpS_reverse ?_)
  refine w_asc C (f.kd.trans hk) (al.fr f) (by rw [f.size]; exact hn) h1 h2 (rev_up dn (by omega)) F hF G fun m m1 m2 m3 _ => ?_
  rw [hG]
  exact wpS_pure (h m _ f (by omega) m2 m3)
theorem eq_rev {st : SortSt} {i j : Nat} (hj : j ≤ (arrOf st).size) (he : ∀ k, i ≤ k → k < j → KK κ (arrOf st) k = KK κ (arrOf st) (j - 1)) (k : Nat) :
    KK κ (arrOf (setArr st (mirror (arrOf st) i j ((j - i) / 2)))) k = KK κ (arrOf st) k := KK_mirror_equal hj he k
theorem Dn.same {st st' : SortSt} {lo n : Nat} (h : Dn κ st lo n) (e : ∀ k, KK κ (arrOf st') k = KK κ (arrOf st) k) : Dn κ st' lo n := fun i j h1 h2 => by rw [e, e]; exact h i j h1 h2
theorem w_desc {st : SortSt} {lo nrem n0 : Nat} {α : Type} {Q : α → SortSt → Prop} (C : CmpOk prog w A s kd κ) (hk : kindOf st = kd) (al : All κ st) (hn : lo + nrem ≤ (arrOf st).size) (h1 : 1 ≤ n0) (h2 : n0 ≤ nrem) (dn : Dn κ st lo n0)
    (F : Nat → Option (Option Nat) × Nat × Nat → StateT SortSt Sem (ForInStep (Option (Option Nat) × Nat × Nat))) (hF : ∀ x n q, F x (none, n, q) = (ltAt' (lo + n) (lo + n - 1) >>= fun c => match c with
      | some c => (if c = true then (if q > 0 then (reverseSlice' (lo + n - (q + 1)) (lo + n) >>= fun _ => pure (ForInStep.yield (none, n + 1, 0))) else pure (ForInStep.yield (none, n + 1, 0)))
        else (ltAt' (lo + n - 1) (lo + n) >>= fun d => match d with
          | some d => (if d = true then pure (ForInStep.done (none, n, q)) else pure (ForInStep.yield (none, n + 1, q + 1)))
          | _ => pure (ForInStep.done (some none, n, q))))
      | _ => pure (ForInStep.done (some none, n, q)))) (G : Option (Option Nat) × Nat × Nat → StateT SortSt Sem α)
    (hG : ∀ n q st', Fr lo st st' → n0 ≤ n → n ≤ nrem → Dn κ st' lo n → q + 1 ≤ n → (∀ k, lo + n - (q + 1) ≤ k → k < lo + n → KK κ (arrOf st') k = KK κ (arrOf st') (lo + n - 1)) → wpS (model prog w) A E s (G (none, n, q)) Q st') :
    wpS (model prog w) A E s (forIn [n0:nrem] ((none, n0, 0) : Option (Option Nat) × Nat × Nat) F >>= G) Q st := by
  refine wpS_bind (wpS_forRange (I := fun x c st' => Fr lo st st' ∧ ∃ q, c = (none, x, q) ∧ x ≤ nrem ∧ Dn κ st' lo x ∧ q + 1 ≤ x ∧ ∀ k, lo + x - (q + 1) ≤ k → k < lo + x → KK κ (arrOf st') k = KK κ (arrOf st') (lo + x - 1)) ?step ?fin
    ⟨Fr.refl _ _, 0, rfl, h2, dn, by omega, fun k k1 k2 => by rw [show k = lo + n0 - 1 by omega]⟩)
  case fin =>
    rintro c st' ⟨f, q, rfl, h3, h4, h5, h6⟩
    have e : max n0 nrem = nrem := by omega
    rw [e] at h4 h5 h6 ⊢
    exact hG nrem q st' f h2 (Nat.le_refl _) h4 h5 h6
  case step =>
    rintro x c st' hx1 hx2 ⟨f, q, rfl, h3, h4, h5, h6⟩
    have hz : (arrOf st').size = (arrOf st).size := f.size
    have al' := al.fr f
    have hk' := f.kd.trans hk
    rw [hF]
    refine wpS_bind (w_ltAt C hk' (al'.at (by omega)) (al'.at (by omega)) ?_)
    cases e : κ.blt (KK κ (arrOf st') (lo + x)) (KK κ (arrOf st') (lo + x - 1)) with
    | true =>
      show wpS _ _ _ _ (if true = true then _ else _) _ _
      rw [if_pos rfl]
      have d2 : Dn κ st' lo (x + 1) := h4.more (by omega) (KeyOrd.kle_of_klt e)
      by_cases hq : q > 0
      · rw [if_pos hq]
        have f2 := Fr.rev (lo := lo) st' (lo + x - (q + 1)) (lo + x) (by omega) (by omega)
        exact wpS_bind (wpS_reverse (wpS_pure ⟨f.trans f2, 0, rfl, by omega, d2.same (eq_rev (by omega) h6), by omega, fun k k1 k2 => by rw [show k = lo + (x + 1) - 1 by omega]⟩))
      · rw [if_neg hq]
        exact wpS_pure ⟨f, 0, rfl, by omega, d2, by omega, fun k k1 k2 => by rw [show k = lo + (x + 1) - 1 by omega]⟩
    | false =>
      show wpS _ _ _ _ (if false = true then _ else _) _ _
      rw [if_neg (by decide)]
      refine wpS_bind (w_ltAt C hk' (al'.at (by omega)) (al'.at (by omega)) ?_)
      cases e2 : κ.blt (KK κ (arrOf st') (lo + x - 1)) (KK κ (arrOf st') (lo + x)) with
      | true =>
        show wpS _ _ _ _ (if true = true then _ else _) _ _
        rw [if_pos rfl]
        exact wpS_pure (hG x q st' f hx1 h3 h4 h5 h6)
      | false =>
        show wpS _ _ _ _ (if false = true then _ else _) _ _
        rw [if_neg (by decide)]
        have eq : KK κ (arrOf st') (lo + x) = KK κ (arrOf st') (lo + x - 1) := KeyOrd.kle_antisymm e2 e
        refine wpS_pure ⟨f, q + 1, rfl, by omega, h4.more (by omega) e2, by omega, fun k k1 k2 => ?_⟩
        rw [show lo + (x + 1) - 1 = lo + x by omega]
        by_cases ck : k = lo + x
        · rw [ck]
        · rw [eq]; exact h6 k (by omega) (by omega)
theorem w_count {st : SortSt} {lo nrem : Nat} {Q : Option Nat → SortSt → Prop} (C : CmpOk prog w A s kd κ) (hk : kindOf st = kd) (al : All κ st) (hn : lo + nrem ≤ (arrOf st).size) (h1 : 1 ≤ nrem)
    (h : ∀ m st', Fr lo st st' → 1 ≤ m → m ≤ nrem → Up κ st' lo m → Q (some m) st') : wpS (model prog w) A E s (countRun' lo nrem) Q st := by
  refine w_asc C hk al hn (Nat.le_refl 1) h1 (Up.one _ _) _ (fun x n => rfl) _ fun n n1 n2 up ho => ?_
  show wpS _ _ _ _ (if (n == nrem) = true then _ else _) _ _
  by_cases c : (n == nrem) = true
  · rw [if_pos c]
    exact wpS_pure (h n st (Fr.refl _ _) n1 n2 up)
  rw [if_neg c]
  have c' : ¬ n = nrem := by simpa using c
  have hlt := ho.resolve_left c'
  show wpS _ _ _ _ (if n > 1 then _ else _) _ _
  by_cases g : n > 1
  · rw [if_pos g]
    refine wpS_bind (w_ltAt C hk (al.at (by omega)) (al.at (by omega)) ?_)
    cases e : κ.blt (KK κ (arrOf st) lo) (KK κ (arrOf st) (lo + n - 1)) with
    | true =>
      show wpS _ _ _ _ (if true = true then _ else _) _ _
      rw [if_pos rfl]
      exact wpS_pure (h n st (Fr.refl _ _) n1 n2 up)
    | false =>
      show wpS _ _ _ _ (if false = true then _ else _) _ _
      rw [if_neg (by decide)]
      have hall : ∀ k, lo ≤ k → k < lo + n → KK κ (arrOf st) k = KK κ (arrOf st) (lo + n - 1) := fun k k1 k2 => by
        have a1 := up 0 (k - lo) (by omega) (by omega)
        have a2 := up (k - lo) (n - 1) (by omega) (by omega)
        rw [show lo + (k - lo) = k by omega] at a1 a2
        rw [show lo + (n - 1) = lo + n - 1 by omega] at a2
        exact KeyOrd.kle_antisymm a2 (KeyOrd.kle_trans e a1)
      have f1 := Fr.rev (lo := lo) st lo (lo + n) (Nat.le_refl _) (by omega)
      refine wpS_bind (wpS_reverse ?_)
      have same := eq_rev (κ := κ) (st := st) (i := lo) (j := lo + n) (by omega) hall
      have dn : Dn κ (setArr st (mirror (arrOf st) lo (lo + n) ((lo + n - lo) / 2))) lo (n + 1) := by
        have d0 : Dn κ st lo n := fun i j i1 i2 => by
          rw [hall (lo + i) (by omega) (by omega), hall (lo + j) (by omega) (by omega)]; exact KeyOrd.kle_refl _
        exact (d0.more n1 (KeyOrd.kle_of_klt hlt)).same same
      refine wpS_bind (wpS_lift (wpAny_rule ⟨rfl, ?_⟩))
      refine w_desc C (f1.kd.trans hk) (al.fr f1) (by rw [f1.size]; exact hn) (by omega) (by omega) dn _ (fun x n q => rfl) _ fun m q st2 f2 m1 m2 dm q1 q2 => ?_
      have hz : (arrOf st2).size = (arrOf st).size := (f1.trans f2).size
      show wpS _ _ _ _ (if q > 0 then _ else _) _ _
      by_cases hq : q > 0
      · rw [if_pos hq]
        have f3 := Fr.rev (lo := lo) st2 (lo + m - (q + 1)) (lo + m) (by omega) (by omega)
        refine wpS_bind (wpS_reverse ?_)
        refine w_tail C (f3.kd.trans ((f1.trans f2).kd.trans hk)) ((al.fr (f1.trans f2)).fr f3) (by rw [f3.size, hz]; exact hn) (by omega) m2 (dm.same (eq_rev (by omega) q2)) _ (fun x n => rfl) _ (fun n => rfl) fun m' st' f' => h m' st' (((f1.trans f2).trans f3).trans f')
      · rw [if_neg hq]
        refine w_tail C ((f1.trans f2).kd.trans hk) (al.fr (f1.trans f2)) (by rw [hz]; exact hn) (by omega) m2 dm _ (fun x n => rfl) _ (fun n => rfl) fun m' st' f' => h m' st' ((f1.trans f2).trans f')
  · rw [if_neg g]
    have en : n = 1 := by omega
    subst en
    have dn : Dn κ st lo (1 + 1) := Dn.more (fun i j i1 i2 => by
      have e : i = j := by omega
      rw [e]; exact KeyOrd.kle_refl _) (Nat.le_refl _) (KeyOrd.kle_of_klt hlt)
    refine wpS_bind (wpS_lift (wpAny_rule ⟨rfl, ?_⟩))
    refine w_desc C hk al hn (by omega) (by omega) dn _ (fun x n q => rfl) _ fun m q st2 f2 m1 m2 dm q1 q2 => ?_
    have hz : (arrOf st2).size = (arrOf st).size := f2.size
    show wpS _ _ _ _ (if q > 0 then _ else _) _ _
    by_cases hq : q > 0
    · rw [if_pos hq]
      have f3 := Fr.rev (lo := lo) st2 (lo + m - (q + 1)) (lo + m) (by omega) (by omega)
      refine wpS_bind (wpS_reverse ?_)
      refine w_tail C (f3.kd.trans (f2.kd.trans hk)) ((al.fr f2).fr f3) (by rw [f3.size, hz]; exact hn) (by omega) m2 (dm.same (eq_rev (by omega) q2)) _ (fun x n => rfl) _ (fun n => rfl) fun m' st' f' => h m' st' ((f2.trans f3).trans f')
    · rw [if_neg hq]
      refine w_tail C (f2.kd.trans hk) (al.fr f2) (by rw [hz]; exact hn) (by omega) m2 dm _ (fun x n => rfl) _ (fun n => rfl) fun m' st' f' => h m' st' (f2.trans f')
theorem w_ins {st : SortSt} {lo n ok : Nat} {Q : Bool → SortSt → Prop} (C : CmpOk prog w A s kd κ) (hk : kindOf st = kd) (al : All κ st) (hn : lo + n ≤ (arrOf st).size) (ho : ok ≤ n) (h1 : 1 ≤ ok) (up : Up κ st lo ok)
    (h : ∀ st', Fr lo st st' → Up κ st' lo n → Q true st') : wpS (model prog w) A E s (binarySort' lo n ok) Q st := by
  refine wpS_bind (wpS_mono (wpS_forRange (I := fun k c st' => c = (none, ()) ∧ Fr lo st st' ∧ k ≤ n ∧ Up κ st' lo k) (Q := fun c st' => c = (none, ()) ∧ Fr lo st st' ∧ Up κ st' lo n) ?step ?fin ⟨rfl, Fr.refl _ _, by omega, by rw [show max ok 1 = ok by omega]; exact up⟩) ?post)
  case post =>
    rintro c st' ⟨rfl, f, u⟩
    exact wpS_pure (h st' f u)
  case fin =>
    rintro c st' ⟨hc, f, _, u⟩
    rw [show max (max ok 1) n = n by omega] at u
    exact ⟨hc, f, u⟩
  case step =>
    rintro k c st' hk1 hk2 ⟨rfl, f, _, u⟩
    have hz : (arrOf st').size = (arrOf st).size := f.size
    have al' := al.fr f
    have hkd := f.kd.trans hk
    refine wpS_bind (wpS_mono (wpS_forRange (I := fun x c st2 => st2 = st' ∧ ∃ l r, c = (none, l, r) ∧ l ≤ r ∧ r ≤ k ∧ r - l ≤ k - x ∧ (∀ i, i < l → κ.kle (KK κ (arrOf st') (lo + i)) (KK κ (arrOf st') (lo + k))) ∧ (∀ i, r ≤ i → i < k → κ.klt (KK κ (arrOf st') (lo + k)) (KK κ (arrOf st') (lo + i))))
      (Q := fun c st2 => st2 = st' ∧ ∃ l r, c = (none, l, r) ∧ l ≤ k ∧ (∀ i, i < l → κ.kle (KK κ (arrOf st') (lo + i)) (KK κ (arrOf st') (lo + k))) ∧ (∀ i, l ≤ i → i < k → κ.klt (KK κ (arrOf st') (lo + k)) (KK κ (arrOf st') (lo + i)))) ?s2 ?f2
      ⟨rfl, 0, k, rfl, by omega, by omega, by omega, fun i hi => by omega, fun i i1 i2 => by omega⟩) ?p2)
    case f2 =>
      rintro c st2 ⟨rfl, l, r, rfl, a1, a2, a3, a4, a5⟩
      have e : l = r := by omega
      subst e
      exact ⟨rfl, l, l, rfl, a2, a4, a5⟩
    case s2 =>
      rintro x c st2 _ hx ⟨rfl, l, r, rfl, a1, a2, a3, a4, a5⟩
      dsimp only
      by_cases g : l ≥ r
      · rw [if_pos g]
        have e : l = r := by omega
        subst e
        exact wpS_pure ⟨rfl, l, l, rfl, a2, a4, a5⟩
      · rw [if_neg g]
        refine wpS_bind (w_ltAt C hkd (al'.at (by omega)) (al'.at (by omega)) ?_)
        cases e : κ.blt (KK κ (arrOf st2) (lo + k)) (KK κ (arrOf st2) (lo + (l + r) / 2)) with
        | true =>
          show wpS _ _ _ _ (if true = true then _ else _) _ _
          rw [if_pos rfl]
          exact wpS_pure ⟨rfl, l, (l + r) / 2, rfl, by omega, by omega, by omega, a4, fun i i1 i2 => KeyOrd.klt_of_klt_of_kle e (u _ _ i1 i2)⟩
        | false =>
          show wpS _ _ _ _ (if false = true then _ else _) _ _
          rw [if_neg (by decide)]
          exact wpS_pure ⟨rfl, (l + r) / 2 + 1, r, rfl, by omega, by omega, by omega, fun i i1 => KeyOrd.kle_trans (u i ((l + r) / 2) (by omega) (by omega)) (show κ.kle _ _ from e), a5⟩
    case p2 =>
      rintro c st2 ⟨rfl, l, r, rfl, a1, a2, a3⟩
      show wpS _ _ _ _ (moveDown' (lo + k) (lo + l) >>= fun _ => pure (ForInStep.yield (none, ()))) _ _
      rw [moveDown'_eq]
      have hs : lo + k < (arrOf st2).size := by omega
      refine wpS_bind (wpS_modify (wpS_pure ⟨rfl, f.trans ⟨rfl, rfl, rfl, bubble_perm _ _ _, fun i hi => ?_⟩, by omega, fun i j i1 i2 => ?_⟩))
      · show (bubble (arrOf st2) (lo + k) (lo + k - (lo + l)))[i]? = _
        rw [getElem?_bubble hs _ (by omega), if_neg (by omega), if_neg (by omega)]
      · show κ.kle (KK κ (bubble (arrOf st2) (lo + k) (lo + k - (lo + l))) (lo + i)) (KK κ (bubble (arrOf st2) (lo + k) (lo + k - (lo + l))) (lo + j))
        rw [KK_bubble hs (by omega), KK_bubble hs (by omega), show lo + k - (lo + k - (lo + l)) = lo + l by omega]
        by_cases c1 : lo + i = lo + l
        · rw [if_pos c1]
          by_cases c2 : lo + j = lo + l
          · rw [if_pos c2]; exact KeyOrd.kle_refl _
          · rw [if_neg c2, if_pos (by omega)]
            have q := a3 (j - 1) (by omega) (by omega)
            rw [show lo + (j - 1) = lo + j - 1 by omega] at q
            exact KeyOrd.kle_of_klt q
        · rw [if_neg c1]
          by_cases c2 : lo + j = lo + l
          · rw [if_pos c2, if_neg (by omega)]
            exact a2 i (by omega)
          · rw [if_neg c2]
            by_cases c3 : lo + l < lo + i ∧ lo + i ≤ lo + k
            · rw [if_pos c3, if_pos (by omega)]
              have q := u (i - 1) (j - 1) (by omega) (by omega)
              rw [show lo + (i - 1) = lo + i - 1 by omega, show lo + (j - 1) = lo + j - 1 by omega] at q
              exact q
            · rw [if_neg c3]
              by_cases c4 : lo + l < lo + j ∧ lo + j ≤ lo + k
              · rw [if_pos c4]
                have q := u i (j - 1) (by omega) (by omega)
                rw [show lo + (j - 1) = lo + j - 1 by omega] at q
                exact q
              · rw [if_neg c4]
                exact u i j i1 (by omega)
end
end Tim
set_option Elab.async false
set_option linter.all false
set_option maxRecDepth 100000
set_option maxHeartbeats 4000000
namespace Tim
open PySem PyProof.Rows
section
variable {prog : Program} {w : World} {A : Around} {E : Value → Shared → Prop} {s : Shared} {kd : SortKind} {κ : KeyKind}
theorem w_set {M : Model} {σ : Type} {st st' : σ} {Q : PUnit → σ → Prop} (h : Q ⟨⟩ st') : wpS M A E s (set st' : StateT σ Sem PUnit) Q st := by
  unfold wpS; rw [StateT.run_set]; exact wpAny_pure ⟨rfl, h⟩
theorem splice : ∀ (m : List Keyed) (arr : Array Keyed) (sa k : Nat), sa + k + m.length ≤ arr.size →
    ((m.zipIdx k).foldl (fun a x => match x with | (p, j) => a.setIfInBounds (sa + j) p) arr).toList = arr.toList.take (sa + k) ++ m ++ arr.toList.drop (sa + k + m.length)
  | [], arr, sa, k, _ => by simp
  | p :: r, arr, sa, k, h => by
    rw [List.length_cons] at h
    have hk : sa + k < arr.size := by omega
    rw [List.zipIdx_cons, List.foldl_cons]
    show ((r.zipIdx (k + 1)).foldl _ (arr.setIfInBounds (sa + k) p)).toList = _
    rw [splice r (arr.setIfInBounds (sa + k) p) sa (k + 1) (by rw [Array.size_setIfInBounds]; omega)]
    have e : (arr.setIfInBounds (sa + k) p).toList = arr.toList.set (sa + k) p := by simp
    have hl : sa + k < arr.toList.length := by simpa using hk
    rw [e, show sa + (k + 1) = sa + k + 1 by omega, List.length_cons, show sa + k + (r.length + 1) = sa + k + 1 + r.length by omega]
    have e1 : (arr.toList.set (sa + k) p).take (sa + k + 1) = arr.toList.take (sa + k) ++ [p] := by
      rw [List.take_succ, List.getElem?_set_self hl, List.take_set_of_le (Nat.le_refl _)]; rfl
    have e2 : (arr.toList.set (sa + k) p).drop (sa + k + 1 + r.length) = arr.toList.drop (sa + k + 1 + r.length) := List.drop_set_of_lt (by omega)
    rw [e1, e2]; simp
def seg (arr : Array Keyed) (lo n : Nat) : List Keyed := (arr.toList.drop lo).take n
theorem seg_at {arr : Array Keyed} {lo n i : Nat} (hi : i < n) : (seg arr lo n)[i]? = arr[lo + i]? := by
  unfold seg
  rw [List.getElem?_take_of_lt hi, List.getElem?_drop]; simp
theorem seg_len {arr : Array Keyed} {lo n : Nat} (h : lo + n ≤ arr.size) : (seg arr lo n).length = n := by
  unfold seg
  rw [List.length_take, List.length_drop]; simp; omega
theorem up_srt {st : SortSt} {lo n : Nat} (h : lo + n ≤ (arrOf st).size) : Up κ st lo n ↔ Srt κ (seg (arrOf st) lo n) := by
  have hl := seg_len h
  have at' : ∀ i (hi : i < (seg (arrOf st) lo n).length), KK κ (arrOf st) (lo + i) = kk κ (seg (arrOf st) lo n)[i] := fun i hi => by
    have e : (seg (arrOf st) lo n)[i]? = some (seg (arrOf st) lo n)[i] := by simp
    rw [seg_at (by omega)] at e
    exact KK_at e
  constructor
  · intro u
    refine List.pairwise_iff_getElem.mpr fun i j hi hj hij => ?_
    show κ.kle _ _
    rw [← at' i hi, ← at' j hj]
    exact u i j (by omega) (by omega)
  · intro p i j hij hj
    rw [at' i (by omega), at' j (by omega)]
    by_cases e : i = j
    · subst e; exact KeyOrd.kle_refl _
    · exact List.pairwise_iff_getElem.mp p i j (by omega) (by omega) (by omega)
theorem seg_split {arr : Array Keyed} (lo n m : Nat) : seg arr lo (n + m) = seg arr lo n ++ seg arr (lo + n) m := by
  unfold seg
  rw [List.take_add, List.drop_drop]
theorem seg_ext {arr : Array Keyed} {lo n : Nat} : (arr.extract lo (lo + n)).toList = seg arr lo n := by
  rw [Array.toList_extract, List.extract_eq_drop_take, show lo + n - lo = n by omega]; rfl
theorem list_parts {arr : Array Keyed} (lo n : Nat) : arr.toList = arr.toList.take lo ++ (seg arr lo n ++ arr.toList.drop (lo + n)) := by
  unfold seg
  rw [← List.drop_drop, List.take_append_drop, List.take_append_drop]
theorem take_two (p r t : List Keyed) (n : Nat) (h : p.length + r.length ≤ n) : (p ++ (r ++ t)).take n = p ++ (r ++ t.take (n - p.length - r.length)) := by
  rw [List.take_append, List.take_of_length_le (show p.length ≤ n by omega), List.take_append, List.take_of_length_le (show r.length ≤ n - p.length by omega)]
theorem w_mergeAt {st : SortSt} {i sa na pw nb pw2 : Nat} {Q : Bool → SortSt → Prop} (C : CmpOk prog w A s kd κ) (hk : kindOf st = kd) (al : All κ st) (hp1 : (pendingOf st)[i]? = some (sa, na, pw)) (hp2 : (pendingOf st)[i + 1]? = some (sa + na, nb, pw2))
    (h1 : 1 ≤ na) (h2 : 1 ≤ nb) (hz : sa + na + nb ≤ (arrOf st).size) (ua : Up κ st sa na) (ub : Up κ st (sa + na) nb) (hfl : failedOf st = none)
    (h : ∀ st', kindOf st' = kindOf st → failedOf st' = none → pendingOf st' = ((pendingOf st).setIfInBounds i (sa, na + nb, pw)).eraseIdxIfInBounds (i + 1) → (arrOf st').Perm (arrOf st) →
      (∀ k, k < sa ∨ sa + (na + nb) ≤ k → (arrOf st')[k]? = (arrOf st)[k]?) → Up κ st' sa (na + nb) → Q true st') : wpS (model prog w) A E s (mergeAt' i) Q st := by
  have hE : ∀ p : Array (Nat × Nat × Nat), ∃ st1 : SortSt, st1 = setPending st p := fun p => ⟨_, rfl⟩
  obtain ⟨st1, e1⟩ := hE (((pendingOf st).setIfInBounds i (sa, na + nb, pw)).eraseIdxIfInBounds (i + 1))
  have ka : kindOf st1 = kindOf st := by rw [e1]
  have fa : failedOf st1 = failedOf st := by rw [e1]
  have pa : pendingOf st1 = ((pendingOf st).setIfInBounds i (sa, na + nb, pw)).eraseIdxIfInBounds (i + 1) := by rw [e1]
  have aa : arrOf st1 = arrOf st := by rw [e1]
  have SA := (up_srt (κ := κ) (st := st) (lo := sa) (n := na) (by omega)).mp ua
  have SB := (up_srt (κ := κ) (st := st) (lo := sa + na) (n := nb) (by omega)).mp ub
  have plain : (∀ x ∈ seg (arrOf st) sa na, ∀ y ∈ seg (arrOf st) (sa + na) nb, le κ x y) → Q true st1 := fun hle => by
    refine h st1 ka (fa.trans hfl) pa (by rw [aa]) (fun k _ => by rw [aa]) ?_
    refine (up_srt (by rw [aa]; omega)).mpr ?_
    rw [aa, seg_split]
    exact List.pairwise_append.mpr ⟨SA, SB, hle⟩
  refine wpS_bind (wpS_get ?_)
  show wpS _ _ _ _ (match ((pendingOf st)[i]?, (pendingOf st)[i + 1]?) with | _ => _) _ _
  rw [hp1, hp2]
  refine wpS_bind (w_set ?_)
  show wpS _ _ _ _ _ _ (setPending st (((pendingOf st).setIfInBounds i (sa, na + nb, pw)).eraseIdxIfInBounds (i + 1)))
  rw [← e1]
  obtain ⟨y0, ey0, hy0⟩ := al.at (show sa + na < (arrOf st).size by omega)
  refine wpS_bind (w_elem ey0 ?_)
  have memA : ∀ x ∈ seg (arrOf st) sa na, ∃ j, j < na ∧ (arrOf st)[sa + j]? = some x := fun x hx => by
    obtain ⟨j, hj, rfl⟩ := List.mem_iff_getElem.mp hx
    have hj' : j < na := by rw [seg_len (by omega)] at hj; exact hj
    exact ⟨j, hj', by rw [← seg_at hj']; simp⟩
  have memB : ∀ x ∈ seg (arrOf st) (sa + na) nb, ∃ j, j < nb ∧ (arrOf st)[sa + na + j]? = some x := fun x hx => by
    obtain ⟨j, hj, rfl⟩ := List.mem_iff_getElem.mp hx
    have hj' : j < nb := by rw [seg_len (by omega)] at hj; exact hj
    exact ⟨j, hj', by rw [← seg_at hj']; simp⟩
  have inA : ∀ j x, j < na → (arrOf st)[sa + j]? = some x → x ∈ seg (arrOf st) sa na := fun j x hj e => List.mem_of_getElem? (i := j) (by rw [seg_at hj]; exact e)
  have inB : ∀ j x, j < nb → (arrOf st)[sa + na + j]? = some x → x ∈ seg (arrOf st) (sa + na) nb := fun j x hj e => List.mem_of_getElem? (i := j) (by rw [seg_at hj]; exact e)
  have upA : ∀ {j j' : Nat} {x x' : Keyed}, j ≤ j' → j' < na → (arrOf st)[sa + j]? = some x → (arrOf st)[sa + j']? = some x' → le κ x x' := fun {j j' x x'} hj hj' e e' => by
    have q := ua j j' hj hj'
    rw [KK_at e, KK_at e'] at q; exact q
  have upB : ∀ {j j' : Nat} {x x' : Keyed}, j ≤ j' → j' < nb → (arrOf st)[sa + na + j]? = some x → (arrOf st)[sa + na + j']? = some x' → le κ x x' := fun {j j' x x'} hj hj' e e' => by
    have q := ub j j' hj hj'
    rw [KK_at e, KK_at e'] at q; exact q
  have y0le : ∀ y ∈ seg (arrOf st) (sa + na) nb, le κ y0 y := fun y hy => by
    obtain ⟨j, hj, e⟩ := memB y hy
    exact upB (Nat.zero_le j) hj (by simpa using ey0) e
  refine wpS_bind (w_gal (κ := κ) (fun j => !κ.blt (kk κ y0) (KK κ (arrOf st) (sa + j))) C (ka.trans hk) hy0 (fun j hj => al.at (by omega)) (fun j hj => rfl) (fun u v huv hv e => ?_) (show 0 < na by omega) fun k G => ?_)
  · have q := ua u v huv hv
    have e : κ.blt (kk κ y0) (KK κ (arrOf st) (sa + v)) = false := by simpa using e
    have : κ.blt (kk κ y0) (KK κ (arrOf st) (sa + u)) = false := KeyOrd.kle_trans q e
    show (!κ.blt (kk κ y0) (KK κ (arrOf st) (sa + u))) = true
    rw [this]; rfl
  have lowA : ∀ j x, j < k → (arrOf st)[sa + j]? = some x → le κ x y0 := fun j x hj e => by
    have := G.lo j hj
    rw [KK_at e] at this
    exact le_of_not (by simpa using this)
  have highA : ∀ j x, k ≤ j → j < na → (arrOf st)[sa + j]? = some x → le κ y0 x := fun j x hj hj' e => by
    have := G.hi j hj hj'
    rw [KK_at e] at this
    exact le_of_lt (by simpa using this)
  have hkn := G.le
  show wpS _ _ _ _ (if (na - k == 0) = true then _ else _) _ _
  by_cases c1 : (na - k == 0) = true
  · rw [if_pos c1]
    have c1' : na - k = 0 := by simpa using c1
    refine wpS_pure (plain fun x hx y hy => ?_)
    obtain ⟨j, hj, e⟩ := memA x hx
    exact (lowA j x (by omega) e).trans (y0le y hy)
  rw [if_neg c1]
  have c1' : ¬ na - k = 0 := by simpa using c1
  obtain ⟨z, ez, hz'⟩ := al.at (show sa + k + (na - k) - 1 < (arrOf st).size by omega)
  have ez' : (arrOf st)[sa + (na - 1)]? = some z := by rw [show sa + (na - 1) = sa + k + (na - k) - 1 by omega]; exact ez
  refine wpS_bind (w_elem ez ?_)
  have zge : ∀ x ∈ seg (arrOf st) sa na, le κ x z := fun x hx => by
    obtain ⟨j, hj, e⟩ := memA x hx
    exact upA (show j ≤ na - 1 by omega) (by omega) e ez'
  refine wpS_bind (w_gal (κ := κ) (fun j => κ.blt (KK κ (arrOf st) (sa + na + j)) (kk κ z)) C (ka.trans hk) hz' (fun j hj => al.at (by omega)) (fun j hj => rfl) (fun u v huv hv e => ?_) (show nb - 1 < nb by omega) fun m G2 => ?_)
  · exact KeyOrd.klt_of_kle_of_klt (ub u v huv hv) e
  have lowB : ∀ j y, j < m → (arrOf st)[sa + na + j]? = some y → le κ y z := fun j y hj e => by
    have := G2.lo j hj
    rw [KK_at e] at this
    exact le_of_lt this
  have highB : ∀ j y, m ≤ j → j < nb → (arrOf st)[sa + na + j]? = some y → le κ z y := fun j y hj hj' e => by
    have := G2.hi j hj hj'
    rw [KK_at e] at this
    exact le_of_not this
  have hmn := G2.le
  show wpS _ _ _ _ (if (m == 0) = true then _ else _) _ _
  by_cases c2 : (m == 0) = true
  · rw [if_pos c2]
    have c2' : m = 0 := by simpa using c2
    refine wpS_pure (plain fun x hx y hy => ?_)
    obtain ⟨j, hj, e⟩ := memB y hy
    exact (zge x hx).trans (highB j y (by omega) hj e)
  rw [if_neg c2]
  have c2' : ¬ m = 0 := by simpa using c2
  have eX : ((arrOf st).extract (sa + k) (sa + na)).toList = seg (arrOf st) (sa + k) (na - k) := by
    rw [← seg_ext, show sa + k + (na - k) = sa + na by omega]
  have eY : ((arrOf st).extract (sa + na) (sa + na + m)).toList = seg (arrOf st) (sa + na) m := seg_ext
  have zX : ((arrOf st).extract (sa + k) (sa + na)).size = na - k := by simp; omega
  have zY : ((arrOf st).extract (sa + na) (sa + na + m)).size = m := by simp; omega
  have splA : seg (arrOf st) sa na = seg (arrOf st) sa k ++ seg (arrOf st) (sa + k) (na - k) := by rw [← seg_split, show k + (na - k) = na by omega]
  have splB : seg (arrOf st) (sa + na) nb = seg (arrOf st) (sa + na) m ++ seg (arrOf st) (sa + na + m) (nb - m) := by rw [← seg_split, show m + (nb - m) = nb by omega]
  have SX : Srt κ (seg (arrOf st) (sa + k) (na - k)) := by rw [splA] at SA; exact (List.pairwise_append.mp SA).2.1
  have SY : Srt κ (seg (arrOf st) (sa + na) m) := by rw [splB] at SB; exact (List.pairwise_append.mp SB).1
  have memX : ∀ x ∈ seg (arrOf st) (sa + k) (na - k), ∃ j, k ≤ j ∧ j < na ∧ (arrOf st)[sa + j]? = some x := fun x hx => by
    obtain ⟨j, hj, rfl⟩ := List.mem_iff_getElem.mp hx
    have hj' : j < na - k := by rw [seg_len (by omega)] at hj; exact hj
    exact ⟨k + j, by omega, by omega, by rw [← Nat.add_assoc, ← seg_at hj']; simp⟩
  have memY : ∀ x ∈ seg (arrOf st) (sa + na) m, ∃ j, j < m ∧ (arrOf st)[sa + na + j]? = some x := fun x hx => by
    obtain ⟨j, hj, rfl⟩ := List.mem_iff_getElem.mp hx
    have hj' : j < m := by rw [seg_len (by omega)] at hj; exact hj
    exact ⟨j, hj', by rw [← seg_at hj']; simp⟩
  have hX : ∀ x ∈ ((arrOf st).extract (sa + k) (sa + na)).toList, Has κ x := fun x hx => by
    rw [eX] at hx
    obtain ⟨j, _, _, e⟩ := memX x hx
    exact al x (List.mem_of_getElem? (i := sa + j) (by simpa using e))
  have hY : ∀ x ∈ ((arrOf st).extract (sa + na) (sa + na + m)).toList, Has κ x := fun x hx => by
    rw [eY] at hx
    obtain ⟨j, _, e⟩ := memY x hx
    exact al x (List.mem_of_getElem? (i := sa + na + j) (by simpa using e))
  have at0 : ∀ v, ((arrOf st).extract (sa + na) (sa + na + m))[0]? = some v → v = y0 := fun v e => by
    have e' : (((arrOf st).extract (sa + na) (sa + na + m)).toList)[0]? = some v := by rw [Array.getElem?_toList]; exact e
    rw [eY, seg_at (by omega)] at e'
    rw [Nat.add_zero, ey0] at e'
    exact (Option.some.inj e').symm
  have atL : ∀ v, ((arrOf st).extract (sa + k) (sa + na))[((arrOf st).extract (sa + k) (sa + na)).size - 1]? = some v → v = z := fun v e => by
    rw [zX] at e
    have e' : (((arrOf st).extract (sa + k) (sa + na)).toList)[na - k - 1]? = some v := by rw [Array.getElem?_toList]; exact e
    rw [eX, seg_at (by omega), show sa + k + (na - k - 1) = sa + (na - 1) by omega, ez'] at e'
    exact (Option.some.inj e').symm
  have hl : ∀ v, ((arrOf st).extract (sa + k) (sa + na))[((arrOf st).extract (sa + k) (sa + na)).size - 1]? = some v → ∀ y ∈ ((arrOf st).extract (sa + na) (sa + na + m)).toList, le κ y v := fun v e y hy => by
    rw [atL v e]
    rw [eY] at hy
    obtain ⟨j, hj, e⟩ := memY y hy
    exact lowB j y hj e
  have hf : ∀ v, ((arrOf st).extract (sa + na) (sa + na + m))[0]? = some v → ∀ x ∈ ((arrOf st).extract (sa + k) (sa + na)).toList, le κ v x := fun v e x hx => by
    rw [at0 v e]
    rw [eX] at hx
    obtain ⟨j, hj, hj', e⟩ := memX x hx
    exact highA j x hj hj' e
  have fin : ∀ (r : Array Keyed) (st2 : SortSt), Like st1 st2 → Fn κ ((arrOf st).extract (sa + k) (sa + na)) ((arrOf st).extract (sa + na) (sa + na + m)) r →
      wpS (model prog w) A E s (modify (fun s : SortSt => SortSt.mk' (kindOf s) (r.toList.zipIdx.foldl (fun a x => match x with | (p, j) => a.setIfInBounds (sa + k + j) p) (arrOf s)) (pendingOf s) (gallopOf s) (failedOf s)) >>= fun _ => (get : StateT SortSt Sem SortSt) >>= fun s => pure (failedOf s).isNone) Q st2 := fun r st2 L F => by
    have ar2 : arrOf st2 = arrOf st := L.ar.trans aa
    have fl2 : failedOf st2 = none := L.fl.trans (fa.trans hfl)
    have pr : r.toList.Perm (seg (arrOf st) (sa + k) (na - k) ++ seg (arrOf st) (sa + na) m) := by
      have := F.perm
      rw [eX, eY] at this; exact this
    have lr : r.toList.length = na - k + m := by
      have := pr.length_eq
      rw [List.length_append, seg_len (by omega), seg_len (by omega)] at this; exact this
    have sp := splice r.toList (arrOf st2) (sa + k) 0 (by rw [ar2]; omega)
    rw [ar2, Nat.add_zero, lr] at sp
    have mid : seg (arrOf st) (sa + k) (na - k + m) = seg (arrOf st) (sa + k) (na - k) ++ seg (arrOf st) (sa + na) m := by
      rw [seg_split, show sa + k + (na - k) = sa + na by omega]
    have parts := list_parts (arr := arrOf st) (sa + k) (na - k + m)
    refine wpS_bind (wpS_modify (wpS_bind (wpS_get ?_)))
    have e3 : (failedOf st2).isNone = true := by rw [fl2]; rfl
    show wpS _ _ _ _ (pure (failedOf st2).isNone) _ _
    rw [e3, ar2]
    generalize hR : (r.toList.zipIdx.foldl (fun a x => match x with | (p, j) => a.setIfInBounds (sa + k + j) p) (arrOf st)) = R at sp
    refine wpS_pure (h _ (L.kd.trans ka) fl2 (L.pn.trans pa) ?_ ?_ ?_)
    · show R.Perm (arrOf st)
      apply Array.perm_iff_toList_perm.mpr
      rw [sp]
      refine List.Perm.trans ?_ (List.Perm.of_eq parts.symm)
      rw [List.append_assoc, mid]
      exact List.Perm.append_left _ (List.Perm.append_right _ pr)
    · intro t ht
      show R[t]? = _
      have e5 : R[t]? = R.toList[t]? := by simp
      have e6 : (arrOf st)[t]? = (arrOf st).toList[t]? := by simp
      have hlt : ((arrOf st).toList.take (sa + k)).length = sa + k := by rw [List.length_take]; simp; omega
      rw [e5, e6, sp]
      rcases ht with ht | ht
      · rw [List.append_assoc, List.getElem?_append_left (by omega), List.getElem?_take_of_lt (by omega)]
      · rw [List.getElem?_append_right (by rw [List.length_append, hlt, lr]; omega), List.length_append, hlt, lr, List.getElem?_drop]
        congr 1; omega
    · have hRz : R.size = (arrOf st).size := by
        rw [← hR]
        have := congrArg List.length sp
        rw [hR]
        simp only [List.length_append, List.length_take, List.length_drop, lr, Array.length_toList] at this
        omega
      refine (up_srt (st := SortSt.mk' (kindOf st2) R (pendingOf st2) (gallopOf st2) (failedOf st2)) (by show sa + (na + nb) ≤ R.size; omega)).mpr ?_
      show Srt κ (seg R sa (na + nb))
      have e7 : seg R sa (na + nb) = seg (arrOf st) sa k ++ (r.toList ++ seg (arrOf st) (sa + na + m) (nb - m)) := by
        unfold seg
        rw [sp]
        have hlt : ((arrOf st).toList.take sa).length = sa := by rw [List.length_take]; simp; omega
        have e8 : (arrOf st).toList.take (sa + k) = (arrOf st).toList.take sa ++ ((arrOf st).toList.drop sa).take k := by rw [List.take_add]
        rw [e8, List.append_assoc, List.append_assoc, List.drop_append_of_le_length (by omega), List.drop_eq_nil_of_le (by omega), List.nil_append]
        have l1 : (((arrOf st).toList.drop sa).take k).length = k := by rw [List.length_take, List.length_drop]; simp; omega
        rw [take_two _ _ _ _ (by rw [l1, lr]; omega), l1, lr]
        rw [show na + nb - k - (na - k + m) = nb - m by omega, show sa + k + (na - k + m) = sa + na + m by omega]
      rw [e7]
      have rm : ∀ x ∈ r.toList, x ∈ seg (arrOf st) (sa + k) (na - k) ∨ x ∈ seg (arrOf st) (sa + na) m := fun x hx => List.mem_append.mp (pr.mem_iff.mp hx)
      have tailM : ∀ y ∈ seg (arrOf st) (sa + na + m) (nb - m), ∃ j, m ≤ j ∧ j < nb ∧ (arrOf st)[sa + na + j]? = some y := fun y hy => by
        obtain ⟨j, hj, rfl⟩ := List.mem_iff_getElem.mp hy
        have hj' : j < nb - m := by rw [seg_len (by omega)] at hj; exact hj
        exact ⟨m + j, by omega, by omega, by rw [← Nat.add_assoc, ← seg_at hj']; simp⟩
      have headM : ∀ y ∈ seg (arrOf st) sa k, ∃ j, j < k ∧ (arrOf st)[sa + j]? = some y := fun y hy => by
        obtain ⟨j, hj, rfl⟩ := List.mem_iff_getElem.mp hy
        have hj' : j < k := by rw [seg_len (by omega)] at hj; exact hj
        exact ⟨j, hj', by rw [← seg_at hj']; simp⟩
      refine List.pairwise_append.mpr ⟨by rw [splA] at SA; exact (List.pairwise_append.mp SA).1, List.pairwise_append.mpr ⟨F.srt, by rw [splB] at SB; exact (List.pairwise_append.mp SB).2.1, fun x hx y hy => ?_⟩, fun x hx y hy => ?_⟩
      · obtain ⟨j, hj, hj', e⟩ := tailM y hy
        rcases rm x hx with q | q
        · obtain ⟨j2, _, hj2, e2⟩ := memX x q
          exact (zge x (inA j2 x hj2 e2)).trans (highB j y hj hj' e)
        · obtain ⟨j2, hj2, e2⟩ := memY x q
          exact upB (show j2 ≤ j by omega) hj' e2 e
      · obtain ⟨j, hj, e⟩ := headM x hx
        rcases List.mem_append.mp hy with q | q
        · rcases rm y q with q | q
          · obtain ⟨j2, h3, hj2, e2⟩ := memX y q
            exact upA (show j ≤ j2 by omega) hj2 e e2
          · obtain ⟨j2, hj2, e2⟩ := memY y q
            exact (lowA j x hj e).trans (y0le y (inB j2 y (by omega) e2))
        · obtain ⟨j2, _, hj2, e2⟩ := tailM y q
          exact (lowA j x hj e).trans (y0le y (inB j2 y hj2 e2))
  show wpS _ _ _ _ (if na - k ≤ m then _ else _) _ _
  have h0 : ∀ x y, ((arrOf st).extract (sa + k) (sa + na))[0]? = some x → ((arrOf st).extract (sa + na) (sa + na + m))[0]? = some y → le κ y x := fun x y e e' => hf y e' x (List.mem_of_getElem? (i := 0) (by rw [Array.getElem?_toList]; exact e))
  by_cases c3 : na - k ≤ m
  · rw [if_pos c3]
    exact wpS_bind (w_mLo C (ka.trans hk) hX hY (by rw [eX]; exact SX) (by rw [eY]; exact SY) (by rw [zX]; omega) (by rw [zY]; omega) h0 hl fin)
  · rw [if_neg c3]
    exact wpS_bind (w_mHi C (ka.trans hk) hX hY (by rw [eX]; exact SX) (by rw [eY]; exact SY) (by rw [zX]; omega) (by rw [zY]; omega) hf hl fin)
end
end Tim
set_option Elab.async false
set_option linter.all false
set_option maxRecDepth 100000
set_option maxHeartbeats 4000000
namespace Tim
open PySem PyProof.Rows
def Ch : List (Nat × Nat × Nat) → Nat → Nat → Prop
  | [], s, e => s = e
  | (a, n, _) :: r, s, e => a = s ∧ 1 ≤ n ∧ Ch r (s + n) e
theorem Ch.app {P Q : List (Nat × Nat × Nat)} : ∀ {s e : Nat}, Ch (P ++ Q) s e ↔ ∃ m, Ch P s m ∧ Ch Q m e := by
  induction P with
  | nil => intro s e; exact ⟨fun h => ⟨s, rfl, h⟩, fun ⟨m, h1, h2⟩ => by have h1 : s = m := h1; rw [h1]; exact h2⟩
  | cons x P ih =>
    obtain ⟨a, n, q⟩ := x
    intro s e
    constructor
    · rintro ⟨h1, h2, h3⟩
      obtain ⟨m, k1, k2⟩ := ih.mp h3
      exact ⟨m, ⟨h1, h2, k1⟩, k2⟩
    · rintro ⟨m, ⟨h1, h2, h3⟩, h4⟩
      exact ⟨h1, h2, ih.mpr ⟨m, h3, h4⟩⟩
theorem Ch.bnd : ∀ {P : List (Nat × Nat × Nat)} {s e : Nat}, Ch P s e → s + P.length ≤ e ∧ ∀ q ∈ P, s ≤ q.1 ∧ q.1 + q.2.1 ≤ e ∧ 1 ≤ q.2.1
  | [], s, e, h => by
    have h : s = e := h
    exact ⟨by simp [h], fun q hq => by simp at hq⟩
  | (a, n, t) :: r, s, e, h => by
    obtain ⟨h1, h2, h3⟩ := h
    obtain ⟨k1, k2⟩ := Ch.bnd h3
    refine ⟨by rw [List.length_cons]; omega, fun q hq => ?_⟩
    rcases List.mem_cons.mp hq with z | z
    · subst z
      exact ⟨by show s ≤ a; omega, by show a + n ≤ e; omega, h2⟩
    · have := k2 q z
      exact ⟨by omega, this.2⟩
theorem set_erase {α : Type} (P : List α) (x y v : α) (T : List α) : ((P ++ x :: y :: T).set P.length v).eraseIdx (P.length + 1) = P ++ v :: T := by
  induction P with
  | nil => rfl
  | cons p P ih =>
    show p :: ((P ++ x :: y :: T).set P.length v).eraseIdx (P.length + 1) = p :: (P ++ v :: T)
    rw [ih]
theorem two_at {α : Type} : ∀ {L : List α} {i : Nat}, i + 1 < L.length → ∃ P x y T, L = P ++ x :: y :: T ∧ P.length = i
  | [], i, h => by simp at h
  | [_], i, h => by simp at h
  | a :: b :: L, 0, _ => ⟨[], a, b, L, rfl, rfl⟩
  | a :: b :: L, i + 1, h => by
    obtain ⟨P, x, y, T, e, l⟩ := two_at (L := b :: L) (i := i) (by simp at h ⊢; omega)
    exact ⟨a :: P, x, y, T, by rw [e]; rfl, by simp [l]⟩
section
variable {prog : Program} {w : World} {A : Around} {E : Value → Shared → Prop} {s : Shared} {kd : SortKind} {κ : KeyKind} {a₀ : Array Keyed}
structure Rn (κ : KeyKind) (kd : SortKind) (a₀ : Array Keyed) (lo : Nat) (st : SortSt) : Prop where
  kd : kindOf st = kd
  fl : failedOf st = none
  perm : (arrOf st).Perm a₀
  ch : Ch (pendingOf st).toList 0 lo
  up : ∀ q ∈ (pendingOf st).toList, Up κ st q.1 q.2.1
theorem Rn.all {lo : Nat} {st : SortSt} (R : Rn κ kd a₀ lo st) (h : ∀ x ∈ a₀.toList, Has κ x) : All κ st := fun x hx => h x ((Array.perm_iff_toList_perm.mp R.perm).mem_iff.mp hx)
theorem Up.eq {st st' : SortSt} {lo n : Nat} (h : Up κ st lo n) (e : ∀ k, lo ≤ k → k < lo + n → (arrOf st')[k]? = (arrOf st)[k]?) : Up κ st' lo n := fun i j h1 h2 => by
  rw [KK_congr (e (lo + i) (by omega) (by omega)), KK_congr (e (lo + j) (by omega) (by omega))]
  exact h i j h1 h2
theorem w_merge {st : SortSt} {lo i : Nat} {Q : Bool → SortSt → Prop} (C : CmpOk prog w A s kd κ) (ha : ∀ x ∈ a₀.toList, Has κ x) (R : Rn κ kd a₀ lo st) (hl : lo ≤ a₀.size) (hi : i + 1 < (pendingOf st).size)
    (h : ∀ st', Rn κ kd a₀ lo st' → (pendingOf st').size + 1 = (pendingOf st).size → (∀ k, lo ≤ k → (arrOf st')[k]? = (arrOf st)[k]?) → Q true st') : wpS (model prog w) A E s (mergeAt' i) Q st := by
  obtain ⟨P, x, y, T, e, l⟩ := two_at (L := (pendingOf st).toList) (i := i) (by simpa using hi)
  obtain ⟨sa, na, pw⟩ := x
  obtain ⟨sb, nb, pw2⟩ := y
  have hz : (arrOf st).size = a₀.size := R.perm.size_eq
  have ch := R.ch
  rw [e] at ch
  obtain ⟨m, c1, c2⟩ := Ch.app.mp ch
  obtain ⟨d1, d2, d3, d4, d5⟩ := c2
  subst d1
  subst d3
  have b1 := c1.bnd
  have b2 := d5.bnd
  have up1 := R.up (sa, na, pw) (by rw [e]; simp)
  have up2 := R.up (sa + na, nb, pw2) (by rw [e]; simp)
  have e1 : (pendingOf st)[i]? = some (sa, na, pw) := by
    rw [← Array.getElem?_toList, e, ← l]; simp
  have e2 : (pendingOf st)[i + 1]? = some (sa + na, nb, pw2) := by
    rw [← Array.getElem?_toList, e, ← l, List.getElem?_append_right (by omega)]; simp
  have hle : sa + na + nb ≤ lo := by have := b2.1; omega
  refine w_mergeAt C R.kd (R.all ha) e1 e2 d2 d4 (by omega) up1 up2 R.fl fun st' k1 k2 k3 k4 k5 k6 => ?_
  have ep : (pendingOf st').toList = P ++ (sa, na + nb, pw) :: T := by
    have hb : i + 1 < ((pendingOf st).setIfInBounds i (sa, na + nb, pw)).size := by rw [Array.size_setIfInBounds]; exact hi
    rw [k3, Array.eraseIdxIfInBounds, dif_pos hb, Array.toList_eraseIdx, Array.toList_setIfInBounds, e, ← l]
    exact set_erase P _ _ _ T
  refine h st' ⟨k1.trans R.kd, k2, k4.trans R.perm, ?_, fun q hq => ?_⟩ ?_ fun k hk => k5 k (.inr (by omega))
  · rw [ep]
    refine Ch.app.mpr ⟨sa, c1, rfl, by omega, ?_⟩
    rw [show sa + (na + nb) = sa + na + nb by omega]; exact d5
  · rw [ep] at hq
    rcases List.mem_append.mp hq with z | z
    · have := b1.2 q z
      exact (R.up q (by rw [e]; exact List.mem_append_left _ z)).eq fun k _ hk => k5 k (.inl (by omega))
    · rcases List.mem_cons.mp z with z | z
      · subst z; exact k6
      · have := b2.2 q z
        exact (R.up q (by rw [e]; simp [z])).eq fun k hk _ => k5 k (.inr (by omega))
  · have h1 := congrArg List.length ep
    have h2 := congrArg List.length e
    simp at h1 h2
    omega
theorem ch_map {f : Nat × Nat × Nat → Nat × Nat × Nat} (hf : ∀ q, (f q).1 = q.1 ∧ (f q).2.1 = q.2.1) : ∀ {L L' : List (Nat × Nat × Nat)} {s e : Nat}, L'.map (fun q => (q.1, q.2.1)) = L.map (fun q => (q.1, q.2.1)) → Ch L s e → Ch L' s e
  | [], [], _, _, _, h => h
  | [], _ :: _, _, _, h, _ => by simp at h
  | _ :: _, [], _, _, h, _ => by simp at h
  | (a, n, t) :: r, (b, m, u) :: r', s, e, h, c => by
    simp at h
    obtain ⟨⟨h1, h2⟩, h3⟩ := h
    obtain ⟨c1, c2, c3⟩ := c
    subst h1
    subst h2
    exact ⟨c1, c2, ch_map hf (by simpa using h3) c3⟩
theorem mod_map {f : Nat × Nat × Nat → Nat × Nat × Nat} (hf : ∀ q, (f q).1 = q.1 ∧ (f q).2.1 = q.2.1) (p : Array (Nat × Nat × Nat)) (i : Nat) : (p.modify i f).toList.map (fun q => (q.1, q.2.1)) = p.toList.map (fun q => (q.1, q.2.1)) := by
  apply List.ext_getElem?
  intro k
  rw [List.getElem?_map, List.getElem?_map, Array.getElem?_toList, Array.getElem?_toList, Array.getElem?_modify]
  split
  · cases h : p[k]? with
    | none => rfl
    | some q =>
      have := hf q
      simp [this.1, this.2]
  · rfl
theorem Rn.modify {lo : Nat} {st : SortSt} (R : Rn κ kd a₀ lo st) {f : Nat × Nat × Nat → Nat × Nat × Nat} (hf : ∀ q, (f q).1 = q.1 ∧ (f q).2.1 = q.2.1) (i : Nat) : Rn κ kd a₀ lo (setPending st ((pendingOf st).modify i f)) := by
  have e := mod_map hf (pendingOf st) i
  refine ⟨R.kd, R.fl, R.perm, ch_map hf e R.ch, fun q hq => ?_⟩
  have hm : (q.1, q.2.1) ∈ (pendingOf st).toList.map (fun q => (q.1, q.2.1)) := by
    rw [← e]; exact List.mem_map.mpr ⟨q, hq, rfl⟩
  obtain ⟨q', hq', e'⟩ := List.mem_map.mp hm
  have u := R.up q' hq'
  injection e' with e1 e2
  rw [e1, e2] at u
  exact u
theorem ite_less (c : Prop) [Decidable c] (a : Nat) : (if c then a - 1 else a) ≤ a := by split <;> omega
theorem w_sort {st : SortSt} {Q : Unit → SortSt → Prop} (C : CmpOk prog w A s kd κ) (ha : ∀ x ∈ a₀.toList, Has κ x) (hk : kindOf st = kd) (hf : failedOf st = none) (hp : (arrOf st).Perm a₀) (hpn : pendingOf st = #[]) (h1 : 1 ≤ a₀.size)
    (h : ∀ st', failedOf st' = none → (arrOf st').Perm a₀ → Srt κ (arrOf st').toList → Q () st') : wpS (model prog w) A E s sortRuns' Q st := by
  have hz0 : (arrOf st).size = a₀.size := hp.size_eq
  have hz0p : (arrOf st).size = a₀.size := hz0
  unfold arrOf at hz0p
  refine wpS_bind (wpS_get ?_)
  have R0 : Rn κ kd a₀ 0 st := ⟨hk, hf, hp, by rw [hpn]; rfl, fun q hq => by rw [hpn] at hq; simp at hq⟩
  refine wpS_bind (wpS_mono (wpS_forRange (I := fun x c st' => ∃ lo, c = (none, lo) ∧ Rn κ kd a₀ lo st' ∧ lo ≤ a₀.size ∧ (x ≤ lo ∨ lo = a₀.size)) (Q := fun c st' => ∃ lo, c = (none, lo) ∧ Rn κ kd a₀ a₀.size st') ?step ?fin ⟨0, rfl, R0, by omega, .inl (by omega)⟩) ?post)
  case fin =>
    rintro c st' ⟨lo, rfl, R, l1, l2⟩
    have : lo = a₀.size := by
      have : max 0 (arrOf st).size = a₀.size := by omega
      rcases l2 with z | z
      · omega
      · exact z
    subst this
    exact ⟨_, rfl, R⟩
  case step =>
    rintro x c st1 _ hx ⟨lo, rfl, R, l1, l2⟩
    show wpS _ _ _ _ (if lo ≥ (arrOf st).size then _ else _) _ _
    by_cases g : lo ≥ (arrOf st).size
    · rw [if_pos g]
      have : lo = a₀.size := by omega
      subst this
      exact wpS_pure ⟨_, rfl, R⟩
    rw [if_neg g]
    have hz1 : (arrOf st1).size = a₀.size := R.perm.size_eq
    refine wpS_bind (w_count C R.kd (R.all ha) (by rw [hz0, hz1]; omega) (by omega) fun m st2 f2 m1 m2 u2 => ?_)
    have keepR : ∀ {st' : SortSt}, Fr lo st1 st' → Rn κ kd a₀ lo st' := fun {st'} f => by
      refine ⟨f.kd.trans R.kd, f.fl.trans R.fl, f.perm.trans R.perm, by rw [f.pn]; exact R.ch, fun q hq => ?_⟩
      rw [f.pn] at hq
      have := R.ch.bnd.2 q hq
      exact (R.up q hq).eq fun k _ hk => f.low k (by omega)
    have push : ∀ {n : Nat} {st4 : SortSt}, 1 ≤ n → lo + n ≤ a₀.size → Rn κ kd a₀ lo st4 → Up κ st4 lo n → Rn κ kd a₀ (lo + n) (setPending st4 ((pendingOf st4).push (lo, n, 0))) := fun {n st4} n1 n2 R4 u4 => by
      refine ⟨R4.kd, R4.fl, R4.perm, ?_, fun q hq => ?_⟩
      · show Ch ((pendingOf st4).push (lo, n, 0)).toList 0 (lo + n)
        rw [Array.toList_push]
        exact Ch.app.mpr ⟨lo, R4.ch, rfl, n1, rfl⟩
      · have hq : q ∈ ((pendingOf st4).push (lo, n, 0)).toList := hq
        rw [Array.toList_push] at hq
        rcases List.mem_append.mp hq with z | z
        · exact R4.up q z
        · have : q = (lo, n, 0) := by simpa using z
          subst this; exact u4
    have loop : ∀ (n : Nat) (st3 : SortSt) (pw : Nat), Rn κ kd a₀ lo st3 → Up κ st3 lo n → ∀ (y : Nat) (R : ForInStep (Option Unit × Unit) → SortSt → Prop), (∀ st', Rn κ kd a₀ lo st' → Up κ st' lo n → R (.done (none, ())) st' ∧ R (.yield (none, ())) st') →
        wpS (model prog w) A E s ((get : StateT SortSt Sem SortSt) >>= fun v => match (if (pendingOf v).size > 1 then (pendingOf v)[(pendingOf v).size - 2]? else none) with
              | some (_, _, older) => (if older ≤ pw then pure (ForInStep.done (none, ())) else (mergeAt' ((pendingOf v).size - 2) >>= fun b => if (!b) = true then pure (ForInStep.done (some (), ())) else pure (ForInStep.yield (none, ()))))
              | _ => pure (ForInStep.done (none, ()))) R st3 := by
      intro n st4 pw R4 u4 y Rr hR
      refine wpS_bind (wpS_get ?_)
      by_cases c1 : (pendingOf st4).size > 1
      · rw [if_pos c1]
        rcases ho : (pendingOf st4)[(pendingOf st4).size - 2]? with _ | ⟨o1, o2, o3⟩
        · exact wpS_pure (hR st4 R4 u4).1
        · show wpS _ _ _ _ (if o3 ≤ pw then _ else _) _ _
          by_cases c2 : o3 ≤ pw
          · rw [if_pos c2]
            exact wpS_pure (hR st4 R4 u4).1
          · rw [if_neg c2]
            refine wpS_bind (w_merge C ha R4 l1 (by omega) fun st5 R5 _ k5 => ?_)
            show wpS _ _ _ _ (if false = true then _ else _) _ _
            rw [if_neg (by decide)]
            exact wpS_pure (hR st5 R5 (u4.eq fun k hk _ => k5 k hk)).2
      · rw [if_neg c1]
        exact wpS_pure (hR st4 R4 u4).1
    have ends : ∀ {n : Nat} {st5 : SortSt}, 1 ≤ n → Rn κ kd a₀ (lo + n) st5 → lo + n ≤ a₀.size → ∃ l, ((none, lo + n) : Option Unit × Nat) = (none, l) ∧ Rn κ kd a₀ l st5 ∧ l ≤ a₀.size ∧ (x + 1 ≤ l ∨ l = a₀.size) := fun {n st5} n1 R5 n2 => ⟨_, rfl, R5, n2, .inl (by omega)⟩
    by_cases c1 : m < minRun' (arrOf st).size (arrOf st).size 0
    · refine (show wpS _ _ _ _ (if m < minRun' (arrOf st).size (arrOf st).size 0 then _ else _) _ _ from ?_)
      rw [if_pos c1]
      refine wpS_bind (wpS_lift (wpAny_rule ⟨rfl, ?_⟩))
      have hmin : ∃ n, n = min ((arrOf st).size - lo) (minRun' (arrOf st).size (arrOf st).size 0) := ⟨_, rfl⟩
      obtain ⟨n, hn⟩ := hmin
      refine wpS_bind (w_ins (n := min ((arrOf st).size - lo) (minRun' (arrOf st).size (arrOf st).size 0)) C (f2.kd.trans R.kd) ((R.all ha).fr f2) (by rw [f2.size, hz1]; omega) (by omega) m1 u2 fun st3 f3 u3 => ?_)
      show wpS _ _ _ _ (if false = true then _ else _) _ _
      rw [if_neg (by decide)]
      have R3 := keepR (f2.trans f3)
      have n1 : 1 ≤ min ((arrOf st).size - lo) (minRun' (arrOf st).size (arrOf st).size 0) := by omega
      have n2 : lo + min ((arrOf st).size - lo) (minRun' (arrOf st).size (arrOf st).size 0) ≤ a₀.size := by omega
      refine wpS_bind (wpS_get ?_)
      rcases hb : (pendingOf st3).back? with _ | ⟨s1, q1, t1⟩
      · exact wpS_bind (wpS_modify (wpS_pure (ends n1 (push n1 n2 R3 u3) n2)))
      · refine wpS_bind (wpS_mono (wpS_forRange (I := fun y c st' => c = (none, ()) ∧ Rn κ kd a₀ lo st' ∧ Up κ st' lo (min ((arrOf st).size - lo) (minRun' (arrOf st).size (arrOf st).size 0))) (Q := fun c st' => c = (none, ()) ∧ Rn κ kd a₀ lo st' ∧ Up κ st' lo (min ((arrOf st).size - lo) (minRun' (arrOf st).size (arrOf st).size 0))) ?s2 (fun c st' h => h) ⟨rfl, R3, u3⟩) ?p2)
        case p2 =>
          rintro c st4 ⟨rfl, R4, u4⟩
          exact wpS_bind (wpS_modify (wpS_bind (wpS_modify (wpS_pure (ends n1 (push n1 n2 (R4.modify (f := fun x => match x with | (t, len, _) => (t, len, power' (arrOf st).size (2 * s1 + q1) (2 * s1 + q1 + q1 + min ((arrOf st).size - lo) (minRun' (arrOf st).size (arrOf st).size 0)) (arrOf st).size)) (fun q => ⟨rfl, rfl⟩) ((pendingOf st4).size - 1)) u4) n2)))))
        case s2 =>
          rintro y c st4 _ hy ⟨rfl, R4, u4⟩
          exact loop _ st4 _ R4 u4 y _ fun st' R' u' => ⟨⟨rfl, R', u'⟩, ⟨rfl, R', u'⟩⟩
    · refine (show wpS _ _ _ _ (if m < minRun' (arrOf st).size (arrOf st).size 0 then _ else _) _ _ from ?_)
      rw [if_neg c1]
      have R3 := keepR f2
      have n2 : lo + m ≤ a₀.size := by omega
      refine wpS_bind (wpS_get ?_)
      rcases hb : (pendingOf st2).back? with _ | ⟨s1, q1, t1⟩
      · exact wpS_bind (wpS_modify (wpS_pure (ends m1 (push m1 n2 R3 u2) n2)))
      · refine wpS_bind (wpS_mono (wpS_forRange (I := fun y c st' => c = (none, ()) ∧ Rn κ kd a₀ lo st' ∧ Up κ st' lo m) (Q := fun c st' => c = (none, ()) ∧ Rn κ kd a₀ lo st' ∧ Up κ st' lo m) ?s2 (fun c st' h => h) ⟨rfl, R3, u2⟩) ?p2)
        case p2 =>
          rintro c st4 ⟨rfl, R4, u4⟩
          exact wpS_bind (wpS_modify (wpS_bind (wpS_modify (wpS_pure (ends m1 (push m1 n2 (R4.modify (f := fun x => match x with | (t, len, _) => (t, len, power' (arrOf st).size (2 * s1 + q1) (2 * s1 + q1 + q1 + m) (arrOf st).size)) (fun q => ⟨rfl, rfl⟩) ((pendingOf st4).size - 1)) u4) n2)))))
        case s2 =>
          rintro y c st4 _ hy ⟨rfl, R4, u4⟩
          exact loop _ st4 _ R4 u4 y _ fun st' R' u' => ⟨⟨rfl, R', u'⟩, ⟨rfl, R', u'⟩⟩
  case post =>
    rintro c st1 ⟨lo, rfl, R⟩
    refine wpS_bind (wpS_mono (wpS_forRange (I := fun x c st' => c = (none, ()) ∧ Rn κ kd a₀ a₀.size st' ∧ ((pendingOf st').size ≤ 1 ∨ (pendingOf st').size + x ≤ a₀.size)) (Q := fun c st' => c = (none, ()) ∧ Rn κ kd a₀ a₀.size st' ∧ (pendingOf st').size ≤ 1) ?s3 ?f3 ⟨rfl, R, .inr ?ini⟩) ?p3)
    case ini =>
      have := R.ch.bnd.1
      simp at this
      omega
    case f3 =>
      rintro c st' ⟨rfl, R', z⟩
      refine ⟨rfl, R', ?_⟩
      have : max 0 (arrOf st).size = a₀.size := by omega
      omega
    case p3 =>
      rintro c st' ⟨rfl, R', z⟩
      have hz' : (arrOf st').size = a₀.size := R'.perm.size_eq
      refine wpS_pure (h st' R'.fl R'.perm ?_)
      have ch := R'.ch
      cases e : (pendingOf st').toList with
      | nil =>
        rw [e] at ch
        have ch : 0 = a₀.size := ch
        omega
      | cons q r =>
        have hr : r = [] := by
          have := congrArg List.length e
          simp at this
          cases r with
          | nil => rfl
          | cons _ _ => simp at this; omega
        subst hr
        obtain ⟨a, n, t⟩ := q
        rw [e] at ch
        obtain ⟨e1, e2, e3⟩ := ch
        have e3 : 0 + n = a₀.size := e3
        subst e1
        have u := R'.up (0, n, t) (by rw [e]; simp)
        have sg := (up_srt (κ := κ) (st := st') (lo := 0) (n := n) (by omega)).mp u
        have eall : seg (arrOf st') 0 n = (arrOf st').toList := by
          unfold seg
          rw [List.drop_zero, List.take_of_length_le (by simp; omega)]
        rw [eall] at sg
        exact sg
    case s3 =>
      rintro y c st2 _ hy ⟨rfl, R2, z⟩
      refine wpS_bind (wpS_get ?_)
      show wpS _ _ _ _ (if (pendingOf st2).size ≤ 1 then _ else _) _ _
      by_cases c1 : (pendingOf st2).size ≤ 1
      · rw [if_pos c1]
        exact wpS_pure ⟨rfl, R2, c1⟩
      · rw [if_neg c1]
        have fin : ∀ i, i + 1 < (pendingOf st2).size → wpS (model prog w) A E s (mergeAt' i) (fun b st' => wpS (model prog w) A E s (if (!b) = true then pure (ForInStep.done (some (), ())) else pure (ForInStep.yield (none, ()))) (fun r st' => match r with
            | .done c' => c' = ((none, ()) : Option Unit × Unit) ∧ Rn κ kd a₀ a₀.size st' ∧ (pendingOf st').size ≤ 1
            | .yield c' => c' = ((none, ()) : Option Unit × Unit) ∧ Rn κ kd a₀ a₀.size st' ∧ ((pendingOf st').size ≤ 1 ∨ (pendingOf st').size + (y + 1) ≤ a₀.size)) st') st2 := fun i hi => by
          refine w_merge C ha R2 (Nat.le_refl _) hi fun st5 R5 k4 _ => ?_
          show wpS _ _ _ _ (if false = true then _ else _) _ _
          rw [if_neg (by decide)]
          exact wpS_pure ⟨rfl, R5, .inr (by omega)⟩
        refine wpS_bind (wpS_mono (fin _ ?_) fun b st' hb => wpS_mono hb fun r st' hr => ?_)
        · exact Nat.lt_of_le_of_lt (Nat.add_le_add_right (ite_less _ _) 1) (show (pendingOf st2).size - 2 + 1 < (pendingOf st2).size by omega)
        · cases r <;> exact hr
end
end Tim
set_option Elab.async false
set_option linter.all false
set_option maxRecDepth 100000
set_option maxHeartbeats 4000000
namespace ST
open PySem PySem.SetTable
end ST
set_option Elab.async false
set_option linter.all false
set_option maxRecDepth 100000
set_option maxHeartbeats 4000000
namespace ST
open PySem PySem.SetTable
section
variable {t : SetTable} {hs : List Int}
end
end ST
set_option Elab.async false
set_option linter.all false
set_option maxRecDepth 100000
set_option maxHeartbeats 4000000
namespace ST
open PySem PySem.SetTable
end ST
set_option Elab.async false
set_option linter.all false
set_option maxRecDepth 100000
set_option maxHeartbeats 4000000
namespace ST
open PySem PySem.SetTable
section
variable {prog : Program} {w : World} {K : Type} [DecidableEq K] {knd : KeyKind prog w K} {A : Around} {E : Value → Shared → Prop} {s : Shared}
end
end ST
set_option Elab.async false
set_option linter.all false
set_option maxRecDepth 100000
set_option maxHeartbeats 4000000
namespace ST
open PySem PySem.SetTable
section
variable {prog : Program} {w : World} {K : Type} [DecidableEq K] {knd : KeyKind prog w K} {A : Around} {E : Value → Shared → Prop} {s : Shared}
section
variable {a : Addr} {xs : List (List K × Addr)} {o : Obj} {es : Array (Int × Value)} {ep : Nat} {t : SetTable}
end
end
end ST
set_option Elab.async false
set_option linter.all false
set_option maxRecDepth 100000
set_option maxHeartbeats 4000000
namespace ST
open PySem PySem.SetTable
section
variable {prog : Program} {w : World} {K : Type} [DecidableEq K] {knd : KeyKind prog w K} {A : Around} {E : Value → Shared → Prop} {s : Shared}
variable {a : Addr} {xs : List (List K × Addr)} {o : Obj} {es : Array (Int × Value)} {ep : Nat} {t : SetTable}
end
end ST
set_option Elab.async false
set_option linter.all false
set_option maxRecDepth 100000
set_option maxHeartbeats 4000000
namespace ST
open PySem PySem.SetTable PyProof.Rows
section
variable {prog : Program} {w : World} {K : Type} [DecidableEq K] {knd : KeyKind prog w K} {A : Around} {E : Value → Shared → Prop} {s : Shared}
variable {a : Addr} {xs : List (List K × Addr)} {o : Obj} {es : Array (Int × Value)} {ep : Nat} {t : SetTable}
end
section
variable {prog : Program} {w : World} {K : Type} [DecidableEq K] {knd : KeyKind prog w K} {A : Around} {R : Result → Shared → Prop} {I : Addr} {fp wr : List Addr} {G : Array GenState → Array GenState → Prop} {P : Nat → Value → Prop} {St : Nat → Shared → Prop}
end
section
variable {prog : Program} {w : World} {K : Type} [DecidableEq K] {knd : KeyKind prog w K} {A : Around} {E : Value → Shared → Prop} {s : Shared}
end
end ST
set_option Elab.async false
set_option linter.all false
set_option maxRecDepth 100000
set_option maxHeartbeats 4000000
namespace ST
open PySem PySem.SetTable PyProof.Rows
section
variable {prog : Program} {w : World} {K : Type} [DecidableEq K] {knd : KeyKind prog w K} {A : Around} {E : Value → Shared → Prop}
end
end ST
set_option Elab.async false
set_option linter.all false
set_option maxRecDepth 100000
set_option maxHeartbeats 4000000
namespace ST
open PySem PySem.SetTable PyProof.Rows
section
variable {prog : Program} {w : World} {K : Type} [DecidableEq K] {knd : KeyKind prog w K} {A : Around} {E : Value → Shared → Prop} {s : Shared}
variable {a I : Addr} {xs : List (List K × Addr)} {o oI : Obj} {es : Array (Int × Value)} {ep i : Nat} {t : SetTable} {ord : List Value} {first : Value}
end
end ST
set_option Elab.async false
set_option linter.all false
set_option maxRecDepth 100000
set_option maxHeartbeats 4000000
namespace ST
open PySem PySem.SetTable PyProof.Rows
section
variable {prog : Program} {w : World} {K : Type} [DecidableEq K] {knd : KeyKind prog w K} {A : Around} {E : Value → Shared → Prop} {s : Shared}
variable {a I : Addr} {xs : List (List K × Addr)} {o oI : Obj} {es : Array (Int × Value)} {ep i : Nat} {t : SetTable} {ord : List Value} {first : Value}
end
end ST
set_option Elab.async false
set_option linter.all false
set_option maxRecDepth 100000
set_option maxHeartbeats 4000000
namespace ST
open PySem PyProof.Rows PySem.W
abbrev sg (x : Str) : List Nat := x.cps.toList
section
variable {prog : Program} {w : World} {A : Around} {E : Value → Shared → Prop} {s : Shared}
theorem strs_len {vs : List Value} {ss : List Str} (h : StrsAre vs ss) : vs.length = ss.length := by
  induction h with
  | nil => rfl
  | cons _ _ _ ih => simp [ih]
end
end ST
set_option Elab.async false
set_option linter.all false
set_option maxRecDepth 100000
set_option maxHeartbeats 4000000
namespace ST
open PySem PyProof.Rows PySem.W
theorem snd_perm {vs : List Value} {xs : Array Keyed} (hp : xs.Perm (pairsOf vs)) : (xs.map (·.2)).toList.Perm vs := by
  have hl : xs.toList.Perm (vs.zip vs) := by rw [← pairsOf_toList]; exact Array.perm_iff_toList_perm.mp hp
  have := hl.map (·.2)
  rw [List.map_snd_zip (Nat.le_refl _)] at this
  rwa [Array.toList_map]
theorem snd_srt {κ : PyProof.Rows.KeyKind} {vs : List Value} {xs : Array Keyed} (hp : xs.Perm (pairsOf vs)) (hs : Tim.Srt κ xs.toList) : (xs.map (·.2)).toList.Pairwise fun x y => κ.kle ((κ.keyOf x).getD κ.dflt) ((κ.keyOf y).getD κ.dflt) := by
  have hl : xs.toList.Perm (vs.zip vs) := by rw [← pairsOf_toList]; exact Array.perm_iff_toList_perm.mp hp
  have hm : ∀ p ∈ xs.toList, p.1 = p.2 := fun p h => (mem_zip_self (hl.mem_iff.mp h)).1
  have e : (xs.map (·.2)).toList = xs.toList.map (·.1) := by
    rw [Array.toList_map]; exact List.map_congr_left fun p h => (hm p h).symm
  rw [e, List.pairwise_map]
  exact hs
theorem pw_small {α : Type} {R : α → α → Prop} {l : List α} (h : l.length < 2) : l.Pairwise R := by
  match l, h with
  | [], _ => exact List.Pairwise.nil
  | [x], _ => exact List.pairwise_singleton _ _
section
variable {prog : Program} {w : World} {A : Around} {E : Value → Shared → Prop} {s : Shared}
structure Sortable (prog : Program) (w : World) (A : Around) (κ : PyProof.Rows.KeyKind) (kd : SortKind) (vs : List Value) (s : Shared) : Prop where
  cmp : Tim.CmpOk prog w A s kd κ
  kind : 2 ≤ vs.length → ∀ (E : Value → Shared → Prop) (Q : SortKind → Shared → Prop), Q kd s → wpAny (model prog w) A (keyKind' vs.toArray) Q E s
  has : ∀ v ∈ vs, ∃ k, κ.keyOf v = some k
theorem srt_heap {h : Heap} {a : Addr} {vs : List Value} {n : Nat} {out : Array Value} (ho : h.get? a = some (seqObj "list" vs.toArray n)) : (∃ c, (sortedHeap h a vs out).get? a = some (seqObj "list" out c)) ∧ ∀ b o, b ≠ a → h.get? b = some o → (sortedHeap h a vs out).get? b = some o := by
  have ha : a < h.objs.size := Heap.lt_size ho
  have h1 : (h.update a (Obj.mapSeq fun _ => #[])).get? a = some (seqObj "list" #[] _) := get?_update_seq ho fun _ => #[]
  have h2 := Heap.get?_push_of_some (seqObj "list" #[] 0) (Heap.get?_push_of_some (seqObj "tuple" vs.toArray 0) h1)
  refine ⟨⟨_, get?_update_seq h2 fun _ => out⟩, fun b o hb q => ?_⟩
  unfold sortedHeap
  rw [Heap.get?_update_other _ _ (Ne.symm hb)]
  refine Heap.get?_push_of_some _ (Heap.get?_push_of_some _ ?_)
  rw [Heap.get?_update_other _ _ (Ne.symm hb)]
  exact q
theorem w_lsort {κ : PyProof.Rows.KeyKind} {kd : SortKind} {a : Addr} {vs : List Value} {n : Nat} {P : Fin → Shared → Prop} (ho : s.heap.get? a = some (seqObj "list" vs.toArray n)) (hz : vs.length ≤ 4096)
    (hS : ∀ h', (∀ b o, b ≠ a → s.heap.get? b = some o → h'.get? b = some o) → Sortable prog w A κ kd vs { s with heap := h' })
    (h : ∀ out : Array Value, out.toList.Perm vs → (out.toList.Pairwise fun x y => κ.kle ((κ.keyOf x).getD κ.dflt) ((κ.keyOf y).getD κ.dflt)) → P (.done (.ret .none)) { s with heap := sortedHeap s.heap a vs out }) :
    wpAny (model prog w) A (Builtin.«list.sort» ⟨[.ref a], []⟩) P E s := by
  rw [list_sort_plain]
  have hsl : (4096 : Nat) ≤ sizeLine := by decide +kernel
  have ha : a < s.heap.objs.size := Heap.lt_size ho
  have hsz : vs.toArray.size = vs.length := by simp
  refine wpAny_bind (listItems_at ho rfl ?_)
  refine wpAny_bind (listUpdate_at ho rfl ?_ (by omega) (Nat.zero_le _))
  have h1 : (s.heap.update a (Obj.mapSeq fun _ => #[])).get? a = some (seqObj "list" #[] _) := get?_update_seq ho fun _ => #[]
  refine wpAny_bind (seqEpoch_at h1 rfl ?_)
  refine wpAny_bind (wpAny_newTuple ?_ (by show vs.toArray.toList.length ≤ _; simp; omega))
  refine wpAny_bind (wpAny_newList ?_ (Nat.zero_le _))
  refine wpAny_holding ?_
  have h6 := Heap.get?_push_of_some (seqObj "list" #[] 0) (Heap.get?_push_of_some (seqObj "tuple" vs.toArray 0) h1)
  change wpAny (model prog w) A _ P E { s with heap := ((s.heap.update a (Obj.mapSeq fun _ => #[])).push (seqObj "tuple" vs.toArray 0)).push (seqObj "list" #[] 0) }
  dsimp only
  have S6 := hS (((s.heap.update a (Obj.mapSeq fun _ => #[])).push (seqObj "tuple" vs.toArray 0)).push (seqObj "list" #[] 0)) fun b o hb q => by
    refine Heap.get?_push_of_some _ (Heap.get?_push_of_some _ ?_)
    rw [Heap.get?_update_other _ _ (Ne.symm hb)]
    exact q
  by_cases c : vs.toArray.size < 2
  · rw [if_pos c, if_pos c]
    refine wpAny_bind (wpAny_pure ?_)
    rw [StateT.run_pure]
    refine wpAny_bind (wpAny_pure ?_)
    dsimp only
    refine wpAny_bind (seqEpoch_at h6 rfl ?_)
    refine wpAny_bind (listUpdate_at h6 rfl ?_ (Nat.zero_le _) (by rw [Array.size_map]; show (pairsOf vs).size ≤ _; rw [pairsOf_size]; omega))
    simp only [bne_self_eq_false, Bool.false_eq_true, if_false]
    have e : (arrOf (SortSt.mk' general' (vs.toArray.zip vs.toArray) #[] 7 none)).Perm (pairsOf vs) := Array.Perm.refl _
    refine wpAny_pure (h _ (snd_perm e) ?_)
    exact pw_small (by rw [(snd_perm e).length_eq]; omega)
  · rw [if_neg c, if_neg c]
    refine wpAny_bind (S6.kind (by omega) _ _ ?_)
    have W := Tim.w_sort (E := E) (a₀ := pairsOf vs) (st := SortSt.mk' kd (vs.toArray.zip vs.toArray) #[] 7 none) (Q := fun _ st' => failedOf st' = none ∧ (arrOf st').Perm (pairsOf vs) ∧ Tim.Srt κ (arrOf st').toList) S6.cmp (fun p hp => by
      rw [pairsOf_toList] at hp
      exact S6.has _ (mem_zip_self hp).2) rfl rfl (Array.Perm.refl _) rfl (by rw [pairsOf_size]; omega) fun st' q1 q2 q3 => ⟨q1, q2, q3⟩
    refine wpAny_bind (wpAny_mono W ?_ fun _ _ e => e)
    rintro ⟨⟨⟩, st'⟩ s' ⟨rfl, q1, q2, q3⟩
    dsimp only
    refine wpAny_bind (seqEpoch_at h6 rfl ?_)
    have zz := (snd_perm q2).length_eq
    refine wpAny_bind (listUpdate_at h6 rfl ?_ (Nat.zero_le _) (by simp at zz ⊢; omega))
    rw [q1]
    simp only [bne_self_eq_false, Bool.false_eq_true, if_false]
    exact wpAny_pure (h _ (snd_perm q2) (snd_srt q2 q3))
end
end ST
set_option Elab.async false
set_option linter.all false
set_option maxRecDepth 100000
set_option maxHeartbeats 4000000
namespace ST
open PySem PyProof.Rows PySem.W
section
variable {prog : Program} {w : World} {A : Around} {E : Value → Shared → Prop} {s : Shared}
abbrev Up (h h' : Heap) : Prop := ∀ b o, h.get? b = some o → h'.get? b = some o
theorem w_sortedC {κ : PyProof.Rows.KeyKind} {kd : SortKind} {v : Value} {Q : Value → Shared → Prop} {J : List Value → Shared → Prop} (hc : wpAny (model prog w) A.in1 (collect v) J E s)
    (hJ : ∀ vs s1, J vs s1 → vs.length ≤ 4096 ∧ (∀ h', Up s1.heap h' → Sortable prog w A.in1.in1 κ kd vs { s1 with heap := h' }) ∧
      ∀ (out : List Value) c h', out.Perm vs → (out.Pairwise fun x y => κ.kle ((κ.keyOf x).getD κ.dflt) ((κ.keyOf y).getD κ.dflt)) → h'.get? s1.heap.objs.size = some (seqObj "list" out.toArray c) → Up s1.heap h' → Q (.ref s1.heap.objs.size) { s1 with heap := h' }) :
    wpAny (model prog w) A (call (.builtin "sorted") [v]) Q E s := by
  refine Calls.call_function_entry kind_sorted plain_sorted entry_sorted (args_sorted1 _) ?_
  unfold Builtin.«sorted»
  refine wpAny_bind (m := checkCount "sorted" 1 1 _) (wpAny_pure ?_)
  refine wpAny_bind (wpAny_mono hc (fun vs s1 j => ?_) fun _ _ x => x)
  obtain ⟨j1, j2, j3⟩ := hJ vs s1 j
  have hsl : (4096 : Nat) ≤ sizeLine := by decide +kernel
  refine wpAny_bind (wpAny_newList ?_ (by omega))
  have hD : (s1.heap.push (seqObj "list" vs.toArray 0)).get? s1.heap.objs.size = some (seqObj "list" vs.toArray 0) := Heap.get?_push_size _ rfl
  change wpAny _ _ _ _ _ { s1 with heap := s1.heap.push (seqObj "list" vs.toArray 0) }
  have ne : ∀ b o, s1.heap.get? b = some o → b ≠ s1.heap.objs.size := fun b o q => Nat.ne_of_lt (Heap.lt_size q)
  refine wpAny_bind (wpAny_holding (wpAny_call_entry slot_list_sort ⟨_, hD, rfl⟩ entry_list_sort ?body (args_list_sort _)))
  case body =>
    refine w_lsort (s := { s1 with heap := s1.heap.push (seqObj "list" vs.toArray 0) }) hD j1 (fun h' q => j2 h' fun b o e => q b o (ne b o e) (Heap.get?_push_of_some _ e)) fun out p1 p2 => ?_
    obtain ⟨⟨c, g1⟩, g2⟩ := srt_heap (out := out) hD
    refine ⟨_, rfl, wpAny_pure ⟨_, rfl, j3 out.toList c _ p1 p2 (by simpa using g1) fun b o e => g2 b o (ne b o e) (Heap.get?_push_of_some _ e)⟩⟩
end
section
variable {prog : Program} {w : World} {A : Around} {E : Value → Shared → Prop} {s : Shared}
end
end ST
set_option Elab.async false
set_option linter.all false
set_option maxRecDepth 100000
set_option maxHeartbeats 4000000
namespace L2
open PySem PySem.Spec PyProof.Rows
section
variable {X : Cx} {pins : List (Addr × Obj)} {σ : St} {H : Hp} {s : Shared}
end
end L2
set_option Elab.async false
set_option linter.all false
set_option maxRecDepth 100000
set_option maxHeartbeats 4000000
namespace ST
section
open PySem PyProof.Rows
variable {prog : Program} {w : World} {A : Around} {s : Shared}
theorem strs_sortable {vs : List Value} {ss : List Str} (h : StrsAre vs ss) : Sortable prog w A PyProof.Rows.strKind oneType' vs s := by
  refine ⟨fun E x y a b Q ha hb q => ?_, fun h2 E Q q => ?_, fun v hv => ?_⟩
  · rw [keyLt'_oneType]; exact strKind_oneLt prog w A E s x y a b ha hb q
  · match vs, h2, h with
    | v₁ :: v₂ :: r, _, h => rw [keyKind_strs h]; exact wpAny_pure q
  · obtain ⟨x, t, rfl⟩ := h.all v hv
    exact ⟨_, rfl⟩
end
end ST
namespace L2
open PySem PySem.Spec PyProof.Rows
section
variable {X : Cx} {pins : List (Addr × Obj)} {σ : St} {H : Hp} {s : Shared}
theorem strs_vals : ∀ {xs : List Str} {its : List Value}, StrsAre its xs → Vals (xs.map V.str) its
  | _, _, .nil => .nil
  | _, _, .cons y t r => .cons ⟨t, rfl⟩ (strs_vals r)
def RiseS (xs : List Str) : Prop := xs.Pairwise fun x y => ¬ (ST.sg y < ST.sg x)
end
end L2
set_option Elab.async false
set_option linter.all false
set_option maxRecDepth 100000
set_option maxHeartbeats 4000000
namespace L2
open PySem PySem.Spec PyProof.Rows
section
variable {X : Cx}
end
end L2
set_option Elab.async false
set_option linter.all false
set_option maxRecDepth 100000
set_option maxHeartbeats 4000000
namespace L2
open PySem PySem.Spec PyProof.Rows
section
variable {X : Cx}
end
end L2
namespace L2
open PySem PySem.Spec PyProof.Rows
end L2
set_option Elab.async false
set_option linter.all false
set_option maxRecDepth 100000
set_option maxHeartbeats 4000000
namespace L2
open PySem PySem.Spec PyProof.Rows
section
variable {X : Cx}
end
end L2
set_option Elab.async false
set_option linter.all false
set_option maxRecDepth 100000
set_option maxHeartbeats 4000000
namespace L2
open PySem PySem.Spec PyProof.Rows
section
variable {P : Program} {w : World} {A : Around} {E : Value → Shared → Prop} {s : Shared}
end
theorem un_laid {fs ex : List Addr} {H : Hp} {h h' : Heap} {a : Addr} {o : HO} (k : ∀ b u, b ∉ ex → h.get? b = some u → h'.get? b = some u) (hp : h.objs.size ≤ a) (hn : H a = none) : Un fs ex H (upd H a o) h h' where
  keep := fun b u q _ _ hx => k b u hx q
  slot := fun b u q _ _ hx => ⟨u.slots, k b u hx q⟩
  free := fun b u q n _ => by rw [upd_ne (Nat.ne_of_lt (Nat.lt_of_lt_of_le (Heap.lt_size q) hp))]; exact n
  there := fun b u q hx => ⟨u, k b u hx q⟩
  tups := fun b xs q => by rw [upd_ne (ne_of_none q hn)]; exact q
  frzs := fun b u xs q => by rw [upd_ne (ne_of_none q hn)]; exact q
  tbls := fun b ps q => ⟨#[], by rw [upd_ne (ne_of_none q hn), q]; simp⟩
theorem hok_laid {P : Program} {w : World} {H : Hp} {h h' : Heap} {ex : List Addr} {a : Addr} {o : HO} (x : HOk P w H h) (k : ∀ b u, b ∉ ex → h.get? b = some u → h'.get? b = some u) (hex : ∀ b ∈ ex, H b = none) (hp : h.objs.size ≤ a) (new : ObjOk P w (upd H a o) h' a o) : HOk P w (upd H a o) h' := fun b u e => by
  have hn := x.fresh hp
  by_cases hb : b = a
  · subst hb; rw [upd_same] at e; cases e; exact new
  · rw [upd_ne hb] at e
    refine (x b u e).stay (fun c v hc q => k c v (fun z => ?_) q) (fun c q => by rw [upd_ne (ne_of_none q hn)]; exact q) fun c xs q => by rw [upd_ne (ne_of_none q hn)]; exact q
    have hz := hex c z
    rcases hc with y | y
    · rw [y, e] at hz; cases hz
    · rw [y] at hz; cases hz
end L2
set_option Elab.async false
set_option linter.all false
set_option maxRecDepth 100000
set_option maxHeartbeats 4000000
namespace L2
open PySem PySem.Spec PyProof.Rows
section
variable {X : Cx} {elts : List Expr} {kk : Nat} {tp : Pos}
section
variable {P : Program} {w : World} {A : Around} {E : Value → Shared → Prop} {s : Shared}
end
end
end L2
set_option Elab.async false
set_option linter.all false
set_option maxRecDepth 100000
set_option maxHeartbeats 4000000
namespace L2
open PySem PySem.Spec PyProof.Rows
def StrKeys (es : Array DictEntry) : Prop := ∀ e ∈ es, ∃ x t, e.key = .str x t
theorem StrKeys.all {es : Array DictEntry} (h : StrKeys es) : (es.all fun e => isExactStrKey e.key) = true := by
  rw [Array.all_eq_true]
  intro i hi
  obtain ⟨x, t, e⟩ := h es[i] (Array.getElem_mem hi)
  rw [e]; rfl
section
variable {P : Program} {w : World} {A : Around} {E : Value → Shared → Prop} {s : Shared}
theorem find_str {d : Addr} {o : Obj} {es : Array DictEntry} {ep : Nat} {x : Str} {t : Tok} {hs : Int} {Q : Option Nat → Shared → Prop} (ho : s.heap.get? d = some o) (hd : o.data = .dict es ep) (sk : StrKeys es)
    (q : Q (es.findIdx? fun e => e.key.isStr x) s) : wpAny (model P w) A (dictFind d (.str x t) hs) Q E s := by
  unfold dictFind
  refine wpAny_holding (wpAny_bind (wpAny_dictEntries ho hd ?_))
  dsimp only
  rw [if_pos sk.all]
  unfold foundByValue
  cases hf : es.findIdx? (fun e => e.key.isStr x) with
  | none => rw [hf] at q; exact wpAny_pure q
  | some i =>
    rw [hf] at q
    obtain ⟨lt, hi, _⟩ := Array.findIdx?_eq_some_iff_getElem.mp hf
    obtain ⟨y, u, ey⟩ := sk es[i] (Array.getElem_mem lt)
    simp only [Array.getElem?_eq_getElem lt]
    have xy : y = x := by
      have := hi; rw [ey] at this; simpa [Value.isStr] using this
    subst xy
    rw [ey]
    have tt : SeqAt.EqAt A s (.str y u) (.str y t) true := by
      have := SeqAt.EqAt.str_str (A := A) (s := s) y u y t
      rwa [beq_self_eq_true] at this
    refine wpAny_bind (wpAny_dictEpoch ho hd (wpAny_bind (tt P w E _ (wpAny_bind (wpAny_dictEpoch ho hd ?_)))))
    rw [if_neg (by simp)]
    exact wpAny_bind (wpAny_rule (wpAny_pure q))
theorem walk_range {β : Type} {b0 : β} {n : Nat} {f : Nat → β → Sem (ForInStep β)} {Q : β → Shared → Prop} (turn : ∀ i, i < n → wpAny (model P w) A (f i b0) (fun r s' => r = .yield b0 ∧ s' = s) E s) (fin : Q b0 s) : wpAny (model P w) A (forIn [:n] b0 f) Q E s := by
  rw [Std.Legacy.Range.forIn_eq_forIn_range']
  simp only [Std.Legacy.Range.size, Nat.sub_zero, Nat.add_sub_cancel, Nat.div_one]
  refine wpAny_forIn_list _ (fun rest b s' => b = b0 ∧ s' = s ∧ ∀ i ∈ rest, i < n) _ ?_ ?_ _ _ ⟨rfl, rfl, fun i hi => by simpa using hi⟩
  · rintro i rest b s' ⟨rfl, rfl, hb⟩
    refine thn (turn i (hb i (by simp))) fun r s2 ⟨e1, e2⟩ => ?_
    subst e1 e2
    exact ⟨rfl, rfl, fun j hj => hb j (by simp [hj])⟩
  · rintro b s' ⟨rfl, rfl, _⟩
    exact fin
theorem same_pairs {nm : String} {a b : Addr} {oa ob : Obj} {es fs : Array DictEntry} {ep fp : Nat} {Q : Bool → Shared → Prop} (na : (a == sysModules) = false) (nb : (b == sysModules) = false) (ha : s.heap.get? a = some oa) (da : oa.data = .dict es ep) (hb : s.heap.get? b = some ob) (db : ob.data = .dict fs fp)
    (ka : StrKeys es) (kb : StrKeys fs) (sz : es.size = fs.size) (al : ∀ i (h : i < es.size) x t, es[i].key = .str x t → ∃ j, ∃ hj : j < fs.size, (fs.findIdx? fun e => e.key.isStr x) = some j ∧ SeqAt.EqAt A s es[i].val fs[j].val true)
    (q : Q true s) : wpAny (model P w) A (Builtin.Dict.samePairs nm a b) Q E s := by
  unfold Builtin.Dict.samePairs Builtin.Dict.showsAll
  rw [if_neg (by rw [na]; exact Bool.false_ne_true)]
  refine wpAny_bind (wpAny_pure ?_)
  rw [if_neg (by rw [nb]; exact Bool.false_ne_true)]
  refine wpAny_bind (wpAny_pure (wpAny_bind (wpAny_dictEntries ha da (wpAny_bind (wpAny_dictEntries hb db ?_)))))
  rw [if_neg (by simp [sz])]
  refine wpAny_bind (wpAny_dictEpoch ha da ?_)
  refine wpAny_bind (walk_range (fun i hi => ?_) (wpAny_pure q))
  refine wpAny_bind (wpAny_dictEntries ha da ?_)
  obtain ⟨x, t, ex⟩ := ka es[i] (Array.getElem_mem hi)
  obtain ⟨j, hj, ej, eq⟩ := al i hi x t ex
  simp only [Array.getElem?_eq_getElem hi]
  refine wpAny_bind (wpAny_holding (wpAny_bind ?_))
  rw [ex]
  refine find_str hb db kb ?_
  rw [ej]
  refine wpAny_bind (wpAny_dictEntries hb db ?_)
  simp only [Array.getElem?_eq_getElem hj]
  refine wpAny_holding (eq P w E _ ?_)
  rw [if_neg (by simp)]
  refine wpAny_bind (wpAny_dictEpoch ha da ?_)
  rw [if_neg (by simp)]
  exact wpAny_pure ⟨rfl, rfl⟩
end
open AutoSeq1 (wpAny_loadPart')
theorem dict_eqM (a b : Addr) (oa ob : Obj) (es fs : Array DictEntry) (ep fp : Nat) (ka : StrKeys es) (kb : StrKeys fs) (sz : es.size = fs.size) (na : (a == sysModules) = false) (nb : (b == sysModules) = false) (ca : oa.cls = .type "dict") (cb : ob.cls = .type "dict") (da : oa.data = .dict es ep) (db : ob.data = .dict fs fp) :
    Meets (Builtin.«dict.__eq__» ⟨[.ref a, .ref b], []⟩) (fun A R s => s.heap.get? a = some oa ∧ s.heap.get? b = some ob ∧
      (∀ i (h : i < es.size) x t, es[i].key = .str x t → ∃ j, ∃ hj : j < fs.size, (fs.findIdx? fun e => e.key.isStr x) = some j ∧ SeqAt.EqAt A.in1 s es[i].val fs[j].val true) ∧ R (.ok (.ret (.bool true))) s) :=
  .of_wp fun P w A R s ⟨ha, hb, al, q⟩ => by
    have ta : s.TypeIs (.ref a) "dict" := ⟨_, ha, ca⟩
    have tb : s.TypeIs (.ref b) "dict" := ⟨_, hb, cb⟩
    unfold Builtin.«dict.__eq__»
    show wpAny _ _ (Builtin.Dict.dictSlotArgs "__eq__" ⟨[.ref a, .ref b], []⟩ >>= _) _ _ s
    unfold Builtin.Dict.dictSlotArgs
    refine wpAny_bind (wpAny_bind (wpAny_notOrdered_dict ta ?_))
    show wpAny _ _ (pure ((Value.ref a, [Value.ref b]) : Value × List Value) >>= _) _ _ s
    refine wpAny_bind (wpAny_pure (wpAny_pure ?_))
    refine wpAny_bind (wpAny_isInstance tb isSubtype_dict_dict ?_)
    rw [if_neg (by simp)]
    show wpAny _ _ (pure a >>= _) _ _ s
    refine wpAny_bind (wpAny_pure ?_)
    show wpAny _ _ (pure b >>= _) _ _ s
    refine wpAny_bind (wpAny_pure (wpAny_bind (same_pairs na nb ha da hb db ka kb sz al ?_)))
    exact wpAny_pure ⟨_, rfl, q⟩
theorem rc_dicts {A : Around} {s : Shared} {a b : Addr} {oa ob : Obj} {es fs : Array DictEntry} {ep fp : Nat} (ka : StrKeys es) (kb : StrKeys fs) (sz : es.size = fs.size) (na : (a == sysModules) = false) (nb : (b == sysModules) = false) (ca : oa.cls = .type "dict") (cb : ob.cls = .type "dict") (da : oa.data = .dict es ep) (db : ob.data = .dict fs fp)
    (ha : s.heap.get? a = some oa) (hb : s.heap.get? b = some ob) (hu : A.units < cLine) (al : ∀ i (h : i < es.size) x t, es[i].key = .str x t → ∃ j, ∃ hj : j < fs.size, (fs.findIdx? fun e => e.key.isStr x) = some j ∧ SeqAt.EqAt A.in1 s es[i].val fs[j].val true) :
    SeqAt.RcAt A s (.ref a) (.ref b) true := fun P w E Q q =>
  richCompare_meets_room (op := .Eq) ⟨_, ha, ca⟩ ⟨_, hb, cb⟩ F.slot_dict_eq F.entry_dict_eq (F.args_dict_eq_2 _ _) (dict_eqM a b oa ob es fs ep fp ka kb sz na nb ca cb da db) ⟨ha, hb, al, show Value.bool true ≠ Value.notImplemented ∧ Q (.bool true) s from ⟨(fun z => nomatch z), q⟩⟩ hu
def TxtKeys (kvs : List (Key × V)) : Prop := ∀ kv ∈ kvs, ∃ x : Str, kv.1 = .inr x
section
variable {X : Cx} {pins : List (Addr × Obj)} {σ : St} {H : Hp} {s : Shared}
theorem pair_at {P : Program} {w : World} : ∀ {es : List DictEntry} {vs : List (Key × Value)} {kvs : List (Key × V)}, Pairs (mixKind P w) es vs → KV kvs vs → ∀ i (h : i < es.length), ∃ k v, kvs[i]? = some (k, v) ∧ keyIs k es[i].key = true ∧ RelV v es[i].val := by
  intro es vs kvs p
  induction p generalizing kvs with
  | nil => intro _ i h; exact absurd h (Nat.not_lt_zero _)
  | @cons e kv es vs h1 h2 p ih =>
    intro r i h
    cases r with
    | @cons a _ as _ ra rr =>
      cases i with
      | zero => exact ⟨a.1, a.2, rfl, by rw [ra.1]; exact h1, by show RelV a.2 e.val; rw [h2]; exact ra.2⟩
      | succ i => exact ih rr i (by simpa using h)
theorem txt_at {P : Program} {w : World} {es : Array DictEntry} {vs : List (Key × Value)} {kvs : List (Key × V)} (p : Pairs (mixKind P w) es.toList vs) (r : KV kvs vs) (t : TxtKeys kvs) : StrKeys es := fun e he => by
  obtain ⟨i, hi, rfl⟩ := Array.mem_iff_getElem.mp he
  obtain ⟨k, v, e1, e2, _⟩ := pair_at p r i (by simpa using hi)
  obtain ⟨x, ex⟩ := t _ (List.mem_of_getElem? e1)
  have ex : k = .inr x := ex
  subst ex
  rcases keyIs_shape e2 with ⟨_, _, z, _⟩ | ⟨y, t, _, z⟩
  · cases z
  · exact ⟨y, t, by simpa using z⟩
theorem at_text {P : Program} {w : World} {fs : Array DictEntry} {ws : List (Key × Value)} {lvs : List (Key × V)} {x : Str} {u : V} (p : Pairs (mixKind P w) fs.toList ws) (r : KV lvs ws) (h : valV lvs (.inr x) = some u) : ∃ j, ∃ hj : j < fs.size, (fs.findIdx? fun e => e.key.isStr x) = some j ∧ RelV u fs[j].val := by
  have hf : (fun e : DictEntry => e.key.isStr x) = fun e => (mixKind P w).is (.inr x) e.key := funext fun e => ((mixKind P w).strs (.inr x) x 0 e.key (keyIs_str x 0)).symm
  have f1 := p.find (.inr x)
  have f2 := r.val (.inr x)
  rw [h, ← f1] at f2
  cases q : fs.toList.find? (fun e => (mixKind P w).is (.inr x) e.key) with
  | none => rw [q] at f2; exact absurd f2 (by intro z; cases z)
  | some f =>
    rw [q] at f2
    obtain ⟨q1, j, hj, q2, q3⟩ := List.find?_eq_some_iff_getElem.mp q
    have hj' : j < fs.size := by simpa using hj
    have q2' : fs[j] = f := by simpa using q2
    refine ⟨j, hj', ?_, by rw [q2']; exact f2⟩
    rw [hf]
    refine Array.findIdx?_eq_some_iff_getElem.mpr ⟨hj', by rw [q2']; exact q1, fun i hi => ?_⟩
    have := q3 i hi
    simpa using this
def DAlike (K : PySem.W.Frag) (H : Hp) (n : Nat) (kvs lvs : List (Key × V)) : Prop := TxtKeys kvs ∧ TxtKeys lvs ∧ kvs.length = lvs.length ∧ ∀ k v, (k, v) ∈ kvs → ∃ u, valV lvs k = some u ∧ Alike K H n v u
theorem dalike_at (I : Inv X pins σ H s) {a b : Addr} {n : Nat} {A : Around} {kvs lvs : List (Key × V)} (hu : A.units + 1 + n < cLine) (ea : Rd H a (.dK kvs)) (eb : Rd H b (.dK lvs)) (al : DAlike X.K H n kvs lvs) : SeqAt.RcAt A s (.ref a) (.ref b) true := by
  obtain ⟨z1, n1, vs, r1, o1, es, ep, g1, c1, d1, k1, p1, nd1⟩ := dk_rd I.hok ea
  obtain ⟨z2, n2, ws, r2, o2, fs, fp, g2, c2, d2, k2, p2, nd2⟩ := dk_rd I.hok eb
  obtain ⟨t1, t2, len, al⟩ := al
  have l1 := p1.length
  have l2 := p2.length
  have l3 := r1.length
  have l4 := r2.length
  refine rc_dicts (txt_at p1 r1 t1) (txt_at p2 r2 t2) (by simp only [Array.length_toList] at l1 l2; omega) n1 n2 c1.1 c2.1 d1 d2 g1 g2 (by omega) fun i hi x t ex => ?_
  obtain ⟨k, v, e1, e2, e3⟩ := pair_at p1 r1 i (by simpa using hi)
  have e2 : keyIs k es[i].key = true := by simpa using e2
  have e3 : RelV v es[i].val := by simpa using e3
  have ek : k = .inr x := by
    rw [ex] at e2
    rcases keyIs_shape e2 with ⟨_, _, _, z⟩ | ⟨y, t', z1, z2⟩
    · cases z
    · cases z2; exact z1
  subst ek
  obtain ⟨u, hu1, hu2⟩ := al _ _ (List.mem_of_getElem? e1)
  obtain ⟨j, hj, ej, rj⟩ := at_text p2 r2 hu1
  exact ⟨j, hj, ej, alike_at I hu2 e3 rj (by show A.units + 1 + n < cLine; omega)⟩
end
section
variable {X : Cx}
theorem call_dict1 : CallR X (.type "dict") (fun xs H Q => ∃ a kvs, xs = [.ref a] ∧ Rd H a (.dK kvs) ∧ ∀ p, H p = none → Q (.ref p) (upd H p (.dK kvs))) := by
  intro pins s σ H xs us Q I rv h
  obtain ⟨a, kvs, rfl, e, q⟩ := h
  obtain ⟨u, rfl, ru⟩ := rv.one
  cases ru
  exact d_copyOf I e fun p s' hp I' => ⟨.ref p, _, I', rfl, q p hp⟩
end
end L2
set_option Elab.async false
set_option linter.all false
set_option maxRecDepth 100000
set_option maxHeartbeats 4000000
namespace L2
open PySem PySem.Spec PyProof.Rows
theorem dict_neM (a b : Addr) (oa ob : Obj) (es fs : Array DictEntry) (ep fp : Nat) (ka : StrKeys es) (kb : StrKeys fs) (sz : es.size = fs.size) (na : (a == sysModules) = false) (nb : (b == sysModules) = false) (ca : oa.cls = .type "dict") (cb : ob.cls = .type "dict") (da : oa.data = .dict es ep) (db : ob.data = .dict fs fp) :
    Meets (Builtin.«dict.__ne__» ⟨[.ref a, .ref b], []⟩) (fun A R s => s.heap.get? a = some oa ∧ s.heap.get? b = some ob ∧
      (∀ i (h : i < es.size) x t, es[i].key = .str x t → ∃ j, ∃ hj : j < fs.size, (fs.findIdx? fun e => e.key.isStr x) = some j ∧ SeqAt.EqAt A.in1 s es[i].val fs[j].val true) ∧ R (.ok (.ret (.bool false))) s) :=
  .of_wp fun P w A R s ⟨ha, hb, al, q⟩ => by
    have ta : s.TypeIs (.ref a) "dict" := ⟨_, ha, ca⟩
    have tb : s.TypeIs (.ref b) "dict" := ⟨_, hb, cb⟩
    unfold Builtin.«dict.__ne__»
    show wpAny _ _ (Builtin.Dict.dictSlotArgs "__ne__" ⟨[.ref a, .ref b], []⟩ >>= _) _ _ s
    unfold Builtin.Dict.dictSlotArgs
    refine wpAny_bind (wpAny_bind (wpAny_notOrdered_dict ta ?_))
    show wpAny _ _ (pure ((Value.ref a, [Value.ref b]) : Value × List Value) >>= _) _ _ s
    refine wpAny_bind (wpAny_pure (wpAny_pure ?_))
    refine wpAny_bind (wpAny_isInstance tb isSubtype_dict_dict ?_)
    rw [if_neg (by simp)]
    show wpAny _ _ (pure a >>= _) _ _ s
    refine wpAny_bind (wpAny_pure ?_)
    show wpAny _ _ (pure b >>= _) _ _ s
    refine wpAny_bind (wpAny_pure (wpAny_bind (same_pairs na nb ha da hb db ka kb sz al ?_)))
    exact wpAny_pure ⟨_, rfl, q⟩
theorem rn_dicts {A : Around} {s : Shared} {a b : Addr} {oa ob : Obj} {es fs : Array DictEntry} {ep fp : Nat} (ka : StrKeys es) (kb : StrKeys fs) (sz : es.size = fs.size) (na : (a == sysModules) = false) (nb : (b == sysModules) = false) (ca : oa.cls = .type "dict") (cb : ob.cls = .type "dict") (da : oa.data = .dict es ep) (db : ob.data = .dict fs fp)
    (ha : s.heap.get? a = some oa) (hb : s.heap.get? b = some ob) (hu : A.units < cLine) (al : ∀ i (h : i < es.size) x t, es[i].key = .str x t → ∃ j, ∃ hj : j < fs.size, (fs.findIdx? fun e => e.key.isStr x) = some j ∧ SeqAt.EqAt A.in1 s es[i].val fs[j].val true) :
    SeqAt.RcNeAt A s (.ref a) (.ref b) false := fun P w E Q q =>
  richCompare_meets_room (op := .NotEq) ⟨_, ha, ca⟩ ⟨_, hb, cb⟩ F.slot_dict_ne F.entry_dict_ne (F.args_dict_ne_2 _ _) (dict_neM a b oa ob es fs ep fp ka kb sz na nb ca cb da db) ⟨ha, hb, al, show Value.bool false ≠ Value.notImplemented ∧ Q (.bool false) s from ⟨(fun z => nomatch z), q⟩⟩ hu
section
variable {X : Cx} {pins : List (Addr × Obj)} {σ : St} {H : Hp} {s : Shared}
theorem dalike_ne (I : Inv X pins σ H s) {a b : Addr} {n : Nat} {A : Around} {kvs lvs : List (Key × V)} (hu : A.units + 1 + n < cLine) (ea : Rd H a (.dK kvs)) (eb : Rd H b (.dK lvs)) (al : DAlike X.K H n kvs lvs) : SeqAt.RcNeAt A s (.ref a) (.ref b) false := by
  obtain ⟨z1, n1, vs, r1, o1, es, ep, g1, c1, d1, k1, p1, nd1⟩ := dk_rd I.hok ea
  obtain ⟨z2, n2, ws, r2, o2, fs, fp, g2, c2, d2, k2, p2, nd2⟩ := dk_rd I.hok eb
  obtain ⟨t1, t2, len, al⟩ := al
  have l1 := p1.length
  have l2 := p2.length
  have l3 := r1.length
  have l4 := r2.length
  refine rn_dicts (txt_at p1 r1 t1) (txt_at p2 r2 t2) (by simp only [Array.length_toList] at l1 l2; omega) n1 n2 c1.1 c2.1 d1 d2 g1 g2 (by omega) fun i hi x t ex => ?_
  obtain ⟨k, v, e1, e2, e3⟩ := pair_at p1 r1 i (by simpa using hi)
  have e2 : keyIs k es[i].key = true := by simpa using e2
  have e3 : RelV v es[i].val := by simpa using e3
  have ek : k = .inr x := by
    rw [ex] at e2
    rcases keyIs_shape e2 with ⟨_, _, _, z⟩ | ⟨y, t', z1, z2⟩
    · cases z
    · cases z2; exact z1
  subst ek
  obtain ⟨u, hu1, hu2⟩ := al _ _ (List.mem_of_getElem? e1)
  obtain ⟨j, hj, ej, rj⟩ := at_text p2 r2 hu1
  exact ⟨j, hj, ej, alike_at I hu2 e3 rj (by show A.units + 1 + n < cLine; omega)⟩
def AlD (K : PySem.W.Frag) (H : Hp) (n : Nat) (x y : V) : Prop := Alike K H n x y ∨ ∃ a b kvs lvs, x = .ref a ∧ y = .ref b ∧ Rd H a (.dK kvs) ∧ Rd H b (.dK lvs) ∧ DAlike K H n kvs lvs
theorem ald_at (I : Inv X pins σ H s) {n : Nat} {x y : V} (h : AlD X.K H n x y) {u v : Value} {A : Around} (ru : RelV x u) (rv : RelV y v) (hu : A.units + 1 + n < cLine) : SeqAt.EqAt A s u v true := by
  rcases h with h | ⟨a, b, kvs, lvs, rfl, rfl, e1, e2, al⟩
  · exact alike_at I h ru rv (by omega)
  · cases ru
    cases rv
    by_cases ab : a = b
    · subst ab; exact SeqAt.EqAt.same _
    · exact SeqAt.EqAt.of_refs ab (dalike_at I hu e1 e2 al)
theorem ald_items (I : Inv X pins σ H s) {n : Nat} {xs ys : List V} {its its2 : List Value} {A : Around} (r : Vals xs its) (r2 : Vals ys its2) (he : ∀ (i : Nat) (x y : V), xs[i]? = some x → ys[i]? = some y → AlD X.K H n x y) (hu : A.units + 1 + n < cLine) :
    ∀ j (h1 : j < its.toArray.size) (h2 : j < its2.toArray.size), SeqAt.EqAt A s its.toArray[j] its2.toArray[j] true := fun j h1 h2 => by
  have e1 := r.length
  have e2 := r2.length
  rw [List.size_toArray] at h1 h2
  have hjx : xs[j]? = some (xs[j]'(by omega)) := by simp
  have hjy : ys[j]? = some (ys[j]'(by omega)) := by simp
  obtain ⟨u1, q1, ru1⟩ := r.get hjx
  obtain ⟨v1, q2, rv1⟩ := r2.get hjy
  have e3 : its.toArray[j] = u1 := by
    have : its[j]? = some its[j] := by simp
    rw [this] at q1; simpa using q1
  have e4 : its2.toArray[j] = v1 := by
    have : its2[j]? = some its2[j] := by simp
    rw [this] at q2; simpa using q2
  rw [e3, e4]
  exact ald_at I (he j _ _ hjx hjy) ru1 rv1 hu
end
section
variable {X : Cx}
def rAlT (K : PySem.W.Frag) (n : Nat) (b : Bool) : R2 := fun x y H Q => ∃ a c xs ys, x = .ref a ∧ y = .ref c ∧ SqT K H a xs ∧ SqT K H c ys ∧ xs.length = ys.length ∧ (∀ (i : Nat) (x y : V), xs[i]? = some x → ys[i]? = some y → AlD K H n x y) ∧ Q (.bl b) H
theorem op_neD {n : Nat} (hu : X.A.units + 1 + n < cLine) : OpR X (compareOp .NotEq) (fun x y H Q => ∃ a b kvs lvs, x = .ref a ∧ y = .ref b ∧ Rd H a (.dK kvs) ∧ Rd H b (.dK lvs) ∧ DAlike X.K H n kvs lvs ∧ Q (.bl false) H) := by
  intro pins s σ H x y v u Q I rx ry h
  obtain ⟨a, b, kvs, lvs, rfl, rfl, e1, e2, al, q⟩ := h
  cases rx
  cases ry
  exact dalike_ne I hu e1 e2 al X.prog X.w X.xe _ ⟨.bl false, H, I, rfl, q⟩
end
end L2
set_option Elab.async false
set_option linter.all false
set_option maxRecDepth 100000
set_option maxHeartbeats 4000000
namespace L2
open PySem PySem.Spec PyProof.Rows
section
variable {X : Cx} {pins : List (Addr × Obj)} {σ : St} {H : Hp} {s : Shared}
end
section
variable {P : Program} {w : World} {K : PySem.W.Frag} {mg : Str → Option Value} {base : Heap} {N : List Str} {qual : Str} {scope : Scope} {f : Addr} {cd : Value} {A : Around} {outer : List Env} {s : Shared} {H : Hp} {E E' : XK}
end
end L2
set_option Elab.async false
set_option linter.all false
set_option maxRecDepth 100000
set_option maxHeartbeats 4000000
namespace L2
open PySem PySem.Spec PyProof.Rows
section
variable {X : Cx} {E : XK} {C : Addr}
end
end L2
set_option Elab.async false
set_option linter.all false
set_option maxRecDepth 100000
set_option maxHeartbeats 4000000
namespace L2
open PySem PySem.Spec PyProof.Rows
section
variable {M : Model} {A : Around} {E : Value → Shared → Prop} {h : Heap} {g : Array GenState} {d : Drawn} {t : Nat} {os : OsState}
end
section
variable {X : Cx} {pins : List (Addr × Obj)} {σ : St} {H : Hp} {s : Shared}
end
end L2
set_option Elab.async false
set_option linter.all false
set_option maxRecDepth 100000
set_option maxHeartbeats 4000000
namespace L2
open PySem PySem.Spec PyProof.Rows
section
variable {X : Cx} {pins : List (Addr × Obj)} {σ : St} {H : Hp} {s : Shared}
end
section
variable {X : Cx}
end
section
variable {P : Program} {w : World} {K : PySem.W.Frag} {mg : Str → Option Value} {base : Heap}
end
end L2
set_option Elab.async false
set_option linter.all false
set_option maxRecDepth 100000
set_option maxHeartbeats 4000000
namespace L2
open PySem PySem.Spec PyProof.Rows PySem.W PySem.Builtin PySem.Builtin.ObjectAttr PySem.Builtin.Getset_descriptor
section
variable {prog : Program} {w : World} {A : Around} {E : Value → Shared → Prop} {s : Shared} {K : PySem.W.Frag} {x C : Addr} {R : Result → Shared → Prop}
end
section
variable {X : Cx}
end
end L2
set_option Elab.async false
set_option linter.all false
set_option maxRecDepth 100000
set_option maxHeartbeats 4000000
namespace L2
open PySem PySem.Spec PyProof.Rows
section
variable {M : Model} {A : Around} {E : Value → Shared → Prop} {s : Shared} {B : Heap} {env : Env} {outer : List Env} {L e : Addr} {cls a0 : Value} {Q : Unit → Shared → Prop}
end
end L2
set_option Elab.async false
set_option linter.all false
set_option maxRecDepth 100000
set_option maxHeartbeats 4000000
namespace L2
open PySem PySem.Spec PyProof.Rows
section
variable {P : Program} {w : World} {K : PySem.W.Frag} {mg : Str → Option Value} {base : Heap} {N : List Str} {qual : Str} {scope : Scope} {f : Addr} {cd : Value} {A : Around} {outer : List Env} {s : Shared} {H : Hp} {E : XK} {E' : St → XK}
end
section
variable {X : Cx}
end
end L2
set_option Elab.async false
set_option linter.all false
set_option maxRecDepth 100000
set_option maxHeartbeats 4000000
namespace L2
open PySem PySem.Spec PyProof.Rows
end L2
set_option Elab.async false
set_option linter.all false
set_option maxRecDepth 100000
set_option maxHeartbeats 4000000
namespace L2
open PySem PySem.Spec PyProof.Rows
end L2
set_option Elab.async false
set_option linter.all false
set_option maxRecDepth 100000
set_option maxHeartbeats 4000000
namespace L2
open PySem PySem.Spec PyProof.Rows
section
variable {X : Cx}
theorem strs_all (as bs : List Str) (h : as.length = bs.length) : ((List.range as.length).all fun j => eqV ((as.map V.str).getD j .non) ((bs.map V.str).getD j .non)) = decide (as = bs) := by
  rw [Bool.eq_iff_iff, List.all_eq_true, decide_eq_true_eq]
  constructor
  · intro q
    refine List.ext_getElem h fun j h1 h2 => ?_
    have := q j (List.mem_range.mpr h1)
    simp [eqV, h1, h2] at this
    exact this
  · rintro rfl j hj
    have hj := List.mem_range.mp hj
    simp [eqV, hj]
theorem flat_items {A : Around} {s : Shared} {xs ys : List V} {its its2 : List Value} (r : Vals xs its) (r2 : Vals ys its2) (fx : xs.all flatV = true) (fy : ys.all flatV = true) (hl : xs.length = ys.length) :
    ∀ j (h1 : j < its.toArray.size) (h2 : j < its2.toArray.size), SeqAt.EqAt A s its.toArray[j] its2.toArray[j] (eqV (xs.getD j .non) (ys.getD j .non)) := fun j h1 h2 => by
  have e1 := r.length
  have e2 := r2.length
  rw [List.size_toArray] at h1 h2
  have hjx : xs[j]? = some (xs[j]'(by omega)) := by simp
  have hjy : ys[j]? = some (ys[j]'(by omega)) := by simp
  obtain ⟨u1, q1, ru1⟩ := r.get hjx
  obtain ⟨v1, q2, rv1⟩ := r2.get hjy
  have e3 : its.toArray[j] = u1 := by
    have : its[j]? = some its[j] := by simp
    rw [this] at q1; simpa using q1
  have e4 : its2.toArray[j] = v1 := by
    have : its2[j]? = some its2[j] := by simp
    rw [this] at q2; simpa using q2
  rw [e3, e4]
  have g1 : xs.getD j .non = xs[j]'(by omega) := by rw [List.getD_eq_getElem?_getD, hjx]; rfl
  have g2 : ys.getD j .non = ys[j]'(by omega) := by rw [List.getD_eq_getElem?_getD, hjy]; rfl
  rw [g1, g2]
  exact eqAt_V ru1 rv1 (List.all_eq_true.mp fx _ (List.getElem_mem _)) (List.all_eq_true.mp fy _ (List.getElem_mem _))
def rStrs (K : PySem.W.Frag) (neg : Bool) : R2 := fun x y H Q => ∃ (a c : Addr) (as bs : List Str), x = .ref a ∧ y = .ref c ∧ SqL K H a (as.map V.str) ∧ SqL K H c (bs.map V.str) ∧ Q (.bl (if neg then !decide (as = bs) else decide (as = bs))) H
theorem flatS (ns : List Str) : (ns.map V.str).all flatV = true := by simp [flatV]
theorem op_neS (hu : X.A.units < cLine) : OpR X (compareOp .NotEq) (rStrs X.K true) := by
  intro pins s σ H x y v u Q I rx ry h
  obtain ⟨a, c, as, bs, rfl, rfl, hx, hy, q⟩ := h
  cases rx
  cases ry
  obtain ⟨its, r, pl, hz⟩ := I.list hx
  obtain ⟨its2, r2, pl2, hz2⟩ := I.list hy
  have e1 := r.length
  have e2 := r2.length
  rw [List.length_map] at e1 e2
  by_cases hl : as.length = bs.length
  · refine SeqAt.RcNeAt.lists (e := fun j => eqV ((as.map V.str).getD j .non) ((bs.map V.str).getD j .non)) pl.isList pl2.isList (by rw [List.size_toArray, List.size_toArray]; omega) hu (flat_items r r2 (flatS as) (flatS bs) (by simpa using hl)) X.prog X.w X.xe _ ?_
    rw [List.size_toArray, ← e1, strs_all as bs hl]
    exact ⟨.bl _, H, I, rfl, q⟩
  · rw [if_pos rfl, decide_eq_false (fun z => hl (by rw [z]))] at q
    exact SeqAt.RcNeAt.lists_lengths pl.isList pl2.isList (by rw [List.size_toArray, List.size_toArray]; simp; omega) hu X.prog X.w X.xe _ ⟨.bl true, H, I, rfl, q⟩
theorem op_eqS (hu : X.A.units < cLine) : OpR X (compareOp .Eq) (rStrs X.K false) := by
  intro pins s σ H x y v u Q I rx ry h
  obtain ⟨a, c, as, bs, rfl, rfl, hx, hy, q⟩ := h
  cases rx
  cases ry
  obtain ⟨its, r, pl, hz⟩ := I.list hx
  obtain ⟨its2, r2, pl2, hz2⟩ := I.list hy
  have e1 := r.length
  have e2 := r2.length
  rw [List.length_map] at e1 e2
  by_cases hl : as.length = bs.length
  · refine SeqAt.eq_listAt (e := fun j => eqV ((as.map V.str).getD j .non) ((bs.map V.str).getD j .non)) pl.isList pl2.isList (by rw [List.size_toArray, List.size_toArray]; omega) hu (flat_items r r2 (flatS as) (flatS bs) (by simpa using hl)) ?_
    rw [List.size_toArray, ← e1, strs_all as bs hl]
    exact ⟨.bl _, H, I, rfl, q⟩
  · rw [if_neg (by simp), decide_eq_false (fun z => hl (by rw [z]))] at q
    exact SeqAt.eq_list_lengthsAt pl.isList pl2.isList (by rw [List.size_toArray, List.size_toArray]; simp; omega) hu ⟨.bl false, H, I, rfl, q⟩
end
theorem cut_to (xs : List V) {b : Int} (h : 0 ≤ b) : cutV xs none (some b) = xs.take b.toNat := by
  obtain ⟨k, rfl⟩ : ∃ k : Nat, b = k := ⟨b.toNat, by omega⟩
  unfold cutV
  rw [HT.sIx_nat, HT.sIx_none, List.drop_zero, Nat.sub_zero]
  show xs.take (min k xs.length) = xs.take k
  rw [List.take_eq_take_min (i := k)]
end L2
set_option Elab.async false
set_option linter.all false
set_option maxRecDepth 100000
set_option maxHeartbeats 4000000
namespace L2
open PySem PySem.Spec PyProof.Rows
open AutoSeq1 (wpAny_loadPart')
section
variable {X : Cx}
end
end L2
set_option Elab.async false
set_option linter.all false
set_option maxRecDepth 100000
set_option maxHeartbeats 4000000
namespace L2
open PySem PySem.Spec PyProof.Rows
end L2
set_option Elab.async false
set_option linter.all false
set_option maxRecDepth 100000
set_option maxHeartbeats 4000000
namespace L2
open PySem PySem.Spec PyProof.Rows
section
variable {X : Cx}
theorem op_fdivB : OpR X (binaryOp .FloorDiv) (rI (fun _ j => 0 < j ∧ j < 10 ^ 100) fun i j => .int (i / j)) := opI fun i j _ _ _ _ _ hc q => by
  have h1 : (0 : Int) < j := hc.1
  have h2 : j < 10 ^ 100 := hc.2
  refine floordiv_int (by omega) (by rw [Int.fdiv_eq_ediv_of_nonneg i (by omega)]; exact q) (.inl (PyProof.noPylong_of_log2 ?_))
  have hj : j.natAbs ≠ 0 := by omega
  rw [Nat.log2_lt hj]
  have : j.natAbs < 10 ^ 100 := by omega
  exact Nat.lt_of_lt_of_le this (by decide +kernel)
def Itr3 (lo c : Int) (n : Nat) : It := ⟨fun i _ => i < n, fun i H x H' => H' = H ∧ x = .int (lo + i * c), fun i _ => n ≤ i⟩
theorem turn_range3 {P : Program} {w : World} {K : PySem.W.Frag} {tg : Expr} (it : Addr) (lo c : Int) (n : Nat) : Turn P w K tg (Itr3 lo c n) [it] it (fun i h => IsRangeIter h it (lo + (i : Nat) * c) ((n : Int) - (i : Nat)) c) where
  mem := by simp
  obj := fun i h st b hb => by
    have e : b = it := by simpa using hb
    subst e
    exact ⟨_, st, fun v z => by
      have z' : Data.fields _ = Data.cell v := z
      cases z'⟩
  keep := fun i h h' st k => k it (by simp) _ st
  item := by
    intro X hP hw hK hc i pins s σ H E I hf st hg
    subst hP hw hK
    obtain ⟨f0, f1, f2, f3, f4, f5⟩ := hf it (by simp)
    have W := Walks.range (prog := X.prog) (w := X.w) (I.ok.hd hc) it lo c n
    refine W.item i s _ _ hg st fun v h' tk hv st' kk => ?_
    obtain ⟨t, rfl⟩ := hv
    have I1 : Inv X pins σ H { s with heap := h', toks := tk } := I.turned (fun b o hb e => kk b o (by simpa using hb) e) f0 f1 f3 f4 f5
    exact ⟨_, rfl, go_of (s := { s with heap := h', toks := tk }) (n := "range_iterator") st' rfl rfl (by decide) ⟨.int (lo + i * c), H, I1, ⟨t, rfl⟩, ⟨rfl, rfl⟩, st', fun b hb => (hf b hb).1⟩⟩
  done := by
    intro X hP hw hK hc i pins s σ H E I hf st hg
    subst hP hw hK
    obtain ⟨f0, f1, f2, f3, f4, f5⟩ := hf it (by simp)
    exact wpAny_pyNext_range_end (I.ok.hd hc) st (by have : n ≤ i := hg; omega) fun h' eb => ⟨rfl, I.turned (t' := s.toks) (fun b o hb e => eb b o hb e) f0 f1 f3 f4 f5⟩
  self := fun _ _ _ _ _ st h => wpAny_pyIter_rangeiter st h
def iRng3 (ta : TA) : TI := fun σ H R => ta σ H fun vs H1 => ∃ (i j c : Int) (n : Nat), vs = [.int i, .int j, .int c] ∧ (0 < c ∧ c < 1000) ∧ Builtin.Range.small i j c = true ∧ Builtin.Range.rangeSize i j c = n ∧ R (Itr3 i c n) H1
theorem pi_range3 {tg a b c : Expr} {ta : TA} {p pos : Pos} (hg : Gl X "range") (hm : X.mg "range" = none) (ha : PA X [a, b, c] ta) (hs : starEach [a, b, c] X.env = [(false, eval a X.env), (false, eval b X.env), (false, eval c X.env)] := by rfl) (hs2 : starEach [b, c] X.env = [(false, eval b X.env), (false, eval c X.env)] := by rfl) :
    PI X tg (.Call (.Name "range" p) [a, b, c] [] pos) (iRng3 ta) := by
  intro pins s σ H R I h
  refine Call_ (ld_blt I hg hm boot_range (PyProof.Rows.callWith_type1 (thn (ha pos pins s σ H _ I h) fun us s1 ⟨vs, H1, I1, r1, q1⟩ => ?_) (by rw [hs, hs2]) (by rw [hs2]; rfl)))
  obtain ⟨i, j, c, n, e, ⟨c0, c1⟩, hsm, hn, q⟩ := q1
  subst e
  cases r1 with
  | cons r rr =>
    cases rr with
    | cons r' rr =>
      cases rr with
      | cons r'' rr =>
        cases rr
        obtain ⟨t, rfl⟩ := r
        obtain ⟨u, rfl⟩ := r'
        obtain ⟨v, rfl⟩ := r''
        refine call_range_3 (by omega) ?_ (.inl (PyProof.noPylong_small (by omega)))
        refine wpAny_pyIter_range (IsRange.new ..) hsm ?_
        have I2 : Inv X pins σ H1 { s1 with heap := s1.heap.push { cls := .type "range", data := .fields #[.int i t, .int j u, .int c v] }, toks := s1.toks } := I1.kept fun b o e => Heap.get?_push_of_some _ e
        refine ⟨(s1.heap.push { cls := .type "range", data := .fields #[.int i t, .int j u, .int c v] }).objs.size, [(s1.heap.push { cls := .type "range", data := .fields #[.int i t, .int j u, .int c v] }).objs.size], _, _, H1, rfl,
          I2.kept (t' := s1.toks) fun b o e => Heap.get?_push_of_some _ e, turn_range3 _ i c n, ?_, fun b hb => ?_, q⟩
        · have e1 : i + ((0 : Nat) : Int) * c = i := by simp
          have e2 : ((n : Nat) : Int) - ((0 : Nat) : Int) = Builtin.Range.rangeSize i j c := by rw [hn]; simp
          show IsRangeIter _ _ (i + ((0 : Nat) : Int) * c) (((n : Nat) : Int) - ((0 : Nat) : Int)) c
          rw [e1, e2]
          exact Heap.get?_push_size _ rfl
        · have e : b = (s1.heap.push { cls := .type "range", data := .fields #[.int i t, .int j u, .int c v] }).objs.size := by simpa using hb
          subst e
          exact I2.fpOk (Nat.le_refl _) (I2.hok.fresh (Nat.le_refl _))
theorem for_range3 {lo c : Int} {n : Nat} {g : TG} {tb : TS} {D : Ends} {σ : St} {H : Hp} (Pv : Nat → St → Hp → Prop) (h0 : Pv 0 σ H)
    (hs : ∀ i σ H, i < n → Pv i σ H → g (.int (lo + i * c)) σ H fun σ2 H2 => tb { D with nx := Pv (i + 1), ct := Pv (i + 1), bk := D.nx } σ2 H2) (hd : ∀ σ H, Pv n σ H → D.nx σ H) :
    ∃ W : Nat → Nat → St → Hp → Prop, (∃ m, W 0 m σ H) ∧ ∀ i m σ H, W i m σ H →
      ((Itr3 lo c n).stop i H ∧ D.nx σ H) ∨ ((Itr3 lo c n).go i H ∧ ∃ N : St → Hp → Prop, (∀ σ' H', N σ' H' → ∃ m', m' < m ∧ W (i + 1) m' σ' H') ∧ ∀ x H', (Itr3 lo c n).yld i H x H' → g x σ H' fun σ2 H2 => tb { D with nx := N, ct := N, bk := D.nx } σ2 H2) := by
  refine ⟨fun i m σ H => m = n - i ∧ i ≤ n ∧ Pv i σ H, ⟨n, by simp, Nat.zero_le _, h0⟩, ?_⟩
  rintro i m σ H ⟨rfl, hi, p⟩
  by_cases hlt : i < n
  · refine .inr ⟨hlt, Pv (i + 1), fun σ' H' p' => ⟨n - (i + 1), by omega, rfl, hlt, p'⟩, fun x H' y => ?_⟩
    obtain ⟨rfl, rfl⟩ := y
    exact hs i σ _ hlt p
  · have e : i = n := by omega
    subst e
    exact .inl ⟨Nat.le_refl _, hd σ H p⟩
theorem small_by {j c : Int} (hj : 0 ≤ j) (hj' : j < 1000) (hc : 0 < c) (hc' : c < 1000) : Builtin.Range.small 0 j c = true ∧ ∃ n : Nat, Builtin.Range.rangeSize 0 j c = n ∧ n ≤ 1000 ∧ ∀ i : Nat, i < n → (i : Int) * c < j := by
  have h0 : 0 ≤ (j - 0 - 1) / c ∨ j = 0 := by
    by_cases z : j = 0
    · exact .inr z
    · exact .inl (Int.ediv_nonneg (by omega) (by omega))
  have h1 : (j - 0 - 1) / c ≤ 999 := Int.le_trans (Int.ediv_le_ediv hc (show j - 0 - 1 ≤ 999 by omega)) (Int.ediv_le_self _ (by decide))
  constructor
  · unfold Builtin.Range.small Builtin.Range.rangeSize
    simp only [Builtin.Range.rangeFitsLong, Bool.and_eq_true, Bool.or_eq_true, decide_eq_true_eq, beq_iff_eq, hc, if_true]
    split <;> omega
  · unfold Builtin.Range.rangeSize
    rw [if_pos hc]
    by_cases z : 0 < j
    · rw [if_pos z]
      have h0 : 0 ≤ (j - 0 - 1) / c := Int.ediv_nonneg (by omega) (by omega)
      have hm : ∀ i : Int, i ≤ (j - 0 - 1) / c → i * c < j := fun i hi => by
        have := (Int.le_ediv_iff_mul_le hc).mp hi
        omega
      generalize (j - 0 - 1) / c = e at h0 h1 hm ⊢
      exact ⟨(e + 1).toNat, by omega, by omega, fun i hi => hm i (by omega)⟩
    · rw [if_neg z]
      exact ⟨0, rfl, by decide, fun i hi => by omega⟩
end
end L2
set_option Elab.async false
set_option linter.all false
set_option maxRecDepth 100000
set_option maxHeartbeats 4000000
namespace RV
open PySem
end RV
set_option Elab.async false
set_option linter.all false
set_option maxRecDepth 100000
set_option maxHeartbeats 4000000
namespace RV
open PySem
section
variable {P : Program} {w : World} {A : Around} {E : Value → Shared → Prop} {s : Shared}
end
end RV
set_option Elab.async false
set_option linter.all false
set_option maxRecDepth 100000
set_option maxHeartbeats 4000000
namespace RV
open PySem
section
variable {P : Program} {w : World} {A : Around} {E : Value → Shared → Prop} {s : Shared}
end
end RV
set_option Elab.async false
set_option linter.all false
set_option maxRecDepth 100000
set_option maxHeartbeats 4000000
namespace RV
open PySem
section
variable {P : Program} {w : World} {A : Around} {E : Value → Shared → Prop} {s : Shared}
end
end RV
set_option Elab.async false
set_option linter.all false
set_option maxRecDepth 100000
set_option maxHeartbeats 4000000
namespace RV
open PySem
section
variable {P : Program} {w : World} {A : Around} {E : Value → Shared → Prop} {s : Shared}
end
end RV
set_option Elab.async false
set_option linter.all false
set_option maxRecDepth 100000
set_option maxHeartbeats 4000000
namespace L2
open PySem PySem.Spec PyProof.Rows
section
variable {X : Cx} {pins : List (Addr × Obj)} {σ : St} {H H' : Hp} {s : Shared}
end
section
variable {X : Cx}
theorem rel_key {P : Program} {w : World} {k : Key} {u : Value} (h : (mixKind P w).is k u = true) : RelV (kV k) u := by
  rcases keyIs_shape (show keyIs k u = true from h) with ⟨i, t, rfl, rfl⟩ | ⟨x, t, rfl, rfl⟩
  · exact ⟨t, rfl⟩
  · exact ⟨t, rfl⟩
theorem kv_at : ∀ {kvs : List (Key × V)} {vs : List (Key × Value)} {j : Nat} {k : Key} {v : V}, KV kvs vs → kvs[j]? = some (k, v) → ∃ u, vs[j]? = some (k, u) ∧ RelV v u
  | _, _, j, _, _, .nil, h => by simp at h
  | _, _, 0, k, v, .cons (a := a) (b := b) r _, h => by
    have e : a = (k, v) := by simpa using h
    subst e
    exact ⟨b.2, by simp; exact Prod.ext r.1.symm rfl, r.2⟩
  | _, _, j + 1, k, v, .cons r rr, h => by
    obtain ⟨u, h1, h2⟩ := kv_at rr (show _ = some (k, v) by simpa using h)
    exact ⟨u, by simpa using h1, h2⟩
end
end L2
set_option Elab.async false
set_option linter.all false
set_option maxRecDepth 100000
set_option maxHeartbeats 4000000
namespace L2
open PySem PySem.Spec PyProof.Rows
section
variable {X : Cx} {pins : List (Addr × Obj)} {σ : St} {H : Hp} {s : Shared} {a : Addr} {u o' : HO}
theorem Inv.retell (I : Inv X pins σ H s) (e : H a = some u) (nt : ∀ xs, u ≠ .tup xs) (no : ∀ x, u ≠ .own x) (nb : ∀ ps, u ≠ .tbl ps) (nf : ∀ o v, X.H₀ a ≠ some (.frz o v)) (new : ObjOk X.prog X.w (upd H a o') s.heap a o') : Inv X pins σ (upd H a o') s := by
  have ne : ∀ b, H b = none → b ≠ a := fun b h z => by rw [z, e] at h; cases h
  refine ⟨I.ok, I.os, I.bare, ⟨I.base.keep, I.base.slot, fun b o q n x => ?_, I.base.there, fun b xs q => ?_, fun b o v q => ?_, fun b ps q => ?_⟩, I.loc, I.cell, ?_, fun x c h => ?_, fun p hp => ?_, fun b o q => ?_, I.len⟩
  · have := I.base.free b o q n x
    rw [upd_ne (ne b this)]; exact this
  · have := I.base.tups b xs q
    rw [upd_ne (fun z => by rw [z, e] at this; exact nt xs (Option.some.inj this))]; exact this
  · have := I.base.frzs b o v q
    rw [upd_ne (fun z => nf o v (by rw [← z]; exact q))]; exact this
  · obtain ⟨more, this⟩ := I.base.tbls b ps q
    exact ⟨more, by rw [upd_ne (fun z => by rw [z, e] at this; exact nb _ (Option.some.inj this))]; exact this⟩
  · rw [upd_ne (ne _ I.free)]; exact I.free
  · rw [upd_ne (ne _ (I.freeC x c h))]; exact I.freeC x c h
  · obtain ⟨h1, h2, h3⟩ := I.pin p hp
    exact ⟨h1, by rw [upd_ne (ne _ h2)]; exact h2, h3⟩
  · by_cases z : b = a
    · subst z; rw [upd_same] at q; cases q; exact new
    · rw [upd_ne z] at q
      refine (I.hok b o q).stay (fun c v _ y => y) (fun c y => ?_) fun c xs y => ?_
      · rw [upd_ne (fun z => by rw [z, e] at y; exact no _ (Option.some.inj y))]; exact y
      · rw [upd_ne (fun z => by rw [z, e] at y; exact nt _ (Option.some.inj y))]; exact y
end
def thawE (D : Ends) (a : Addr) (o : Obj) (kvs : List (Key × V)) : Ends where
  nx := fun σ H => H a = some (.frz o (.dK kvs)) ∧ D.nx σ (upd H a (.dK kvs))
  rt := fun v H => H a = some (.frz o (.dK kvs)) ∧ D.rt v (upd H a (.dK kvs))
  bk := fun σ H => H a = some (.frz o (.dK kvs)) ∧ D.bk σ (upd H a (.dK kvs))
  ct := fun σ H => H a = some (.frz o (.dK kvs)) ∧ D.ct σ (upd H a (.dK kvs))
section
variable {X : Cx}
theorem Inv.thaw {pins : List (Addr × Obj)} {σ : St} {H : Hp} {s : Shared} {a : Addr} {o : Obj} {kvs : List (Key × V)} (I : Inv X pins σ H s) (e : H a = some (.frz o (.dK kvs))) (nf : ∀ o v, X.H₀ a ≠ some (.frz o v)) : Inv X pins σ (upd H a (.dK kvs)) s := by
  obtain ⟨_, z⟩ : ObjOk X.prog X.w H s.heap a (.frz o (.dK kvs)) := I.hok a _ e
  exact I.retell e (fun _ h => nomatch h) (fun _ h => nomatch h) (fun _ h => nomatch h) nf z
theorem ps_frz {st : Stmt} {t : TS} (h : PS X st t) : PS X st (fun D σ H => ∃ a kvs, H a = some (.dK kvs) ∧ ∀ o, t (thawE D a o kvs) σ (upd H a (.frz o (.dK kvs)))) := by
  intro pins s σ H D I ⟨a, kvs, e, q⟩
  have ok : ObjOk X.prog X.w H s.heap a (.dK kvs) := I.hok a _ e
  obtain ⟨_, _, _, _, o, _, _, ho, _⟩ := id ok
  have nf : ∀ o v, X.H₀ a ≠ some (.frz o v) := fun o v z => by
    have := I.base.frzs a o v z
    rw [e] at this; cases this
  have I1 : Inv X pins σ (upd H a (.frz o (.dK kvs))) s := I.retell e (fun _ h => nomatch h) (fun _ h => nomatch h) (fun _ h => nomatch h) nf ⟨ho, ok⟩
  refine thn (h pins s σ _ _ I1 (q o)) fun f s' r => ?_
  cases f with
  | next => obtain ⟨σ', H', I', e', d'⟩ := r; exact ⟨σ', _, I'.thaw e' nf, d'⟩
  | brk => obtain ⟨σ', H', I', e', d'⟩ := r; exact ⟨σ', _, I'.thaw e' nf, d'⟩
  | cont => obtain ⟨σ', H', I', e', d'⟩ := r; exact ⟨σ', _, I'.thaw e' nf, d'⟩
  | ret u => obtain ⟨v, σ', H', I', rv, e', d'⟩ := r; exact ⟨v, σ', _, I'.thaw e' nf, rv, d'⟩
end
end L2
set_option Elab.async false
set_option linter.all false
set_option maxRecDepth 100000
set_option maxHeartbeats 4000000
namespace RV
open PySem
theorem e_itemIter : entryFor table "dict_itemiterator.__iter__" = some Builtin.«dict_keyiterator.__iter__» :=
  entryFor_alias (id' := "dict_keyiterator.__iter__") (by kernel_rfl) (by decide +kernel) (by decide +kernel) (by kernel_rfl)
end RV
namespace L2
open PySem PySem.Spec PyProof.Rows
def Itm (a : Addr) (o : Obj) (kvs : List (Key × V)) : It :=
  ⟨fun i H => H a = some (.frz o (.dK kvs)) ∧ i < kvs.length, fun i H v H' => ∃ t k x, v = .ref t ∧ H t = none ∧ kvs[i]? = some (k, x) ∧ H' = upd H t (.tup [kV k, x]), fun i H => H a = some (.frz o (.dK kvs)) ∧ kvs.length ≤ i⟩
theorem frz_at {X : Cx} {pins : List (Addr × Obj)} {σ : St} {H : Hp} {s : Shared} {a : Addr} {o : Obj} {kvs : List (Key × V)} (I : Inv X pins σ H s) (e : H a = some (.frz o (.dK kvs))) :
    ∃ vs es ep, KV kvs vs ∧ o.data = .dict es ep ∧ es.size = kvs.length ∧ s.heap.DictAt (mixKind X.prog X.w) a vs ep ∧ (a == sysModules) = false ∧ kvs.length ≤ sizeLine ∧ s.heap.get? a = some o ∧ o.ExactDict := by
  obtain ⟨ho, z, hd, vs, rel, o1, es, ep, y1, y2, y3, y4, y5, y6⟩ : ObjOk X.prog X.w H s.heap a (.frz o (.dK kvs)) := I.hok a _ e
  rw [ho] at y1
  cases y1
  have l1 := y5.length
  have l2 := rel.length
  exact ⟨vs, es, ep, rel, y3, by simp only [Array.length_toList] at l1; omega, ⟨o, es, ho, y2, y3, y4, y5, y6⟩, hd, z, ho, y2⟩
theorem turn_items {P : Program} {w : World} {K : PySem.W.Frag} {elts : List Expr} {kk : Nat} {tp : Pos} (a it : Addr) (o : Obj) (es : Array DictEntry) (ep : Nat) (kvs : List (Key × V)) (hd : o.data = .dict es ep) (sz : es.size = kvs.length) : Turn P w K (.Tuple elts kk tp) (Itm a o kvs) [it] it (fun i h => ∃ ok ov, IsItemIter h it a i kvs.length ep ok ov) where
  mem := by simp
  obj := fun i h ⟨ok, ov, st⟩ b hb => by
    have : b = it := by simpa using hb
    subst this
    exact ⟨_, st, fun v y => by cases y⟩
  keep := fun i h h' ⟨ok, ov, st⟩ k => ⟨ok, ov, k it (by simp) _ st⟩
  item := by
    intro X hP hw hK hc i pins s σ H E I hf st hg
    subst hP hw hK
    obtain ⟨e, hi⟩ := hg
    obtain ⟨ok, ov, st⟩ := st
    obtain ⟨vs, es', ep', rel, hd', _, da, _, _, ho, _⟩ := frz_at I e
    have ee : ep' = ep := by rw [hd] at hd'; cases hd'; rfl
    subst ee
    have len := rel.length
    have ek : kvs[i]? = some (kvs[i].1, kvs[i].2) := List.getElem?_eq_getElem hi
    obtain ⟨v, ev, rv⟩ := kv_at rel ek
    rw [len] at st
    refine wpAny_pyNext_items_item st da ev fun key h1 hk eo t1 z1 o1 => ?_
    refine ⟨_, rfl, wpAny_letOwnedTupleGo_items eo fun h2 e2 b2 => ?_⟩
    have b2 : Heap.SameBut it h1 h2 := b2
    have ilt : it < s.heap.objs.size := Heap.lt_size st
    have t2 : h2.get? s.heap.objs.size = some { cls := .type "tuple", data := .seq #[key, v] } := b2.extBut _ _ (Nat.ne_of_gt ilt) t1
    have on : ∀ b u, b ∉ [it] → s.heap.get? b = some u → h2.get? b = some u := fun b u nb y => b2.extBut b u (fun z => nb (by simp [z])) (o1 b u (fun z => nb (by simp [z])) y)
    have hn : ∀ b ∈ [it], H b = none := fun b hb => (hf b hb).1
    have new : ObjOk X.prog X.w (upd H s.heap.objs.size (.tup [kV kvs[i].1, kvs[i].2])) h2 s.heap.objs.size (.tup [kV kvs[i].1, kvs[i].2]) := ⟨by show (2 : Nat) ≤ sizeLine; decide, [key, v], .cons (rel_key hk) (.cons rv .nil), ⟨_, t2, rfl, _, rfl⟩⟩
    have I2 : Inv X pins σ (upd H s.heap.objs.size (.tup [kV kvs[i].1, kvs[i].2])) { s with heap := h2 } := I.call' (ch := [it]) rfl (un_laid on (Nat.le_refl _) (I.hok.fresh (Nat.le_refl _))) (hok_laid I.hok on hn (Nat.le_refl _) new) I.bare fun b hb => by
      obtain ⟨_, f1, _, f3, f4, f5⟩ := hf b hb
      exact ⟨f3, f1, f4, f5⟩
    rw [← len] at e2
    refine ⟨.ref s.heap.objs.size, _, I2, rfl, ⟨_, _, _, rfl, I.hok.fresh (Nat.le_refl _), ek, rfl⟩, ⟨_, _, e2⟩, fun b hb => ?_⟩
    have hb' := hn b hb
    have : b = it := by simpa using hb
    rw [upd_ne (by rw [this]; exact Nat.ne_of_lt ilt)]; exact hb'
  done := by
    intro X hP hw hK hc i pins s σ H E I hf st hg
    subst hP hw hK
    obtain ⟨e, hi⟩ := hg
    obtain ⟨ok, ov, st⟩ := st
    obtain ⟨vs, es', ep', rel, hd', _, da, _, _, ho, _⟩ := frz_at I e
    have ee : ep' = ep := by rw [hd] at hd'; cases hd'; rfl
    subst ee
    have len := rel.length
    rw [len] at st
    obtain ⟨f0, f1, f2, f3, f4, f5⟩ := hf it (by simp)
    exact wpAny_pyNext_items_end (I.ok.hd hc) st da (by simp; omega) fun h' eb => ⟨rfl, I.turned (t' := s.toks) (fun b o hb y => eb b o hb y) f0 f1 f3 f4 f5⟩
  self := fun A i s Q E ⟨ok, ov, st⟩ h => by
    have ty : s.TypeIs (.ref it) "dict_itemiterator" := ⟨_, st, rfl⟩
    refine wpAny_pyIter_slot ty PySem.F.slot_dict_itemiterator_iter (wpAny_call_entry PySem.F.slot_dict_itemiterator_iter ty RV.e_itemIter ?_ (PySem.F.args_dict_itemiterator_iter_1 _))
    exact wpAny_bind (wpAny_pure (wpAny_pure ⟨_, rfl, "dict_itemiterator", _, ty, PySem.F.slot_dict_itemiterator_next.lookup, h⟩))
end L2
set_option Elab.async false
set_option linter.all false
set_option maxRecDepth 100000
set_option maxHeartbeats 4000000
namespace L2
open PySem PySem.Spec PyProof.Rows
section
variable {X : Cx} {elts : List Expr} {kk : Nat} {tp : Pos}
theorem pi_items {o : Expr} {to : TE} {apos cpos : Pos} (ho : PE X o to) (hbase : attributeBase o "items" X.env (eval o X.env) = eval o X.env := by rfl) (hline : (apos.endLine == cpos.line) = true := by rfl) :
    PI X (.Tuple elts kk tp) (.Call (.Attribute o "items" apos) [] [] cpos) (fun σ H R => to σ H fun x H1 => ∃ a ob kvs, x = .ref a ∧ H1 a = some (.frz ob (.dK kvs)) ∧ R (Itm a ob kvs) H1) := by
  intro pins s σ H R I h
  refine wpAny_Call_method0_late hbase hline (thn (ho pins s σ H _ I h) fun v s1 ⟨x, H1, I1, r1, a, ob, kvs, ex, e, q⟩ => ?_)
  subst ex
  cases r1
  obtain ⟨vs, es, ep, rel, hd, sz, da, nsys, z, hget, exd⟩ := frz_at I1 e
  have ty : s1.TypeIs (.ref a) "dict" := ⟨_, hget, exd.1⟩
  have len := rel.length
  refine ⟨"dict", "dict.items", PySem.F.plainAttrs_dict, PySem.F.slot_dict_items, PySem.F.type_dict_items, ty, (fun b y => by cases y; exact ⟨ob, hget, exd.2.1⟩), Calls.callWith_builtin rfl (PySem.evalArgs_none ?_)⟩
  obtain ⟨o2, es2, y1, y2, y3, y4, y5, y6⟩ := id da
  refine wpAny_call (codeAny_call_builtin PySem.F.slot_dict_items.plain PySem.F.entry_dict_items (PySem.F.slot_dict_items.check _ _ _ _ _ _ _ _ ty (PySem.F.args_dict_items_1 _) (meets_dict_items (mixKind X.prog X.w) a nsys X.A (wants (fun v s1 => wpAny (model X.prog X.w) X.A (pyIter v) (PIE X pins σ (.Tuple elts kk tp) R) X.xe s1) X.xe) s1 ⟨⟨vs, o2, es2, ep, y1, y2, y3, y4, y5, y6⟩, ?_⟩)))
  show wpAny _ _ (pyIter _) _ _ _
  have hv : (s1.heap.push { cls := .type "dict_items", data := .fields #[.ref a] }).IsItemsView s1.heap.objs.size a := ⟨_, Heap.get?_push_size _ rfl, rfl, rfl⟩
  have da' : (s1.heap.push { cls := .type "dict_items", data := .fields #[.ref a] }).DictAt (mixKind X.prog X.w) a vs ep := ⟨o2, es2, Heap.get?_push_of_some _ y1, y2, y3, y4, y5, y6⟩
  refine wpAny_pyIter_items (s := { s1 with heap := s1.heap.push { cls := .type "dict_items", data := .fields #[.ref a] } }) hv da' ?_
  have k1 : ∀ b u, s1.heap.get? b = some u → ((s1.heap.push { cls := .type "dict_items", data := .fields #[.ref a] }).push { cls := .type "dict_itemiterator", data := .fields #[.none, .bool false, .ref a, .int 0 0, .int vs.length 0, .int ep 0, .none, .none] }).get? b = some u := fun b u y => Heap.get?_push_of_some _ (Heap.get?_push_of_some _ y)
  refine ⟨_, [(s1.heap.push { cls := .type "dict_items", data := .fields #[.ref a] }).objs.size], _, _, H1, rfl, I1.kept (t' := s1.toks) k1, turn_items a _ ob es ep kvs hd sz, ⟨_, _, by rw [len]; exact Heap.get?_push_size _ rfl⟩, fun b hb => ?_, q⟩
  have : b = (s1.heap.push { cls := .type "dict_items", data := .fields #[.ref a] }).objs.size := by simpa using hb
  subst this
  have ge : s1.heap.objs.size ≤ (s1.heap.push { cls := .type "dict_items", data := .fields #[.ref a] }).objs.size := by rw [Heap.size_push]; exact Nat.le_succ _
  exact I1.fpOk ge (I1.hok.fresh ge)
end
theorem for_items {a : Addr} {o : Obj} {kvs : List (Key × V)} {g : TG} {tb : TS} {D : Ends} {σ : St} {H : Hp} (Pv : Nat → St → Hp → Prop) (h0 : Pv 0 σ H) (hl : ∀ i σ H, i ≤ kvs.length → Pv i σ H → H a = some (.frz o (.dK kvs)))
    (hs : ∀ i k v σ H t, kvs[i]? = some (k, v) → Pv i σ H → H t = none → g (.ref t) σ (upd H t (.tup [kV k, v])) fun σ2 H2 => tb { D with nx := Pv (i + 1), ct := Pv (i + 1), bk := D.nx } σ2 H2) (hd : ∀ σ H, Pv kvs.length σ H → D.nx σ H) :
    ∃ W : Nat → Nat → St → Hp → Prop, (∃ m, W 0 m σ H) ∧ ∀ i m σ H, W i m σ H →
      ((Itm a o kvs).stop i H ∧ D.nx σ H) ∨ ((Itm a o kvs).go i H ∧ ∃ N : St → Hp → Prop, (∀ σ' H', N σ' H' → ∃ m', m' < m ∧ W (i + 1) m' σ' H') ∧ ∀ x H', (Itm a o kvs).yld i H x H' → g x σ H' fun σ2 H2 => tb { D with nx := N, ct := N, bk := D.nx } σ2 H2) := by
  refine ⟨fun i m σ H => m = kvs.length - i ∧ i ≤ kvs.length ∧ Pv i σ H, ⟨kvs.length, by simp, Nat.zero_le _, h0⟩, ?_⟩
  rintro i m σ H ⟨rfl, hi, p⟩
  by_cases hlt : i < kvs.length
  · refine .inr ⟨⟨hl i σ H hi p, hlt⟩, Pv (i + 1), fun σ' H' p' => ⟨_, ?_, rfl, hlt, p'⟩, fun x H' y => ?_⟩
    · show kvs.length - (i + 1) < kvs.length - i
      omega
    · obtain ⟨t, k, v, rfl, ft, ek, rfl⟩ := y
      exact hs i k v σ H t ek p ft
  · have e : i = kvs.length := by omega
    subst e
    exact .inl ⟨⟨hl _ σ H hi p, Nat.le_refl _⟩, hd σ H p⟩
end L2
set_option Elab.async false
set_option linter.all false
set_option maxRecDepth 100000
set_option maxHeartbeats 4000000
namespace L2
open PySem PySem.Spec PyProof.Rows
def vvO (p a : Addr) : HO := .ext fun h => h.IsValuesView p a
def sumI : List Int → Int
  | [] => 0
  | i :: is => i + sumI is
theorem preSum_eq (val : Nat → Int) : ∀ (n : Nat), preSum val n = sumI ((List.range n).map val)
  | 0 => rfl
  | n + 1 => by
    have ap : ∀ (a b : List Int), sumI (a ++ b) = sumI a + sumI b := fun a b => by
      induction a with
      | nil => simp [sumI]
      | cons x a ih => simp only [List.cons_append, sumI, ih]; omega
    rw [preSum, preSum_eq val n, List.range_succ, List.map_append, ap]
    simp [sumI]
section
variable {X : Cx}
theorem mt_values : MtM X "dict.values" (fun x xs H Q => ∃ a kvs, x = .ref a ∧ xs = [] ∧ H a = some (.dK kvs) ∧ ∀ p, H p = none → Q (.ref p) (upd H p (vvO p a))) := by
  intro pins s σ H x xs v us Q I rx rv h
  obtain ⟨a, kvs, rfl, rfl, e, q⟩ := h
  cases rx
  cases rv.zero
  obtain ⟨z, hd, vs, rel, dd⟩ := dk_of I.hok e
  have ty : s.TypeIs (.ref a) "dict" := dd.typeIs
  refine wpAny_call (codeAny_call_builtin PySem.F.slot_dict_values.plain PySem.F.entry_dict_values (PySem.F.slot_dict_values.check _ _ _ _ _ _ _ _ ty (PySem.F.args_dict_values_1 _) (meets_dict_values (mixKind X.prog X.w) a hd X.A (wants (EP X pins σ Q) X.xe) s ⟨⟨vs, dd⟩, ?_⟩)))
  refine ⟨.ref s.heap.objs.size, _, I.laid (o := vvO s.heap.objs.size a) (t' := s.toks) (fun b u y => Heap.get?_push_of_some _ y) (Nat.le_refl _) ?_, rfl, q _ (I.hok.fresh (Nat.le_refl _))⟩
  exact ⟨⟨_, Heap.get?_push_size _ rfl, rfl, rfl⟩, ⟨_, Heap.get?_push_size _ rfl⟩, fun h1 h2 ⟨o, y, r⟩ k => ⟨o, k _ y, r⟩⟩
theorem call_sumV (hc : X.calm = true) : CallR X (.builtin "sum") (fun xs H Q => ∃ (p a : Addr) (kvs : List (Key × V)) (is : List Int), xs = [.ref p] ∧ H p = some (vvO p a) ∧ H a = some (.dK kvs) ∧ kvs.map (·.2) = is.map V.int ∧ Q (.int (sumI is)) H) := by
  intro pins s σ H xs us Q I rv h
  obtain ⟨p, a, kvs, is, rfl, ep, ea, ev, q⟩ := h
  obtain ⟨u, rfl, ru⟩ := rv.one
  cases ru
  obtain ⟨z, hd, vs, rel, dd⟩ := dk_of I.hok ea
  obtain ⟨hv, _, _⟩ : ObjOk X.prog X.w H s.heap p (vvO p a) := I.hok p _ ep
  obtain ⟨o, es, ep', y1, y2, y3, y4, y5, y6⟩ := id dd
  have len := rel.length
  have il : is.length = kvs.length := by have := congrArg List.length ev; simpa using this.symm
  have K0 := PySem.W.kdl_values (prog := X.prog) (w := X.w) (knd := mixKind X.prog X.w) (r := p) (d := a) (kvs := vs) (ep := ep')
  have hok : s.heap.IsValuesView p a ∧ s.heap.DictAt (mixKind X.prog X.w) a vs ep' := ⟨hv, o, es, y1, y2, y3, y4, y5, y6⟩
  refine call_sum_walkAnyS ?_
  obtain ⟨oI, St, hit, W, st⟩ := K0.iter X.A.in1 s (I.ok.hd hc) hok
  refine hit _ _ ⟨s.heap.objs.size, _, _, _, vs.length, _, _, fun j => is.getD j 0, rfl, W.toS, st, fun b hb => ?_, fun j v ⟨k, hk⟩ => ?_, fun s' t' hm => ?_⟩
  · show b < (s.heap.push oI).objs.size
    rw [Heap.size_push]
    rcases List.mem_cons.mp hb with e | hb
    · rw [e]; exact Nat.lt_succ_self _
    · rw [List.mem_singleton.mp hb]; exact Nat.lt_succ_of_lt (K0.there _ hok).2
  · have jl : j < kvs.length := by rw [len]; exact (List.getElem?_eq_some_iff.mp hk).1
    obtain ⟨u, e1, r1⟩ := kv_at rel (List.getElem?_eq_getElem jl)
    rw [hk] at e1
    cases e1
    have : (kvs.map (·.2))[j]? = (is.map V.int)[j]? := by rw [ev]
    rw [List.getElem?_map, List.getElem?_map, List.getElem?_eq_getElem jl, List.getElem?_eq_getElem (by omega)] at this
    have this : kvs[j].2 = V.int is[j] := by simpa using this
    have r1 : RelV kvs[j].2 v := r1
    rw [this] at r1
    obtain ⟨t, rfl⟩ := r1
    exact ⟨t, by simp [List.getD, List.getElem?_eq_getElem (show j < is.length by omega)]⟩
  · have hk : ∀ b o, s.heap.get? b = some o → s'.heap.get? b = some o := fun b o e =>
      hm.heap b o (fun hI => absurd (Heap.lt_size e) (by rw [List.mem_singleton.mp hI]; exact Nat.lt_irrefl _)) (Heap.get?_push_of_some _ e)
    rw [Moved.eq_with hm]
    have es : preSum (fun j => is.getD j 0) vs.length = sumI is := by
      rw [preSum_eq, show vs.length = is.length by omega]
      congr 1
      apply List.ext_getElem
      · simp
      · intro n h1 h2
        simp at h1
        simp [List.getD, h1]
    exact ⟨.int (sumI is), H, I.kept (t' := s'.toks) hk, ⟨t', by rw [es]⟩, q⟩
end
end L2
set_option Elab.async false
set_option linter.all false
set_option maxRecDepth 100000
set_option maxHeartbeats 4000000
namespace L2
open PySem PySem.Spec PyProof.Rows
section
variable {X : Cx}
end
end L2
set_option Elab.async false
set_option linter.all false
set_option maxRecDepth 100000
set_option maxHeartbeats 4000000
namespace L2
open PySem PySem.Spec PyProof.Rows
section
variable {X : Cx}
theorem strs_of : ∀ (vs : List Value) (ks : List Str), vs.length = ks.length → (∀ (j : Nat) (v : Value), vs[j]? = some v → ∃ x t, ks[j]? = some x ∧ v = .str x t) → StrsAre vs ks
  | [], [], _, _ => .nil
  | [], _ :: _, h, _ => by simp at h
  | _ :: _, [], h, _ => by simp at h
  | v :: vs, k :: ks, h, f => by
    obtain ⟨x, t, e1, e2⟩ := f 0 v rfl
    have e1 : k = x := by simpa using e1
    subst e1 e2
    exact .cons k t (strs_of vs ks (by simpa using h) fun j v e => by
      obtain ⟨x, t, e1, e2⟩ := f (j + 1) v (by simpa using e)
      exact ⟨x, t, by simpa using e1, e2⟩)
theorem call_sortedD (hc' : X.calm = true) : CallR X (.builtin "sorted") (fun xs H Q => ∃ (a : Addr) (kvs : List (Key × V)) (ks : List Str), xs = [.ref a] ∧ H a = some (.dK kvs) ∧ kvs.map (·.1) = ks.map Sum.inr ∧ ks.length ≤ 4096 ∧ ∀ b zs, H b = none → zs.Perm ks → RiseS zs → Q (.ref b) (upd H b (.lst (zs.map V.str)))) := by
  intro pins s σ H xs us Q I r h
  obtain ⟨a, kvs, ks, rfl, ea, ek, hc, q⟩ := h
  obtain ⟨u, rfl, rx⟩ := vals1 r
  cases rx
  obtain ⟨z, hd, vs, rel, dd⟩ := dk_of I.hok ea
  obtain ⟨o, es, ep', y1, y2, y3, y4, y5, y6⟩ := id dd
  have len := rel.length
  have kl : ks.length = kvs.length := by have := congrArg List.length ek; simpa using this.symm
  have K0 := PySem.W.kdl_dict (prog := X.prog) (w := X.w) (knd := mixKind X.prog X.w) (d := a) (kvs := vs) (ep := ep') hd
  have hok : s.heap.DictAt (mixKind X.prog X.w) a vs ep' := ⟨o, es, y1, y2, y3, y4, y5, y6⟩
  have hsl : (4096 : Nat) ≤ sizeLine := by decide +kernel
  refine ST.w_sortedC (kd := oneType') (κ := PyProof.Rows.strKind)
    (J := fun its s1 => StrsAre its ks ∧ ∃ h1 tk, s1 = { s with heap := h1, toks := tk } ∧ ∀ b o, s.heap.get? b = some o → h1.get? b = some o)
    (PySem.W.kdu_collect (A := X.A.in1) K0 (I.ok.hd hc') hok (by omega) fun h' tk acc hk hacc => ⟨?_, h', tk, rfl, hk⟩) fun its s1 ⟨hS, h1, tk, v2, v3⟩ => ?_
  · refine strs_of _ ks (by rw [Array.length_toList, hacc.1]; omega) fun j v e => ?_
    obtain ⟨k, x, e1, e2⟩ := hacc.2 j v (by simpa using e)
    have jl : j < kvs.length := by rw [len]; exact (List.getElem?_eq_some_iff.mp e1).1
    obtain ⟨u, e3, _⟩ := kv_at rel (List.getElem?_eq_getElem jl)
    rw [e1] at e3
    have e3 : k = kvs[j].1 := by cases e3; rfl
    have e4 : (kvs.map (·.1))[j]? = (ks.map Sum.inr)[j]? := by rw [ek]
    rw [List.getElem?_map, List.getElem?_map, List.getElem?_eq_getElem jl, List.getElem?_eq_getElem (by omega)] at e4
    have e4 : kvs[j].1 = Sum.inr ks[j] := by simpa using e4
    rw [e3, e4] at e2
    obtain ⟨t, rfl⟩ : RelV (V.str ks[j]) v := rel_key e2
    exact ⟨ks[j], t, List.getElem?_eq_getElem (by omega), rfl⟩
  · subst v2
    have hln : its.length = ks.length := ST.strs_len hS
    refine ⟨by omega, fun h' up => ST.strs_sortable hS, fun out c h' p1 p2 p3 up => ?_⟩
    have hall : ∀ v ∈ out, ∃ x t, v = .str x t := fun v hv => hS.all v (p1.mem_iff.mp hv)
    have hO := strsAre_map out hall
    have hpz : (out.map strOf).Perm ks := by
      have := p1.map strOf
      rwa [hS.strs] at this
    have hri : RiseS (out.map strOf) := by
      unfold RiseS
      rw [List.pairwise_map]
      refine p2.imp_of_mem fun {x y} hx hy z => ?_
      obtain ⟨x', t, rfl⟩ := hall x hx
      obtain ⟨y', u, rfl⟩ := hall y hy
      have z : decide (ST.sg y' < ST.sg x') = false := z
      exact of_decide_eq_false z
    have I1 : Inv X pins σ H { s with heap := h1, toks := tk } := I.kept v3
    have hz : ((out.map strOf).map V.str).length ≤ sizeLine := by rw [List.length_map, hpz.length_eq]; omega
    exact ⟨.ref h1.objs.size, _, I1.laid (t' := tk) up (Nat.le_refl _) (show ObjOk X.prog X.w _ h' _ (.lst ((out.map strOf).map V.str)) from ⟨hz, _, c, strs_vals hO, p3⟩), rfl, q _ _ (I1.hok.fresh (Nat.le_refl _)) hpz hri⟩
end
end L2
set_option Elab.async false
set_option linter.all false
set_option maxRecDepth 100000
set_option maxHeartbeats 4000000
namespace L2
open PySem PySem.Spec PyProof.Rows
theorem unlike_len {P : Program} {w : World} {A : Around} {E : Value → Shared → Prop} {s : Shared} {nm : String} {a b : Addr} {oa ob : Obj} {es fs : Array DictEntry} {ep fp : Nat} {Q : Bool → Shared → Prop} (na : (a == sysModules) = false) (nb : (b == sysModules) = false) (ha : s.heap.get? a = some oa) (da : oa.data = .dict es ep) (hb : s.heap.get? b = some ob) (db : ob.data = .dict fs fp) (sz : es.size ≠ fs.size) (q : Q false s) : wpAny (model P w) A (Builtin.Dict.samePairs nm a b) Q E s := by
  unfold Builtin.Dict.samePairs Builtin.Dict.showsAll
  rw [if_neg (by rw [na]; exact Bool.false_ne_true)]
  refine wpAny_bind (wpAny_pure ?_)
  rw [if_neg (by rw [nb]; exact Bool.false_ne_true)]
  refine wpAny_bind (wpAny_pure (wpAny_bind (wpAny_dictEntries ha da (wpAny_bind (wpAny_dictEntries hb db ?_)))))
  rw [if_pos (by simpa using sz)]
  exact wpAny_bind (wpAny_rule (wpAny_pure q))
theorem unlike_neM (a b : Addr) (oa ob : Obj) (es fs : Array DictEntry) (ep fp : Nat) (sz : es.size ≠ fs.size) (na : (a == sysModules) = false) (nb : (b == sysModules) = false) (ca : oa.cls = .type "dict") (cb : ob.cls = .type "dict") (da : oa.data = .dict es ep) (db : ob.data = .dict fs fp) :
    Meets (Builtin.«dict.__ne__» ⟨[.ref a, .ref b], []⟩) (fun A R s => s.heap.get? a = some oa ∧ s.heap.get? b = some ob ∧ R (.ok (.ret (.bool true))) s) :=
  .of_wp fun P w A R s ⟨ha, hb, q⟩ => by
    have ta : s.TypeIs (.ref a) "dict" := ⟨_, ha, ca⟩
    have tb : s.TypeIs (.ref b) "dict" := ⟨_, hb, cb⟩
    unfold Builtin.«dict.__ne__»
    show wpAny _ _ (Builtin.Dict.dictSlotArgs "__ne__" ⟨[.ref a, .ref b], []⟩ >>= _) _ _ s
    unfold Builtin.Dict.dictSlotArgs
    refine wpAny_bind (wpAny_bind (wpAny_notOrdered_dict ta ?_))
    show wpAny _ _ (pure ((Value.ref a, [Value.ref b]) : Value × List Value) >>= _) _ _ s
    refine wpAny_bind (wpAny_pure (wpAny_pure ?_))
    refine wpAny_bind (wpAny_isInstance tb isSubtype_dict_dict ?_)
    rw [if_neg (by simp)]
    show wpAny _ _ (pure a >>= _) _ _ s
    refine wpAny_bind (wpAny_pure ?_)
    show wpAny _ _ (pure b >>= _) _ _ s
    refine wpAny_bind (wpAny_pure (wpAny_bind (unlike_len na nb ha da hb db sz ?_)))
    exact wpAny_pure ⟨_, rfl, q⟩
section
variable {X : Cx}
theorem op_neDU (hu : X.A.units + 1 < cLine) : OpR X (compareOp .NotEq) (fun x y H Q => ∃ a b kvs lvs, x = .ref a ∧ y = .ref b ∧ Rd H a (.dK kvs) ∧ Rd H b (.dK lvs) ∧ kvs.length ≠ lvs.length ∧ Q (.bl true) H) := by
  intro pins s σ H x y v u Q I rx ry h
  obtain ⟨a, b, kvs, lvs, rfl, rfl, e1, e2, ne, q⟩ := h
  cases rx
  cases ry
  obtain ⟨z1, n1, vs, r1, o1, es, ep, g1, c1, d1, k1, p1, nd1⟩ := dk_rd I.hok e1
  obtain ⟨z2, n2, ws, r2, o2, fs, fp, g2, c2, d2, k2, p2, nd2⟩ := dk_rd I.hok e2
  have l1 := p1.length
  have l2 := p2.length
  have l3 := r1.length
  have l4 := r2.length
  exact richCompare_meets_room (op := .NotEq) ⟨_, g1, c1.1⟩ ⟨_, g2, c2.1⟩ PySem.F.slot_dict_ne PySem.F.entry_dict_ne (PySem.F.args_dict_ne_2 _ _) (unlike_neM a b o1 o2 es fs ep fp (by simp only [Array.length_toList] at l1 l2; omega) n1 n2 c1.1 c2.1 d1 d2) ⟨g1, g2, show Value.bool true ≠ Value.notImplemented ∧ EP X pins σ Q (.bool true) s from ⟨(fun z => nomatch z), .bl true, H, I, rfl, q⟩⟩ (by omega)
end
end L2
set_option Elab.async false
set_option linter.all false
set_option maxRecDepth 100000
set_option maxHeartbeats 4000000
namespace ST
open PySem PyProof.Rows PySem.W
section
variable {prog : Program} {w : World} {A : Around} {E : Value → Shared → Prop} {s : Shared}
end
end ST
namespace L2
open PySem PySem.Spec PyProof.Rows
section
variable {X : Cx}
theorem op_neDE {k : Nat} (hr : Room k X.A) : OpR X (compareOp .NotEq) (fun x y H Q => ∃ a b kvs, x = .ref a ∧ y = .ref b ∧ Rd H a (.dK kvs) ∧ Rd H b (.dK []) ∧ Q (.bl (!kvs.isEmpty)) H) := by
  intro pins s σ H x y v u Q I rx ry h
  obtain ⟨a, b, kvs, rfl, rfl, e1, e2, q⟩ := h
  cases kvs with
  | nil => exact op_neD (n := 8) (hu2 hr) pins s σ H _ _ v u Q I rx ry ⟨a, b, [], [], rfl, rfl, e1, e2, ⟨(fun _ h => nomatch h), (fun _ h => nomatch h), rfl, fun _ _ h => nomatch h⟩, q⟩
  | cons z r => exact op_neDU (by have := hu2 (n := 0) hr; omega) pins s σ H _ _ v u Q I rx ry ⟨a, b, z :: r, [], rfl, rfl, e1, e2, by simp, q⟩
end
end L2
set_option Elab.async false
set_option linter.all false
set_option maxRecDepth 100000
set_option maxHeartbeats 4000000
namespace L2
open PySem PySem.Spec PyProof.Rows
def Itk (a : Addr) (o : Obj) (kvs : List (Key × V)) : It :=
  ⟨fun i H => H a = some (.frz o (.dK kvs)) ∧ i < kvs.length, fun i H v H' => H' = H ∧ ∃ k x, kvs[i]? = some (k, x) ∧ v = kV k, fun i H => H a = some (.frz o (.dK kvs)) ∧ kvs.length ≤ i⟩
theorem turn_keys {P : Program} {w : World} {K : PySem.W.Frag} {tg : Expr} (a it : Addr) (o : Obj) (es : Array DictEntry) (ep : Nat) (kvs : List (Key × V)) (hd : o.data = .dict es ep) : Turn P w K tg (Itk a o kvs) [it] it (fun i h => h.IsKeyIter it a i kvs.length ep) where
  mem := by simp
  obj := fun i h ⟨o, st, c, dt⟩ b hb => by
    have : b = it := by simpa using hb
    subst this
    exact ⟨_, st, fun v y => by rw [dt] at y; cases y⟩
  keep := fun i h h' st k => st.at fun o e => k it (by simp) o e
  item := by
    intro X hP hw hK hc i pins s σ H E I hf st hg
    subst hP hw hK
    obtain ⟨e, hi⟩ := hg
    obtain ⟨vs, es', ep', rel, hd', _, da, _, _, ho, _⟩ := frz_at I e
    have ee : ep' = ep := by rw [hd] at hd'; cases hd'; rfl
    subst ee
    have len := rel.length
    have ek : kvs[i]? = some (kvs[i].1, kvs[i].2) := List.getElem?_eq_getElem hi
    obtain ⟨v, ev, rv⟩ := kv_at rel ek
    rw [len] at st
    obtain ⟨f0, f1, f2, f3, f4, f5⟩ := hf it (by simp)
    refine wpAny_pyNext_dict_item st da ev fun key h' hk st' sb => ?_
    have I1 : Inv X pins σ H { s with heap := h', toks := s.toks } := I.turned (t' := s.toks) (fun b o hb y => sb.extBut b o hb y) f0 f1 f3 f4 f5
    rw [← len] at st'
    obtain ⟨o2, g1, g2, g3⟩ := id st'
    exact ⟨_, rfl, go_of (s := { s with heap := h' }) (n := "dict_keyiterator") g1 g2 g3 (by decide) ⟨kV kvs[i].1, H, I1, rel_key hk, ⟨rfl, _, _, ek, rfl⟩, st', fun b hb => (hf b hb).1⟩⟩
  done := by
    intro X hP hw hK hc i pins s σ H E I hf st hg
    subst hP hw hK
    obtain ⟨e, hi⟩ := hg
    obtain ⟨vs, es', ep', rel, hd', _, da, _, _, ho, _⟩ := frz_at I e
    have ee : ep' = ep := by rw [hd] at hd'; cases hd'; rfl
    subst ee
    have len := rel.length
    rw [len] at st
    obtain ⟨f0, f1, f2, f3, f4, f5⟩ := hf it (by simp)
    exact wpAny_pyNext_dict_end (I.ok.hd hc) st da (by simp; omega) fun h' eb => ⟨rfl, I.turned (t' := s.toks) (fun b o hb y => eb b o hb y) f0 f1 f3 f4 f5⟩
  self := fun _ _ _ _ _ st h => wpAny_pyIter_keyiter st h
section
variable {X : Cx}
theorem pi_keys {tg o : Expr} {to : TE} (ho : PE X o to) : PI X tg o (fun σ H R => to σ H fun x H1 => ∃ a ob kvs, x = .ref a ∧ H1 a = some (.frz ob (.dK kvs)) ∧ R (Itk a ob kvs) H1) := by
  intro pins s σ H R I h
  refine thn (ho pins s σ H _ I h) fun v s1 ⟨x, H1, I1, r1, a, ob, kvs, ex, e, q⟩ => ?_
  subst ex
  cases r1
  obtain ⟨vs, es, ep, rel, hd, sz, da, nsys, z, hget, exd⟩ := frz_at I1 e
  have len := rel.length
  refine wpAny_pyIter_dict nsys da ?_
  refine ⟨s1.heap.objs.size, [s1.heap.objs.size], _, _, H1, rfl, I1.kept (t' := s1.toks) fun b o e => Heap.get?_push_of_some _ e, turn_keys a _ ob es ep kvs hd, ⟨_, Heap.get?_push_size _ rfl, rfl, by rw [len]; rfl⟩, fun b hb => ?_, q⟩
  have e : b = s1.heap.objs.size := by simpa using hb
  subst e
  exact I1.fpOk (Nat.le_refl _) (I1.hok.fresh (Nat.le_refl _))
theorem comp_keys {a : Addr} {o : Obj} {kvs : List (Key × V)} {ix : List (Option Nat)} {g : TG} {tt : TT} {te : TE} {QD : Hp → Prop} {σ : St} {H1 : Hp} {D : Addr} (Pv : Nat → List V → St → Hp → Prop) (h0 : Pv 0 [] (blkSt σ ix) (upd H1 D (.lst [])))
    (hl : ∀ i ys τ H, Pv i ys τ H → H a = some (.frz o (.dK kvs)))
    (hs : ∀ i k v ys τ H, kvs[i]? = some (k, v) → Pv i ys τ H → g (kV k) τ H fun τ' H4 => tt τ' H4 fun b H5 => if b = true then te τ' H5 fun v H6 => H6 D = some (.lst ys) ∧ ys.length < sizeLine ∧ Pv (i + 1) (ys ++ [v]) τ' (upd H6 D (.lst (ys ++ [v]))) else Pv (i + 1) ys τ' H5)
    (hd : ∀ ys τ H, Pv kvs.length ys τ H → QD H) :
    ∃ W : Nat → Nat → List V → St → Hp → Prop, (∃ m, W 0 m [] (blkSt σ ix) (upd H1 D (.lst []))) ∧ ∀ i m ys τ H2, W i m ys τ H2 →
      ((Itk a o kvs).stop i H2 ∧ QD H2) ∨ ((Itk a o kvs).go i H2 ∧ ∃ N : List V → St → Hp → Prop, (∀ ys' τ' H', N ys' τ' H' → ∃ m', m' < m ∧ W (i + 1) m' ys' τ' H') ∧ ∀ x H3, (Itk a o kvs).yld i H2 x H3 → g x τ H3 fun τ' H4 => tt τ' H4 fun b H5 =>
        if b = true then te τ' H5 fun v H6 => H6 D = some (.lst ys) ∧ ys.length < sizeLine ∧ N (ys ++ [v]) τ' (upd H6 D (.lst (ys ++ [v])))
        else N ys τ' H5) := by
  refine ⟨fun i m ys τ H => m = kvs.length - i ∧ i ≤ kvs.length ∧ Pv i ys τ H, ⟨kvs.length, by simp, Nat.zero_le _, h0⟩, ?_⟩
  rintro i m ys τ H ⟨rfl, hi, p⟩
  by_cases hlt : i < kvs.length
  · refine .inr ⟨⟨hl i ys τ H p, hlt⟩, Pv (i + 1), fun ys' τ' H' p' => ⟨_, ?_, rfl, hlt, p'⟩, fun x H' y => ?_⟩
    · show kvs.length - (i + 1) < kvs.length - i
      omega
    · obtain ⟨rfl, k, v, ek, rfl⟩ := y
      exact hs i k v ys τ H' ek p
  · have e : i = kvs.length := by omega
    subst e
    exact .inl ⟨⟨hl _ ys τ H p, Nat.le_refl _⟩, hd ys τ H p⟩
theorem op_eqTA {n : Nat} (hu : X.A.units + 2 + n < cLine) : OpR X (compareOp .Eq) (rAlT X.K n true) := by
  intro pins s σ H x y v u Q I rx ry h
  obtain ⟨a, c, xs, ys, rfl, rfl, hx, hy, hl, he, q⟩ := h
  cases rx
  cases ry
  obtain ⟨its, r, pl, hz⟩ := I.tuple hx
  obtain ⟨its2, r2, pl2, hz2⟩ := I.tuple hy
  have e1 := r.length
  have e2 := r2.length
  refine SeqAt.eq_tupleAt (e := fun _ => true) (show s.heap.IsTuple a its.toArray from pl) (show s.heap.IsTuple c its2.toArray from pl2) (by omega) (ald_items I r r2 he (by show X.A.units + 1 + 1 + n < cLine; omega)) ?_
  rw [all_true, Bool.true_and, List.size_toArray, List.size_toArray, ← e1, ← e2, hl, beq_self_eq_true]
  exact ⟨.bl true, H, I, rfl, q⟩
def tChain3 (r r' r2 : R2) (ta tb tc td : TE) : TE := fun σ H Q => ta σ H fun x H1 => tb σ H1 fun y H2 => r x y H2 fun z H3 => ∃ k, z = .bl k ∧
  (if k = true then tc σ H3 fun w' H4 => r' y w' H4 fun z2 H5 => ∃ k2, z2 = .bl k2 ∧ (if k2 = true then td σ H5 fun u H6 => r2 w' u H6 Q else Q (.bl false) H5) else Q (.bl false) H3)
theorem pt_chain3 {a b c d : Expr} {pos : Pos} {ta tb tc td : TE} {op op' op2 : CmpOp} {r r' r2 : R2} (ho : OpR X (compareOp op) r) (ho' : OpR X (compareOp op') r') (ho2 : OpR X (compareOp op2) r2) (ha : PE X a ta) (hb : PE X b tb) (hc : PE X c tc) (hd : PE X d td)
    (hm : lastMarks [op, op', op2] [b, c, d] = false := by with_unfolding_all rfl) : PT X (.Compare a [op, op', op2] [b, c, d] pos) (tTest (tChain3 r r' r2 ta tb tc td)) := by
  intro pins s σ H Q I h
  refine isTrue_chain (thn (ha pins s σ H _ I h) fun v s1 ⟨x, H1, I1, r1, q1⟩ => test_link (thn (hb pins s1 σ H1 _ I1 q1) fun u s2 ⟨y, H2, I2, r2, q2⟩ =>
    thn (ho pins s2 σ H2 x y v u _ I2 r1 r2 q2) fun d s3 ⟨z, H3, I3, r3, k, e, q3⟩ => ?_)) hm
  subst e
  cases r3
  refine wpAny_truthy_bool ?_
  cases k with
  | false =>
    obtain ⟨k', e', q'⟩ := q3
    cases e'
    exact ite_ff ⟨H3, I3, q'⟩
  | true =>
    refine ite_tt (test_link (thn (hc pins s3 σ H3 _ I3 q3) fun w' s4 ⟨z', H4, I4, r4, q4⟩ => thn (ho' pins s4 σ H4 y z' u w' _ I4 r2 r4 q4) fun d' s5 ⟨z2, H5, I5, r5, k2, e2, q5⟩ => ?_))
    subst e2
    cases r5
    refine wpAny_truthy_bool ?_
    cases k2 with
    | false =>
      obtain ⟨k', e', q'⟩ := q5
      cases e'
      exact ite_ff ⟨H5, I5, q'⟩
    | true =>
      refine ite_tt (test_last (thn (hd pins s5 σ H5 _ I5 q5) fun w2 s6 ⟨z3, H6, I6, r6, q6⟩ => thn (ho2 pins s6 σ H6 z' z3 w' w2 _ I6 r4 r6 q6) fun d2 s7 ⟨z4, H7, I7, r7, k3, e3, q7⟩ => ?_))
      subst e3
      cases r7
      exact wpAny_truthy_bool ⟨H7, I7, q7⟩
end
end L2
set_option Elab.async false
set_option linter.all false
set_option maxRecDepth 100000
set_option maxHeartbeats 4000000
local macro_rules | `(tactic| walk_at "lc") => `(tactic| first | exact Or.inl rfl | exact Or.inr rfl)
local macro_rules | `(tactic| walk_at "nm") => `(tactic| first | assumption | exact List.not_mem_nil | (refine L2.nm1 ?_; walk_at "ne") | (refine L2.nm2 ?_ ?_ <;> walk_at "ne") | (refine L2.nm3 ?_ ?_ ?_ <;> walk_at "ne"))
local macro_rules | `(tactic| walk_at "lk") => `(tactic| first | assumption | exact L2.upd_same | (refine (L2.upd_ne ?_).trans ?_; walk_at "ne"; walk_at "lk") | (refine L2.Kp.look (by assumption) ?_ ?_; walk_at "lk"; walk_at "nm"))
local macro_rules | `(tactic| walk_at "ne") => `(tactic| first | assumption | (refine Ne.symm ?_; assumption) | (refine L2.ne_fre (by assumption) ?_; walk_at "lk") | (refine Ne.symm (L2.ne_fre (by assumption) ?_); walk_at "lk"))
local macro_rules | `(tactic| walk_at "bd") => `(tactic| first | decide | omega | (dsimp only; first | decide | omega))
local macro_rules | `(tactic| walk_at "ml") => `(tactic| first | exact Or.inr ⟨by decide, by decide⟩ | exact Or.inl ⟨by omega, by omega⟩ | exact Or.inr ⟨by omega, by omega⟩)
local macro_rules | `(tactic| walk_at "ln") => `(tactic| first | decide | (have hsz := PySem.sizeLine_eq; simp only [List.length_cons, List.length_nil, List.length_map, List.length_append] at *; omega))
local macro_rules | `(tactic| walk_at "ix") => `(tactic| first | rfl | assumption | (refine L2.atI_natc ?_; assumption))
local macro_rules | `(tactic| walk_at "vs") => `(tactic| first | exact Or.inl rfl | exact Or.inr (Or.inl rfl) | exact Or.inr (Or.inr rfl))
local macro_rules | `(tactic| walk_at "vk") => `(tactic| first | exact Or.inl rfl | exact Or.inr rfl)
local macro_rules | `(tactic| walk_at "vf") => `(tactic| first | decide +kernel | (simp only [List.mem_cons]; decide))
namespace My
open PySem L2
def top (i : Nat) : Stmt := PySem.Challenge.pw_levelbench_k73_whole_broken_off.main.body.getD i (.Pass ⟨0, 0, 0, 0⟩)
structure Txt (K : PySem.W.Frag) (mg : Str → Option Value) : Prop where
  z_len : mg "len" = none
  z_max : mg "max" = none
  z_range : mg "range" = none
  z_int : mg "int" = none
  z_list : mg "list" = none
  z_min : mg "min" = none
  z_dict : mg "dict" = none
  z_enumerate : mg "enumerate" = none
  z_bool : mg "bool" = none
  z_sum : mg "sum" = none
  z_sorted : mg "sorted" = none
  z_str : mg "str" = none
  z_all : mg "all" = none
  z_tuple : mg "tuple" = none
  z_isinstance : mg "isinstance" = none
  c_LONGEST_NAME : ∃ t, mg "LONGEST_NAME" = some (.int 8 t)
  c_MOST_LENGTHS : ∃ t, mg "MOST_LENGTHS" = some (.int 20 t)
section
variable {P : Program} {w : World} {K : PySem.W.Frag} {mg : Str → Option Value} {base : Heap}
def Purse (H : Hp) (p : Addr) : Prop := ∃ a b : Int, H p = some (.lst [.int a, .int b]) ∧ 0 ≤ a ∧ 0 ≤ b ∧ b < 2147483629
theorem Purse.kp {M : List Addr} {H H' : Hp} {p : Addr} (h : Purse H p) (k : Kp M H H') (n : p ∉ M) : Purse H' p := by
  obtain ⟨a, b, e, r⟩ := h
  exact ⟨a, b, k p _ e n, r⟩
def spTake : Sp := fun vs H Q _ => ∃ (p : Addr) (m : Int), vs = [.ref p, .int m] ∧ Purse H p ∧ 1 ≤ m ∧ m < 10 ^ 100 ∧ ∀ (d : Int) (H' : Hp), 0 ≤ d → d < m → Purse H' p → Kp [p] H H' → Q (.int d) H'
abbrev s_take : Stmt := top 20
theorem sc_take : FnScope ["_law_purse_here", "_law_many", "_law_digit"] ["_law_purse_here", "_law_many"] (defScope s_take) := ⟨rfl, rfl, rfl, by decide +kernel, rfl, by decide +kernel, by decide +kernel⟩
theorem ok_take {f : Addr} {fd : FuncData} (F : Fun K "_law_take" "_law_take" s_take f fd) : FnOk P w K mg base CX0 1 f fd ["_law_purse_here", "_law_many"] spTake := by
  refine F.ok sc_take (fun vs H Q E h => ?_) (fun cdv A outer s H vs Q E hr h => ?_)
  · obtain ⟨p, m, rfl, _⟩ := h
    rfl
  · obtain ⟨p, m, rfl, ⟨a, b, hp, ha, hb, hb'⟩, hm, hm', k⟩ := h
    refine ⟨_, (pss_cons (ps_if (pt_cmpR op_gt (pe_ix ix_list (pv 0) pe_int (fun _ _ => rfl)) pe_int (nomark _))
        (pss_cons (ps_set (i := 2) sc_take.nd rfl (by walk_at "lc") (pe_op op_mod (pe_ix ix_list (pv 0) pe_int (fun _ _ => rfl)) (pv 1)))
        (pss_cons (ps_asg (pe_op op_fdivB (pe_ix ix_list (pv 0) pe_int (fun _ _ => rfl)) (pv 1)) (pg_sub (pv 0) pe_int set_list))
        (pss_one (ps_ret (pv 2)))))
        pss_nil)
      (pss_cons (ps_asg (pe_op op_mod (pe_op op_add (pe_op op_mul (pe_ix ix_list (pv 0) pe_int (fun _ _ => rfl)) pe_int) pe_int) pe_int) (pg_sub (pv 0) pe_int set_list))
      (pss_one (ps_ret (pe_op op_mod (pe_op op_fdiv (pe_op op_mod (pe_op op_mul (pe_ix ix_list (pv 0) pe_int (fun _ _ => rfl)) (pe_ix ix_list (pv 0) pe_int (fun _ _ => rfl))) pe_int) pe_int) (pv 1)))))), ?_⟩
    refine ⟨_, rfl, _, _, _, _, rfl, rfl, SqL.of (by walk_at "lk"), (by walk_at "ix"), _, _, rfl, rfl, _, rfl, ?_⟩
    refine ite2 (fun c => ?_) (fun c => ?_)
    · have c' : 0 < a := by simpa using c
      refine ⟨_, rfl, _, _, _, _, rfl, rfl, SqL.of (by walk_at "lk"), (by walk_at "ix"), _, rfl, _, _, rfl, rfl, (by walk_at "bd"), ?_⟩
      refine ⟨_, rfl, _, _, _, _, rfl, rfl, SqL.of (by walk_at "lk"), (by walk_at "ix"), _, rfl, _, _, rfl, rfl, ⟨by walk_at "bd", hm'⟩, _, rfl, _, _, _, _, rfl, rfl, (by walk_at "lk"), (by walk_at "ix"), ?_⟩
      refine ⟨_, rfl, ?_⟩
      refine k _ _ (Int.emod_nonneg _ (by omega)) (Int.emod_lt_of_pos _ (by omega)) ⟨a / m, b, upd_same, Int.ediv_nonneg ha (by omega), hb, hb'⟩ (Kp.put Kp.refl (by simp))
    · refine ⟨_, rfl, _, _, _, _, rfl, rfl, SqL.of (by walk_at "lk"), (by walk_at "ix"), _, _, rfl, rfl, (by walk_at "ml"), _, _, rfl, rfl, _, _, rfl, rfl, (by walk_at "bd"), _, rfl, _, _, _, _, rfl, rfl, (by walk_at "lk"), (by walk_at "ix"), ?_⟩
      have h1 := Int.emod_nonneg (b * 39373 + 7919) (show (2147483629 : Int) ≠ 0 by decide)
      have h2 := Int.emod_lt_of_pos (b * 39373 + 7919) (show (0 : Int) < 2147483629 by decide)
      refine ⟨_, rfl, _, _, _, _, rfl, rfl, SqL.of (by walk_at "lk"), (by walk_at "ix"), _, rfl, _, _, _, _, rfl, rfl, SqL.of (by walk_at "lk"), (by walk_at "ix"), _, _, rfl, rfl, (by walk_at "ml"), _, _, rfl, rfl, (by walk_at "bd"), _, _, rfl, rfl, ⟨by walk_at "bd", by walk_at "bd"⟩, _, rfl, _, _, rfl, rfl, (by walk_at "bd"), ?_⟩
      refine k _ _ (Int.emod_nonneg _ (by omega)) (Int.emod_lt_of_pos _ (by omega)) ⟨a, _, upd_same, ha, h1, h2⟩ (Kp.put Kp.refl (by simp))
def spPurse : Sp := fun vs H Q _ => ∃ (c k : Int), vs = [.int c, .int k] ∧ -(2 ^ 31) < k ∧ k < 2 ^ 31 ∧ ∀ (p : Addr) (H' : Hp), Fre H p → Purse H' p → Kp [] H H' → Q (.ref p) H'
abbrev s_purse : Stmt := top 19
theorem sc_purse : FnScope ["_law_cell_here", "_law_k", "_law_number"] ["_law_cell_here", "_law_k"] (defScope s_purse) := ⟨rfl, rfl, rfl, by decide +kernel, rfl, by decide +kernel, by decide +kernel⟩
theorem ok_purse {f : Addr} {fd : FuncData} (F : Fun K "_law_purse" "_law_purse" s_purse f fd) (T : Txt K mg) : FnOk P w K mg base CX0 1 f fd ["_law_cell_here", "_law_k"] spPurse := by
  refine F.ok sc_purse (fun vs H Q E h => ?_) (fun cdv A outer s H vs Q E hr h => ?_)
  · obtain ⟨p, m, rfl, _⟩ := h
    rfl
  · obtain ⟨c, n, rfl, hn, hn', k⟩ := h
    refine ⟨_, (pss_cons (ps_set (i := 2) sc_purse.nd rfl (by walk_at "lc") (pe_op op_mod (pe_op op_add (pe_op op_add (pe_op op_mul (pe_op op_mod (pv 0) pe_int) pe_int) (pe_op op_mul (pe_op op_mul (pv 1) (pv 1)) pe_int)) pe_int) pe_int))
      (pss_one (ps_ret (pe_lst (pa_cons (pe_callB (call_max2 rfl) (by rfl) T.z_max bo_max (pa_cons pe_int (pa_cons (pe_op op_sub (pv 0) (pe_op op_pow pe_int pe_int)) pa_nil))) (pa_cons (pe_op op_mod (pe_op op_mul (pv 2) (pv 2)) pe_int) pa_nil)))))), ?_⟩
    refine ⟨_, rfl, _, _, rfl, rfl, (by walk_at "bd"), _, _, rfl, rfl, (by walk_at "ml"), _, rfl, _, rfl, _, _, rfl, rfl, (by walk_at "ml"), _, _, rfl, rfl, (by walk_at "ml"), _, _, rfl, rfl, _, _, rfl, rfl, _, _, rfl, rfl, (by walk_at "bd"), ?_⟩
    generalize c % 2147483629 * 48271 + n * n * 69623 + 11 = y
    have h1 := Int.emod_nonneg y (show (2147483647 : Int) ≠ 0 by decide)
    have h2 := Int.emod_lt_of_pos y (show (0 : Int) < 2147483647 by decide)
    refine ⟨_, rfl, _, _, rfl, rfl, ⟨by decide, by decide, by decide⟩, _, _, rfl, rfl, _, _, rfl, _, rfl, _, rfl, _, _, rfl, rfl, (by walk_at "ml"), _, _, rfl, rfl, (by walk_at "bd"), (by walk_at "ln"), fun p hp => ?_⟩
    refine k p _ hp ⟨_, _, upd_same, ?_, Int.emod_nonneg _ (by decide), Int.emod_lt_of_pos _ (by decide)⟩ (Kp.new Kp.refl hp)
    split <;> omega
def spCell (K : PySem.W.Frag) : Sp := fun vs H Q _ => ∃ (a : Addr) (ns : List Int) (k : Int), vs = [.ref a, .int k] ∧ SqL K H a (ns.map V.int) ∧ 0 ≤ k ∧ ∀ c : Int, Q (.int c) H
abbrev s_cell : Stmt := top 22
theorem sc_cell : FnScope ["_law_script", "_law_k"] ["_law_script", "_law_k"] (defScope s_cell) := ⟨rfl, rfl, rfl, by decide +kernel, rfl, by decide +kernel, by decide +kernel⟩
theorem ok_cell {f : Addr} {fd : FuncData} (F : Fun K "_law_cell" "_law_cell" s_cell f fd) (T : Txt K mg) : FnOk P w K mg base CX0 1 f fd ["_law_script", "_law_k"] (spCell K) := by
  refine F.ok sc_cell (fun vs H Q E h => ?_) (fun cdv A outer s H vs Q E hr h => ?_)
  · obtain ⟨p, m, n, rfl, _⟩ := h
    rfl
  · obtain ⟨a, ns, n, rfl, hS, hn, k⟩ := h
    refine ⟨_, (pss_one (ps_ret (pe_ifExp (pt_cmpR op_lt (pv 1) (pe_callB call_len_seq (by rfl) T.z_len bo_len (pa_cons (pv 0) pa_nil)) (nomark _)) (pe_ix ix_list (pv 0) (pv 1) (fun _ _ => rfl)) pe_int))), ?_⟩
    refine ⟨_, rfl, _, rfl, _, _, rfl, .inl hS, _, _, rfl, rfl, _, rfl, ?_⟩
    refine ite2 (fun c => ?_) (fun c => ?_)
    · have c' : n < ns.length := by simpa using c
      have hx : (ns.map V.int)[n.toNat]? = some (V.int (ns[n.toNat]'(by omega))) := by simp
      refine ⟨_, rfl, _, rfl, _, _, _, _, rfl, rfl, hS, atI_at hn hx, k _⟩
    · exact k _
end
end My
set_option Elab.async false
set_option linter.all false
set_option maxRecDepth 100000
set_option maxHeartbeats 4000000
namespace My
open PySem L2
def NameS (s : Str) : Prop := 1 ≤ s.length ∧ s.length ≤ 8 ∧ ∀ c ∈ s.cps.toList, 97 ≤ c ∧ c ≤ 122
def WordS (n : Nat) (s : Str) : Prop := s.length = n ∧ ∀ c ∈ s.cps.toList, 97 ≤ c ∧ c ≤ 122
theorem len_app (a b : Str) : (a ++ b).length = a.length + b.length := by
  show (a ++ b).cps.size = _
  rw [Str.cps_append, Array.size_append]; rfl
theorem WordS.more {n : Nat} {s : Str} (h : WordS n s) {c : Nat} (h1 : 97 ≤ c) (h2 : c ≤ 122) : WordS (n + 1) (s ++ ⟨#[c]⟩) := by
  refine ⟨by rw [len_app, h.1]; rfl, fun x hx => ?_⟩
  rw [Str.cps_append, Array.toList_append] at hx
  rcases List.mem_append.mp hx with z | z
  · exact h.2 x z
  · have : x = c := by simpa using z
    omega
def letters : Str := "abcdefghijklmnopqrstuvwxyz"
theorem letters_list : letters.cps.toList = (List.range 26).map (97 + ·) := by decide +kernel
theorem letters_at {d : Int} (h0 : 0 ≤ d) (h1 : d < 26) : atI letters.cps.toList d = some (97 + d.toNat) := by
  refine atI_at h0 ?_
  have : d.toNat < 26 := by omega
  rw [letters_list, List.getElem?_map, List.getElem?_range this]
  rfl
theorem one_sign_le (a c : Nat) : (!(decide (([c] : List Nat) < [a]))) = decide (a ≤ c) := by
  have : (([c] : List Nat) < [a]) ↔ c < a := by
    constructor
    · intro h
      cases h with
      | rel h => exact h
      | cons h => cases h
    · intro h
      exact List.Lex.rel h
  by_cases h : c < a
  · rw [decide_eq_true (this.mpr h), decide_eq_false (by omega)]; rfl
  · rw [decide_eq_false (fun z => h (this.mp z)), decide_eq_true (by omega)]; rfl
section
variable {P : Program} {w : World} {K : PySem.W.Frag} {mg : Str → Option Value} {base : Heap}
def nameB (s : Str) : Bool := decide (1 ≤ s.length) && decide (s.length ≤ 8) && s.cps.toList.all fun c => decide (97 ≤ c) && decide (c ≤ 122)
theorem nameB_iff (s : Str) : nameB s = true ↔ NameS s := by
  unfold nameB NameS
  simp only [Bool.and_eq_true, decide_eq_true_eq, List.all_eq_true]
  exact ⟨fun ⟨⟨a, b⟩, c⟩ => ⟨a, b, c⟩, fun ⟨a, b, c⟩ => ⟨⟨a, b⟩, c⟩⟩
def spIsName : Sp := fun vs H Q _ => ∃ (x : Str), vs = [.str x] ∧ x.length ≤ 1000000 ∧ ∀ H', Kp [] H H' → Q (.bl (nameB x)) H'
abbrev s_is_name : Stmt := top 8
theorem sc_is_name : FnScope ["thing"] ["thing"] (defScope s_is_name) := ⟨rfl, rfl, rfl, by decide +kernel, rfl, by decide +kernel, by decide +kernel⟩
theorem ok_is_name {f : Addr} {fd : FuncData} (F : Fun K "is_name" "is_name" s_is_name f fd) (T : Txt K mg) : FnOk P w K mg base CX0 1 f fd ["thing"] spIsName := by
  refine F.ok sc_is_name (fun vs H Q E h => ?_) (fun cdv A outer s H vs Q E hr h => ?_)
  · obtain ⟨x, rfl, _⟩ := h
    rfl
  · obtain ⟨x, rfl, hx, k⟩ := h
    obtain ⟨tL, hL⟩ := T.c_LONGEST_NAME
    refine ⟨_, (pss_cons (ps_if (PW.pt (pw_or (pt_not (pt_val (pe_callB call_isT (by rfl) T.z_isinstance bo_isinstance (pa_cons (pv 0) (pa_cons (pe_bltn (by rfl) T.z_str bo_str (v := .ty "str") rfl) pa_nil))))) (pw_or1 (pt_not (pt_chain op_le op_le pe_int (pe_callB call_len_str (by rfl) T.z_len bo_len (pa_cons (pv 0) pa_nil)) (pe_glob rfl hL (v := .int 8) ⟨_, rfl⟩))))))
        (pss_one (ps_ret pe_bl))
        pss_nil)
      (pss_one (ps_ret (pe_callB (call_all _ rfl) (by rfl) T.z_all bo_all (pa_cons (pe_comp rfl (blk_mk (sc := defScope s_is_name) rfl (by decide +kernel)) (Draws.own (x := "sign") Draws.nil) (pi_str (pv 0)) (fun C s₀ H₀ ex => (pg_name (i := 0) (show List.Nodup (["sign"] : List Str) by decide +kernel) rfl (by walk_at "lc"))) (fun C s₀ H₀ ex => pts_nil) (fun C s₀ H₀ ex => (pe_chain op_le_str op_le_str pe_str (pv 0) pe_str))) pa_nil))))), ?_⟩
    refine ⟨_, rfl, _, _, _, _, rfl, TyOf.str x, kit_same, _, rfl, iteF ?_⟩
    refine ⟨_, rfl, _, rfl, ?_, _, _, rfl, rfl, _, rfl, ?_⟩
    · rw [sizeLine_eq]; omega
    refine ite2 (fun c => ?_) (fun c => ?_)
    · have c1 : 1 ≤ x.length := by
        have := of_decide_eq_true c
        omega
      refine ⟨_, _, rfl, rfl, _, rfl, ?_⟩
      refine ite2 (fun c => ?_) (fun c => ?_)
      · -- too long
        have c2 : ¬ (x.length ≤ 8) := fun z => by
          have : decide ((x.length : Int) ≤ 8) = true := decide_eq_true (by omega)
          rw [this] at c; cases c
        have e : nameB x = false := by
          unfold nameB
          rw [decide_eq_false c2]; simp
        rw [← e]; exact k H Kp.refl
      · have c2 : x.length ≤ 8 := by
          by_cases z : (x.length : Int) ≤ 8
          · omega
          · rw [decide_eq_false z] at c; exact absurd rfl c
        refine ⟨_, rfl, _, rfl, fun D hD => comp_str0 (z := x) (fun i ys τ H' => (∃ o0, τ = [o0]) ∧ ys = ((x.cps.toList.take i).map fun c => V.bl (decide (97 ≤ c) && decide (c ≤ 122))) ∧ H' = upd H D (.lst ys)) ⟨⟨_, rfl⟩, rfl, rfl⟩ ?_ ?_⟩
        · rintro i c ys τ H' hc ⟨⟨o0, rfl⟩, rfl, rfl⟩
          have ei : x.cps.toList.take (i + 1) = x.cps.toList.take i ++ [c] := by rw [List.take_succ, hc]; rfl
          have hi : i < x.cps.toList.length := (List.getElem?_eq_some_iff.mp hc).1
          have hlen : x.cps.toList.length = x.length := by simp [Str.length]
          have fin : ∀ b : Bool, b = (decide (97 ≤ c) && decide (c ≤ 122)) → (upd H D (.lst ((x.cps.toList.take i).map fun c => V.bl (decide (97 ≤ c) && decide (c ≤ 122))))) D = some (.lst ((x.cps.toList.take i).map fun c => V.bl (decide (97 ≤ c) && decide (c ≤ 122)))) ∧ ((x.cps.toList.take i).map fun c => V.bl (decide (97 ≤ c) && decide (c ≤ 122))).length < sizeLine ∧
              ((∃ o0, ([some (V.str ⟨#[c]⟩)] : St) = [o0]) ∧ ((x.cps.toList.take i).map fun c => V.bl (decide (97 ≤ c) && decide (c ≤ 122))) ++ [V.bl b] = ((x.cps.toList.take (i + 1)).map fun c => V.bl (decide (97 ≤ c) && decide (c ≤ 122))) ∧
              upd (upd H D (.lst ((x.cps.toList.take i).map fun c => V.bl (decide (97 ≤ c) && decide (c ≤ 122))))) D (.lst (((x.cps.toList.take i).map fun c => V.bl (decide (97 ≤ c) && decide (c ≤ 122))) ++ [V.bl b])) = upd H D (.lst (((x.cps.toList.take i).map fun c => V.bl (decide (97 ≤ c) && decide (c ≤ 122))) ++ [V.bl b]))) := fun b hb => by
            refine ⟨upd_same, ?_, ⟨_, rfl⟩, ?_, upd_upd⟩
            · rw [List.length_map, List.length_take, sizeLine_eq]; omega
            · rw [ei, List.map_append, hb]; rfl
          refine ⟨_, rfl, _, _, rfl, rfl, _, rfl, ?_⟩
          refine ite2 (fun c1 => ?_) (fun c1 => ?_)
          · refine ⟨_, _, rfl, rfl, fin _ ?_⟩
            have c1 : (!(decide (([c] : List Nat) < [97]))) = true := c1
            rw [one_sign_le] at c1
            show (!(decide (([122] : List Nat) < [c]))) = _
            rw [one_sign_le, c1]; rfl
          · refine fin _ ?_
            have c1 : ¬ (!(decide (([c] : List Nat) < [97]))) = true := c1
            rw [one_sign_le] at c1
            rw [Bool.not_eq_true] at c1
            rw [c1]; rfl
        · rintro ys τ H' ⟨⟨o0, rfl⟩, rfl, rfl⟩
          have hlen : x.cps.toList.take x.length = x.cps.toList := List.take_of_length_le (by simp [Str.length])
          refine ⟨D, x.cps.toList.map (fun c => decide (97 ≤ c) && decide (c ≤ 122)), rfl, SqL.of ?_, ?_⟩
          · rw [upd_same, hlen, List.map_map]; rfl
          · have e : ((x.cps.toList.map (fun c => decide (97 ≤ c) && decide (c ≤ 122))).all id) = nameB x := by
              unfold nameB
              rw [decide_eq_true c1, decide_eq_true c2, List.all_map]; rfl
            rw [e]
            exact k _ (Kp.new Kp.refl hD)
    · -- empty
      have c1 : ¬ (1 ≤ x.length) := fun z => c (decide_eq_true (by omega))
      refine ⟨_, rfl, ?_⟩
      refine iteT ?_
      have e : nameB x = false := by
        unfold nameB
        rw [decide_eq_false c1]; simp
      rw [← e]; exact k H Kp.refl
end
end My
set_option Elab.async false
set_option linter.all false
set_option maxRecDepth 100000
set_option maxHeartbeats 4000000
namespace My
open PySem L2
abbrev Txs (H : Hp) (l : Addr) (ns : List Str) : Prop := H l = some (.lst (ns.map V.str))
theorem inV_str (x : Str) (ns : List Str) : inV (.str x) (ns.map V.str) = decide (x ∈ ns) := by
  unfold inV
  induction ns with
  | nil => rfl
  | cons n r ih =>
    rw [List.map_cons, List.any_cons, ih]
    show ((n == x) || _) = _
    by_cases e : n = x
    · subst e; simp
    · have e' : ¬ x = n := fun z => e z.symm
      rw [beq_eq_false_iff_ne.mpr e]
      simp [e']
theorem flat_strs (ns : List Str) : (ns.map V.str).all flatV = true := by simp [flatV]
theorem take_snoc {α : Type} {xs : List α} {i : Nat} {x : α} (h : xs[i]? = some x) : xs.take (i + 1) = xs.take i ++ [x] := by rw [List.take_succ, h]; rfl
theorem str_at {ns : List Str} {i : Nat} {v : V} (h : (ns.map V.str)[i]? = some v) : ∃ n, ns[i]? = some n ∧ v = .str n := by
  rw [List.getElem?_map] at h
  obtain ⟨n, e, r⟩ := Option.map_eq_some_iff.mp h
  exact ⟨n, e, r.symm⟩
theorem sub_len : ∀ {A B : List Str}, A.Nodup → (∀ x ∈ A, x ∈ B) → A.length ≤ B.length
  | [], B, _, _ => Nat.zero_le _
  | a :: A, B, h, hs => by
    obtain ⟨h1, h2⟩ := List.nodup_cons.mp h
    have hb := hs a List.mem_cons_self
    have := sub_len (B := B.erase a) h2 fun x hx => (List.mem_erase_of_ne fun e => h1 (by rw [← e]; exact hx)).mpr (hs x (List.mem_cons_of_mem _ hx))
    rw [List.length_erase_of_mem hb] at this
    have := List.length_pos_of_mem hb
    rw [List.length_cons]; omega
theorem filt_yes {α : Type} {p : α → Bool} {xs : List α} {i : Nat} {x : α} (e : xs[i]? = some x) (h : p x = true) : (xs.take (i + 1)).filter p = (xs.take i).filter p ++ [x] := by
  rw [take_snoc e, List.filter_append, List.filter_cons, if_pos h]; rfl
theorem filt_no {α : Type} {p : α → Bool} {xs : List α} {i : Nat} {x : α} (e : xs[i]? = some x) (h : ¬ p x = true) : (xs.take (i + 1)).filter p = (xs.take i).filter p := by
  rw [take_snoc e, List.filter_append, List.filter_cons, if_neg h]; simp
theorem filt_len {α : Type} {p : α → Bool} {xs : List α} {i : Nat} (h : xs.length ≤ 4096) : (((xs.take i).filter p)).length < sizeLine := by
  have h1 := List.length_filter_le p (xs.take i)
  rw [List.length_take] at h1
  rw [sizeLine_eq]; omega
def singles : List Str := letters.cps.toList.map fun c => ⟨#[c]⟩
theorem singles_len : singles.length = 26 := by
  unfold singles
  rw [letters_list]; simp
theorem singles_nd : singles.Nodup := by decide +kernel
theorem single_ok {x : Str} (h : x ∈ singles) : NameS x := by
  unfold singles at h
  rw [letters_list] at h
  obtain ⟨c, hc, rfl⟩ := List.mem_map.mp h
  obtain ⟨i, hi, rfl⟩ := List.mem_map.mp hc
  have := List.mem_range.mp hi
  refine ⟨Nat.le_refl 1, by show 1 ≤ 8; decide, fun d hd => ?_⟩
  have : d = 97 + i := by simpa using hd
  omega
theorem some_single {found : List Str} (h : found.length ≤ 20) : (singles.filter fun x => decide (x ∉ found)) ≠ [] := fun z => by
  have : singles.length ≤ found.length := sub_len singles_nd fun x hx => by
    apply Classical.byContradiction
    intro y
    have : x ∈ singles.filter fun x => decide (x ∉ found) := List.mem_filter.mpr ⟨hx, decide_eq_true y⟩
    rw [z] at this; exact nomatch this
  rw [singles_len] at this
  omega
section
variable {P : Program} {w : World} {K : PySem.W.Frag} {mg : Str → Option Value} {base : Heap}
def spLNames : Sp := fun vs H Q _ => ∃ (p : Addr) (m : Int), vs = [.ref p, .int m] ∧ Purse H p ∧ 0 ≤ m ∧ m ≤ 20 ∧ ∀ (l : Addr) (ns : List Str) (H' : Hp), Fre H l → Txs H' l ns → ns.length = m.toNat → ns.Nodup → (∀ n ∈ ns, NameS n) → Purse H' p → Kp [p] H H' → Q (.ref l) H'
abbrev s_names : Stmt := top 21
theorem sc_names : FnScope ["_law_purse_here", "_law_many", "_law_letters", "_law_found", "_law_k", "_law_word", "_law_j"] ["_law_purse_here", "_law_many"] (defScope s_names) := ⟨rfl, rfl, rfl, by decide +kernel, rfl, by decide +kernel, by decide +kernel⟩
theorem ok_names {f : Addr} {fd : FuncData} (F : Fun K "_law_names" "_law_names" s_names f fd) (T : Txt K mg) (C_take : Cal P w K mg base "_law_take" 1 ["_law_purse_here", "_law_many"] spTake) : FnOk P w K mg base CX0 2 f fd ["_law_purse_here", "_law_many"] spLNames := by
  refine F.ok sc_names (fun vs H Q E h => ?_) (fun cdv A outer s H vs Q E hr h => ?_)
  · obtain ⟨p, m, rfl, _⟩ := h
    rfl
  · obtain ⟨p, m, rfl, hP, h0, h1, k⟩ := h
    have HR_take := hr
    refine ⟨_, (pss_cons (ps_set (i := 2) sc_names.nd rfl (by walk_at "lc") pe_str)
      (pss_cons (ps_set (i := 3) sc_names.nd rfl (by walk_at "lc") (pe_lst pa_nil))
      (pss_cons (ps_for PassesOwn.never rfl (pi_range1 rfl T.z_range (pa_cons (pv 1) pa_nil)) (pg_name (i := 4) sc_names.nd rfl (by walk_at "lc"))
        (pss_cons (ps_set (i := 5) sc_names.nd rfl (by walk_at "lc") pe_str)
        (pss_cons (ps_for PassesOwn.never rfl (pi_range1 rfl T.z_range (pa_cons (pe_op op_add pe_int (pe_op op_mul (pe_callC C_take HR_take rfl (pa_cons (pv 0) (pa_cons pe_int pa_nil))) (pe_callC C_take HR_take rfl (pa_cons (pv 0) (pa_cons pe_int pa_nil))))) pa_nil)) (pg_name (i := 6) sc_names.nd rfl (by walk_at "lc"))
          (pss_one (ps_set (i := 5) sc_names.nd rfl (by walk_at "lc") (pe_op op_add_str (pv 5) (pe_ix ix_str (pv 2) (pe_callC C_take HR_take rfl (pa_cons (pv 0) (pa_cons pe_int pa_nil))) (fun _ _ => rfl))))))
        (pss_cons (ps_if (pt_cmpR op_in_seq (pv 5) (pv 3) (by rfl))
          (pss_one (ps_set (i := 5) sc_names.nd rfl (by walk_at "lc") (pe_ix ix_list (pe_comp rfl (blk_mk (sc := defScope s_names) rfl (by decide +kernel)) (Draws.own (x := "_law_letter") (Draws.tk (i := 3) rfl (by walk_at "vs") (by walk_at "vk") (by walk_at "vf") Draws.nil)) (pi_str (pv 2)) (fun C s₀ H₀ ex => (pg_name (i := 0) (show List.Nodup (["_law_letter", "_law_found"] : List Str) by decide +kernel) rfl (by walk_at "lc"))) (fun C s₀ H₀ ex => (pts_one (pt_cmpR (op_notIn_seqK (K := K)) (pv 0) (pv 1) (by rfl)))) (fun C s₀ H₀ ex => (pv 0))) pe_int (fun _ _ => rfl))))
          pss_nil)
        (pss_one (ps_expr (pe_bm PySem.F.plainAttrs_list PySem.F.slot_list_append PySem.F.type_list_append mt_append (pv 3) (pa_cons (pv 5) pa_nil))))))))
      (pss_one (ps_ret (pv 3)))))), ?_⟩
    refine ⟨(by walk_at "ln"), fun l hl => ?_⟩
    have fl : Fre H l := hl
    have npl : p ≠ l := by obtain ⟨a, b, e, _⟩ := hP; exact ne_fre fl e
    have hP1 : Purse (upd H l (.lst [])) p := hP.kp (M := []) (Kp.new Kp.refl fl) (by simp)
    refine ⟨_, rfl, _, rfl, by omega, by omega, for_range (lo := 0) (n := m.toNat) (fun i σ H2 => ∃ (o4 o5 o6 : Option V) (ws : List Str), σ = [some (.ref p), some (.int m), some (.str letters), some (.ref l), o4, o5, o6] ∧ Purse H2 p ∧ Kp [p] H H2 ∧ Txs H2 l ws ∧ ws.length = i ∧ ws.Nodup ∧ ∀ s ∈ ws, NameS s)
      ⟨none, none, none, [], rfl, hP1, Kp.new Kp.refl fl, upd_same, rfl, List.nodup_nil, fun s h => nomatch h⟩ ?_ ?_⟩
    · rintro i σ H2 hi ⟨o4, o5, o6, ws, rfl, P2, K2, R2, e2, n2, q2⟩
      refine ⟨_, rfl, p, 2, rfl, P2, by decide, by decide, fun d1 H3 a0 a1 P3 K3 => ?_⟩
      refine ⟨_, rfl, p, 8, rfl, P3, by decide, by decide, fun d2 H4 b0 b1 P4 K4 => ?_⟩
      have hm0 : 0 ≤ d1 * d2 := Int.mul_nonneg a0 b0
      have hm1 : d1 * d2 ≤ 7 := by
        have : d1 * d2 ≤ 1 * 7 := Int.mul_le_mul (by omega) (by omega) b0 (by decide)
        omega
      have K24 : Kp [p] H2 H4 := K3.trans K4
      refine ⟨_, _, rfl, rfl, (by walk_at "ml"), _, _, rfl, rfl, _, rfl, by omega, by omega, for_range (lo := 0) (n := (1 + d1 * d2).toNat) (fun n σ H7 => ∃ (o4 o6 : Option V) (x : Str), σ = [some (.ref p), some (.int m), some (.str letters), some (.ref l), o4, some (.str x), o6] ∧ Purse H7 p ∧ Kp [p] H2 H7 ∧ WordS n x)
        ⟨_, _, _, rfl, P4, K24, rfl, (fun c h => absurd (show c ∈ ([] : List Nat) from h) (by simp))⟩ ?_ ?_⟩
      · rintro n σ H7 hn ⟨o4, o6, x, rfl, P8, K7, W⟩
        refine ⟨_, rfl, _, rfl, _, rfl, p, 26, rfl, P8, by decide, by decide, fun d4 H8 e0 e1 P9 K8 => ?_⟩
        refine ⟨_, _, _, rfl, rfl, by decide, letters_at e0 e1, _, _, rfl, rfl, ?_, ?_⟩
        · rw [W.1]
          show n + 1 ≤ sizeLine
          rw [sizeLine_eq]; omega
        · exact ⟨_, _, _, rfl, P9, K7.trans K8, W.more (by omega) (by omega)⟩
      · rintro σ H7 ⟨o4, o6, x, rfl, P8, K7, W⟩
        have h7 : Txs H7 l ws := K7 l _ R2 (nm1 npl.symm)
        have NX : NameS x := ⟨by have := W.1; omega, by have := W.1; omega, W.2⟩
        refine ⟨_, rfl, _, rfl, _, _, rfl, .inl (SqL.of h7), rfl, flat_strs ws, _, rfl, ?_⟩
        rw [if_neg (by decide), inV_str]
        refine if_mid (fun σ H8 => ∃ (y : Str), σ = [some (.ref p), some (.int m), some (.str letters), some (.ref l), o4, some (.str y), o6] ∧ Kp [] H7 H8 ∧ NameS y ∧ y ∉ ws) (fun N hN => ite2 (fun c => ?_) (fun c => ?_)) ?_
        · -- _law_word = [..][0]
          refine ⟨_, rfl, _, rfl, fun B hB => comp_str (z := letters) (fun i ys τ H8 => (∃ o0, τ = [o0, some (.ref l)]) ∧ ys = ((singles.take i).filter fun x => decide (x ∉ ws)).map V.str ∧ H8 = upd H7 B (.lst ys)) ⟨⟨_, rfl⟩, rfl, rfl⟩ ?_ ?_⟩
          · rintro i c ys τ H8 hc ⟨⟨o0, rfl⟩, rfl, rfl⟩
            have en : singles[i]? = some ⟨#[c]⟩ := by unfold singles; rw [List.getElem?_map, hc]; rfl
            refine ⟨_, rfl, _, rfl, _, _, rfl, .inl (SqL.of ((upd_ne (ne_fre (show Fre H7 B from hB) h7)).trans h7)), rfl, flat_strs ws, _, rfl, ?_⟩
            rw [if_pos rfl, inV_str]
            have ed : (!decide ((⟨#[c]⟩ : Str) ∈ ws)) = decide ((⟨#[c]⟩ : Str) ∉ ws) := by
              by_cases z : (⟨#[c]⟩ : Str) ∈ ws
              · simp [z]
              · simp [z]
            rw [ed]
            refine ite2 (fun c => ?_) (fun c => ?_)
            · refine ⟨_, rfl, upd_same, ?_, ⟨_, rfl⟩, ?_, upd_upd⟩
              · rw [List.length_map]; exact filt_len (by rw [singles_len]; decide)
              · rw [filt_yes (p := fun x => decide (x ∉ ws)) en c, List.map_append]; rfl
            · refine ⟨⟨_, rfl⟩, ?_, ?_⟩
              · rw [filt_no (p := fun x => decide (x ∉ ws)) en c]
              · rfl
          · rintro ys τ H8 ⟨_, rfl, rfl⟩
            have eT : singles.take letters.length = singles := List.take_of_length_le (by rw [singles_len]; decide)
            rw [eT]
            have hne := some_single (found := ws) (by omega)
            have hmm : ∀ y, y ∈ (singles.filter fun x => decide (x ∉ ws)) → NameS y ∧ y ∉ ws := fun y hy => by
              have := List.mem_filter.mp hy
              exact ⟨single_ok this.1, of_decide_eq_true this.2⟩
            generalize (singles.filter fun x => decide (x ∉ ws)) = L at hne hmm
            obtain ⟨y, r, rfl⟩ : ∃ y r, L = y :: r := by
              cases L with
              | nil => exact absurd rfl hne
              | cons y r => exact ⟨y, r, rfl⟩
            refine ⟨_, _, _, .str y, rfl, rfl, SqL.of upd_same, atI_at (by decide) rfl, ?_⟩
            exact hN _ _ ⟨y, rfl, Kp.new Kp.refl hB, (hmm y List.mem_cons_self).1, (hmm y List.mem_cons_self).2⟩
        · exact hN _ _ ⟨x, rfl, Kp.refl, NX, fun z => c (decide_eq_true z)⟩
        · rintro σ H8 ⟨y, rfl, K8, NY, ny⟩
          have h8 : Txs H8 l ws := K8 l _ h7 (by simp)
          refine ⟨_, rfl, .inl ⟨rfl, _, SqL.of h8⟩, _, rfl, _, _, _, rfl, rfl, h8, ?_, ?_⟩
          · rw [sizeLine_eq, List.length_map]; omega
          · refine ⟨_, _, _, ws ++ [y], rfl, (P8.kp K8 (by simp)).kp (M := [l]) (Kp.put Kp.refl (by simp)) (nm1 npl), Kp.new (K2.trans (K7.trans (K8.weak (by simp)))) fl, ?_, by simp [e2], ?_, fun s hs => ?_⟩
            · show upd H8 l _ l = some (.lst ((ws ++ [y]).map V.str))
              rw [upd_same, List.map_append]; rfl
            · refine List.nodup_append.mpr ⟨n2, by simp, fun a ha b hb => ?_⟩
              rw [List.mem_singleton.mp hb]
              rintro rfl
              exact ny ha
            · rcases List.mem_append.mp hs with z | z
              · exact q2 s z
              · rw [List.mem_singleton.mp z]; exact NY
    · rintro σ H2 ⟨o4, o5, o6, ws, rfl, P2, K2, R2, e2, n2, q2⟩
      exact ⟨_, rfl, k l ws H2 fl R2 e2 n2 q2 P2 K2⟩
end
end My
set_option Elab.async false
set_option linter.all false
set_option maxRecDepth 100000
set_option maxHeartbeats 4000000
namespace My
open PySem L2
theorem lt_big {n : Int} (h : n < 1000) : n < 10 ^ 100 := Int.lt_trans h (by decide +kernel)
theorem kp_drop {M : List Addr} {e : Addr} {H H1 H2 : Hp} (a : Kp M H H1) (f : Fre H e) (b : Kp [e] H1 H2) : Kp M H H2 := fun c o h n => b c o (a c o h n) (nm1 (ne_fre f h))
theorem bo_sum : bootBuiltins "sum" = some (.builtin "sum") := by decide +kernel
theorem bo_sorted : bootBuiltins "sorted" = some (.builtin "sorted") := by decide +kernel
theorem kit_ib {K : PySem.W.Frag} : PySem.W.kitOne K (.type "int") (.type "bool") = some false := by rfl
theorem thaw_kp {H H2 : Hp} {d : Addr} {kvs : List (Key × V)} (hd : H d = some (.dK kvs)) (k : Kp [d] H H2) : Kp [] H (upd H2 d (.dK kvs)) := fun c o h n => by
  by_cases e : c = d
  · subst e
    rw [hd] at h; cases h
    exact upd_same
  · rw [upd_ne e]; exact k c o h (nm1 e)
def kvOf (ps : List (Str × Int)) : List (Key × V) := ps.map fun p => (Sum.inr p.1, V.int p.2)
structure LenOk (ps : List (Str × Int)) : Prop where
  nd : (ps.map (·.1)).Nodup
  nm : ∀ p ∈ ps, NameS p.1
  lo : ∀ p ∈ ps, 0 ≤ p.2
  hi : ∀ p ∈ ps, p.2 < 10 ^ 60
  len : ps.length ≤ 20
theorem kvOf_vals (ps : List (Str × Int)) : (kvOf ps).map (·.2) = (ps.map (·.2)).map V.int := by simp [kvOf]
theorem kvOf_keys (ps : List (Str × Int)) : (kvOf ps).map (·.1) = (ps.map (·.1)).map Sum.inr := by simp [kvOf]
theorem kvOf_len (ps : List (Str × Int)) : (kvOf ps).length = ps.length := by simp [kvOf]
theorem kvOf_at {ps : List (Str × Int)} {i : Nat} {k : Key} {v : V} (h : (kvOf ps)[i]? = some (k, v)) : ∃ x n, ps[i]? = some (x, n) ∧ k = Sum.inr x ∧ v = .int n := by
  unfold kvOf at h
  rw [List.getElem?_map] at h
  obtain ⟨⟨x, n⟩, e, r⟩ := Option.map_eq_some_iff.mp h
  cases r
  exact ⟨x, n, e, rfl, rfl⟩
def tot (ps : List (Str × Int)) : Int := sumI (ps.map (·.2))
theorem tot_nil : tot [] = 0 := rfl
theorem tot_cons (p : Str × Int) (ps : List (Str × Int)) : tot (p :: ps) = p.2 + tot ps := rfl
theorem tot_app : ∀ (a b : List (Str × Int)), tot (a ++ b) = tot a + tot b
  | [], b => by simp [tot_nil]
  | p :: a, b => by rw [List.cons_append, tot_cons, tot_cons, tot_app a b]; omega
theorem tot_nn : ∀ {ps : List (Str × Int)}, (∀ p ∈ ps, 0 ≤ p.2) → 0 ≤ tot ps
  | [], _ => Int.le_refl _
  | p :: ps, h => by
    have := tot_nn (ps := ps) fun q hq => h q (List.mem_cons_of_mem _ hq)
    have := h p List.mem_cons_self
    rw [tot_cons]; omega
theorem tot_ge {ps : List (Str × Int)} (h : ∀ p ∈ ps, 0 ≤ p.2) {p : Str × Int} (hp : p ∈ ps) : p.2 ≤ tot ps := by
  obtain ⟨a, b, rfl⟩ := List.append_of_mem hp
  have h1 := tot_nn (ps := a) fun q hq => h q (by simp [hq])
  have h2 := tot_nn (ps := b) fun q hq => h q (by simp [hq])
  rw [tot_app, tot_cons]; omega
theorem tot_le : ∀ {ps : List (Str × Int)} {m : Int}, (∀ p ∈ ps, p.2 ≤ m) → tot ps ≤ ps.length * m
  | [], m, _ => by simp [tot_nil]
  | p :: ps, m, h => by
    have h1 := tot_le (ps := ps) (m := m) fun q hq => h q (List.mem_cons_of_mem _ hq)
    have h2 := h p List.mem_cons_self
    rw [tot_cons, List.length_cons]
    have : ((ps.length + 1 : Nat) : Int) * m = ps.length * m + m := by
      rw [Int.natCast_add, Int.add_mul]; simp
    omega
theorem ten60 : (0 : Int) < 10 ^ 60 := by decide +kernel
theorem ten_big : (20 : Int) * 10 ^ 60 < 10 ^ 100 := by decide +kernel
theorem LenOk.big {ps : List (Str × Int)} (h : LenOk ps) : tot ps < 10 ^ 100 := by
  have h1 : tot ps ≤ ps.length * 10 ^ 60 := tot_le fun p hp => Int.le_of_lt (h.hi p hp)
  have h2 : (ps.length : Int) * 10 ^ 60 ≤ 20 * 10 ^ 60 := Int.mul_le_mul_of_nonneg_right (by have := h.len; omega) (Int.le_of_lt ten60)
  exact Int.lt_of_le_of_lt (Int.le_trans h1 h2) ten_big
abbrev Pc := Int × Str × Int × Int
def pcV (q : Pc) : List V := [.int q.1, .str q.2.1, .int q.2.2.1, .int q.2.2.2]
structure PcsAt (H : Hp) (l : Addr) (as : List Addr) (qs : List Pc) : Prop where
  top : H l = some (.lst (as.map V.ref))
  len : as.length = qs.length
  row : ∀ (i : Nat) (a : Addr) (q : Pc), as[i]? = some a → qs[i]? = some q → H a = some (.tup (pcV q))
theorem PcsAt.kp {M : List Addr} {H H' : Hp} {l : Addr} {as : List Addr} {qs : List Pc} (h : PcsAt H l as qs) (k : Kp M H H') (n : l ∉ M) (n' : ∀ a ∈ as, a ∉ M) : PcsAt H' l as qs :=
  ⟨k l _ h.top n, h.len, fun i a q e1 e2 => k a _ (h.row i a q e1 e2) (n' a (List.mem_of_getElem? e1))⟩
theorem PcsAt.ne {H : Hp} {l : Addr} {as : List Addr} {qs : List Pc} (h : PcsAt H l as qs) {a : Addr} (ha : a ∈ as) : ∃ xs, H a = some (.tup xs) := by
  obtain ⟨i, hi, e⟩ := List.getElem_of_mem ha
  have e1 : as[i]? = some a := by rw [← e]; exact List.getElem?_eq_getElem hi
  have hq : i < qs.length := by rw [← h.len]; exact hi
  exact ⟨_, h.row i a _ e1 (List.getElem?_eq_getElem hq)⟩
def pcJob (n : Str) (l t d : Int) : List Pc := if d % t + 1 + l - 1 - t ≤ 0 then [(d / t, n, d % t + 1, d % t + 1 + l - 1)] else [(d / t, n, d % t + 1, t), (d / t + 1, n, 1, d % t + 1 + l - 1 - t)]
def pcAll (t : Int) : Int → List (Str × Int) → List Pc
  | _, [] => []
  | d, p :: ps => (if p.2 > 0 then pcJob p.1 p.2 t d else []) ++ pcAll t (d + p.2) ps
theorem pcAll_app (t : Int) : ∀ (a b : List (Str × Int)) (d : Int), pcAll t d (a ++ b) = pcAll t d a ++ pcAll t (d + tot a) b
  | [], b, d => by simp [pcAll, tot_nil]
  | p :: a, b, d => by
    rw [List.cons_append, pcAll, pcAll, pcAll_app t a b, List.append_assoc, tot_cons]
    have : d + p.2 + tot a = d + (p.2 + tot a) := by omega
    rw [this]
theorem pcAll_snoc {t : Int} {ps : List (Str × Int)} {i : Nat} {p : Str × Int} (h : ps[i]? = some p) : pcAll t 0 (ps.take (i + 1)) = pcAll t 0 (ps.take i) ++ (if p.2 > 0 then pcJob p.1 p.2 t (tot (ps.take i)) else []) := by
  rw [take_snoc h, pcAll_app]
  simp [pcAll]
theorem tot_snoc {ps : List (Str × Int)} {i : Nat} {p : Str × Int} (h : ps[i]? = some p) : tot (ps.take (i + 1)) = tot (ps.take i) + p.2 := by
  rw [take_snoc h, tot_app, tot_cons, tot_nil]; omega
theorem pcJob_len (n : Str) (l t d : Int) : (pcJob n l t d).length ≤ 2 := by unfold pcJob; split <;> simp
theorem pcAll_len (t : Int) : ∀ (ps : List (Str × Int)) (d : Int), (pcAll t d ps).length ≤ 2 * ps.length
  | [], _ => Nat.le_refl _
  | p :: ps, d => by
    have h1 := pcAll_len t ps (d + p.2)
    have h2 := pcJob_len p.1 p.2 t d
    rw [pcAll, List.length_append, List.length_cons]
    split <;> simp <;> omega
def turnsB (s : Int × Option Str) (ps : List (Str × Int)) : Int × Option Str := ps.foldl (fun s p => if p.2 > s.1 then (p.2, some p.1) else s) s
theorem turnsB_snoc {s : Int × Option Str} {ps : List (Str × Int)} {i : Nat} {p : Str × Int} (h : ps[i]? = some p) : turnsB s (ps.take (i + 1)) = if p.2 > (turnsB s (ps.take i)).1 then (p.2, some p.1) else turnsB s (ps.take i) := by
  unfold turnsB
  rw [take_snoc h, List.foldl_append]; rfl
def paperL : Option Str → List Str
  | none => ["all"]
  | some x => ["long", x]
def brkT (b : Int) (ps : List (Str × Int)) : Int × Option Str := turnsB ((tot ps + b - 1) / b, none) ps
theorem turnsB_ge (ps : List (Str × Int)) : ∀ s : Int × Option Str, s.1 ≤ (turnsB s ps).1 ∧ ∀ p ∈ ps, p.2 ≤ (turnsB s ps).1 := by
  induction ps with
  | nil => intro s; exact ⟨Int.le_refl _, fun _ h => nomatch h⟩
  | cons p ps ih =>
    intro s
    have e : turnsB s (p :: ps) = turnsB (if p.2 > s.1 then (p.2, some p.1) else s) ps := rfl
    obtain ⟨h1, h2⟩ := ih (if p.2 > s.1 then (p.2, some p.1) else s)
    rw [← e] at h1 h2
    have h3 : s.1 ≤ (if p.2 > s.1 then (p.2, some p.1) else s).1 ∧ p.2 ≤ (if p.2 > s.1 then (p.2, some p.1) else s).1 := by
      split
      · rename_i c; exact ⟨Int.le_of_lt c, Int.le_refl _⟩
      · rename_i c; exact ⟨Int.le_refl _, by omega⟩
    exact ⟨Int.le_trans h3.1 h1, fun q hq => by
      rcases List.mem_cons.mp hq with z | z
      · subst z; exact Int.le_trans h3.2 h1
      · exact h2 q z⟩
theorem turnsB_is (ps : List (Str × Int)) : ∀ s : Int × Option Str, turnsB s ps = s ∨ ∃ p ∈ ps, turnsB s ps = (p.2, some p.1) ∧ s.1 < p.2 := by
  induction ps with
  | nil => intro s; exact .inl rfl
  | cons p ps ih =>
    intro s
    have e : turnsB s (p :: ps) = turnsB (if p.2 > s.1 then (p.2, some p.1) else s) ps := rfl
    rw [e]
    by_cases c : p.2 > s.1
    · rw [if_pos c]
      rcases ih (p.2, some p.1) with h | ⟨q, hq, h, h'⟩
      · exact .inr ⟨p, List.mem_cons_self, h, c⟩
      · exact .inr ⟨q, List.mem_cons_of_mem _ hq, h, Int.lt_trans c h'⟩
    · rw [if_neg c]
      rcases ih s with h | ⟨q, hq, h, h'⟩
      · exact .inl h
      · exact .inr ⟨q, List.mem_cons_of_mem _ hq, h, h'⟩
theorem ceil_le {a b : Int} (ha : 0 ≤ a) (hb : 1 ≤ b) : (a + b - 1) / b ≤ a := by
  have h : (a + b - 1) / b < a + 1 := Int.ediv_lt_of_lt_mul (by omega) (by
    have : (a + 1) * b = a * b + b := by rw [Int.add_mul, Int.one_mul]
    have h2 : a * 1 ≤ a * b := Int.mul_le_mul_of_nonneg_left hb ha
    omega)
  omega
theorem brkT_le {b : Int} {ps : List (Str × Int)} (h : LenOk ps) (hb : 1 ≤ b) : (brkT b ps).1 ≤ tot ps := by
  unfold brkT
  rcases turnsB_is ps ((tot ps + b - 1) / b, none) with e | ⟨p, hp, e, _⟩
  · rw [e]; exact ceil_le (tot_nn h.lo) hb
  · rw [e]; exact tot_ge h.lo hp
section
variable {P : Program} {w : World} {K : PySem.W.Frag} {mg : Str → Option Value} {base : Heap}
def spWhole : Sp := fun vs H Q _ => ∃ i : Int, vs = [.int i] ∧ Q (.bl true) H
abbrev s_is_whole : Stmt := top 7
theorem sc_is_whole : FnScope ["thing"] ["thing"] (defScope s_is_whole) := ⟨rfl, rfl, rfl, by decide +kernel, rfl, by decide +kernel, by decide +kernel⟩
theorem ok_is_whole {f : Addr} {fd : FuncData} (F : Fun K "is_whole" "is_whole" s_is_whole f fd) (T : Txt K mg) : FnOk P w K mg base CX0 1 f fd ["thing"] spWhole := by
  refine F.ok sc_is_whole (fun vs H Q E h => ?_) (fun cdv A outer s H vs Q E hr h => ?_)
  · obtain ⟨v, rfl, _⟩ := h
    rfl
  · obtain ⟨i, rfl, k⟩ := h
    refine ⟨_, (pss_one (ps_ret (pe_and (pe_callB call_isT (by rfl) T.z_isinstance bo_isinstance (pa_cons (pv 0) (pa_cons (pe_bltn (by rfl) T.z_int bo_int (v := .ty "int") rfl) pa_nil))) (pe_one (pe_not (pe_callB call_isT (by rfl) T.z_isinstance bo_isinstance (pa_cons (pv 0) (pa_cons (pe_bltn (by rfl) T.z_bool bo_bool (v := .ty "bool") rfl) pa_nil)))))))), ?_⟩
    refine ⟨_, rfl, _, _, _, _, rfl, TyOf.int i, kit_same, _, rfl, iteT ?_⟩
    exact ⟨_, rfl, _, _, _, _, rfl, TyOf.int i, kit_ib, _, rfl, k⟩
abbrev s_whole : Stmt := top 25
theorem sc_whole : FnScope ["_law_found"] ["_law_found"] (defScope s_whole) := ⟨rfl, rfl, rfl, by decide +kernel, rfl, by decide +kernel, by decide +kernel⟩
theorem ok_whole {f : Addr} {fd : FuncData} (F : Fun K "_law_whole" "_law_whole" s_whole f fd) (T : Txt K mg) : FnOk P w K mg base CX0 1 f fd ["_law_found"] spWhole := by
  refine F.ok sc_whole (fun vs H Q E h => ?_) (fun cdv A outer s H vs Q E hr h => ?_)
  · obtain ⟨v, rfl, _⟩ := h
    rfl
  · obtain ⟨i, rfl, k⟩ := h
    refine ⟨_, (pss_one (ps_ret (pe_and (pe_callB call_isT (by rfl) T.z_isinstance bo_isinstance (pa_cons (pv 0) (pa_cons (pe_bltn (by rfl) T.z_int bo_int (v := .ty "int") rfl) pa_nil))) (pe_one (pe_not (pe_callB call_isT (by rfl) T.z_isinstance bo_isinstance (pa_cons (pv 0) (pa_cons (pe_bltn (by rfl) T.z_bool bo_bool (v := .ty "bool") rfl) pa_nil)))))))), ?_⟩
    refine ⟨_, rfl, _, _, _, _, rfl, TyOf.int i, kit_same, _, rfl, iteT ?_⟩
    exact ⟨_, rfl, _, _, _, _, rfl, TyOf.int i, kit_ib, _, rfl, k⟩
def spCheckB : Sp := fun vs H Q _ => ∃ i : Int, vs = [.int i] ∧ 1 ≤ i ∧ Q .non H
abbrev s_check_benches : Stmt := top 9
theorem sc_check_benches : FnScope ["benches"] ["benches"] (defScope s_check_benches) := ⟨rfl, rfl, rfl, by decide +kernel, rfl, by decide +kernel, by decide +kernel⟩
theorem ok_check_benches {f : Addr} {fd : FuncData} (F : Fun K "check_benches" "check_benches" s_check_benches f fd) (C_is_whole : Cal P w K mg base "is_whole" 1 ["thing"] spWhole) : FnOk P w K mg base CX0 2 f fd ["benches"] spCheckB := by
  refine F.ok sc_check_benches (fun vs H Q E h => ?_) (fun cdv A outer s H vs Q E hr h => ?_)
  · obtain ⟨v, rfl, _⟩ := h
    rfl
  · obtain ⟨i, rfl, hi, k⟩ := h
    have HR_is_whole := hr
    refine ⟨_, (pss_one (ps_if (PW.pt (pw_or (pt_not (pt_val (pe_callC C_is_whole HR_is_whole rfl (pa_cons (pv 0) pa_nil)))) (pw_or1 (pt_cmpR op_lt (pv 0) pe_int (nomark _)))))
        (pss_one ps_never)
        pss_nil)), ?_⟩
    refine ⟨_, rfl, i, rfl, _, rfl, iteF ?_⟩
    refine ⟨_, rfl, _, _, rfl, rfl, _, rfl, ?_⟩
    refine ite2 (fun c => ?_) (fun c => ?_)
    · have := of_decide_eq_true c
      omega
    · exact k
def spFilled : Sp := fun vs H Q _ => ∃ m b : Int, vs = [.int m, .int b] ∧ 1 ≤ b ∧ b < 10 ^ 100 ∧ Q (.int ((m + b - 1) / b)) H
abbrev s_turns_filled : Stmt := top 11
theorem sc_turns_filled : FnScope ["many", "benches"] ["many", "benches"] (defScope s_turns_filled) := ⟨rfl, rfl, rfl, by decide +kernel, rfl, by decide +kernel, by decide +kernel⟩
theorem ok_turns_filled {f : Addr} {fd : FuncData} (F : Fun K "turns_filled" "turns_filled" s_turns_filled f fd) : FnOk P w K mg base CX0 1 f fd ["many", "benches"] spFilled := by
  refine F.ok sc_turns_filled (fun vs H Q E h => ?_) (fun cdv A outer s H vs Q E hr h => ?_)
  · obtain ⟨m, b, rfl, _⟩ := h
    rfl
  · obtain ⟨m, b, rfl, h1, h2, k⟩ := h
    refine ⟨_, (pss_one (ps_ret (pe_op op_fdivB (pe_op op_sub (pe_op op_add (pv 0) (pv 1)) pe_int) (pv 1)))), ?_⟩
    exact ⟨_, rfl, _, rfl, _, _, rfl, rfl, _, _, rfl, rfl, _, rfl, _, _, rfl, rfl, ⟨by omega, h2⟩, k⟩
def spCheckL : Sp := fun vs H Q _ => ∃ (d : Addr) (ps : List (Str × Int)), vs = [.ref d] ∧ H d = some (.dK (kvOf ps)) ∧ LenOk ps ∧ ∀ H', Kp [] H H' → Q .non H'
abbrev s_check_lengths : Stmt := top 14
theorem sc_check_lengths : FnScope ["lengths", "name", "length"] ["lengths"] (defScope s_check_lengths) := ⟨rfl, rfl, rfl, by decide +kernel, rfl, by decide +kernel, by decide +kernel⟩
theorem ok_check_lengths {f : Addr} {fd : FuncData} (F : Fun K "check_lengths" "check_lengths" s_check_lengths f fd) (T : Txt K mg) (C_is_name : Cal P w K mg base "is_name" 1 ["thing"] spIsName) (C_is_whole : Cal P w K mg base "is_whole" 1 ["thing"] spWhole) : FnOk P w K mg base CX0 2 f fd ["lengths"] spCheckL := by
  refine F.ok sc_check_lengths (fun vs H Q E h => ?_) (fun cdv A outer s H vs Q E hr h => ?_)
  · obtain ⟨d, ps, rfl, _⟩ := h
    rfl
  · obtain ⟨d, ps, rfl, hd, ok, k⟩ := h
    have HR_is_whole := hr
    have HR_is_name := hr
    obtain ⟨tL, hL⟩ := T.c_MOST_LENGTHS
    refine ⟨_, (pss_cons (ps_if (pt_cmpR op_gt (pe_callB call_lenD (by rfl) T.z_len bo_len (pa_cons (pv 0) pa_nil)) (pe_glob rfl hL (v := .int 20) ⟨_, rfl⟩) (nomark _))
        (pss_one ps_never)
        pss_nil)
      (pss_one (ps_frz (ps_for PassesOwn.never rfl (pi_items (pv 0)) (pg_tup rfl (pgs_cons (pg_name (i := 1) sc_check_lengths.nd rfl (by walk_at "lc")) (pgs_cons (pg_name (i := 2) sc_check_lengths.nd rfl (by walk_at "lc")) pgs_nil)))
        (pss_cons (ps_if (pt_not (pt_val (pe_callC C_is_name HR_is_name rfl (pa_cons (pv 1) pa_nil))))
          (pss_one ps_never)
          pss_nil)
        (pss_one (ps_if (PW.pt (pw_or (pt_not (pt_val (pe_callC C_is_whole HR_is_whole rfl (pa_cons (pv 2) pa_nil)))) (pw_or1 (pt_cmpR op_lt (pv 2) pe_int (nomark _)))))
          (pss_one ps_never)
          pss_nil))))))), ?_⟩
    refine ⟨_, rfl, _, _, rfl, hd, _, _, rfl, rfl, _, rfl, ?_⟩
    refine ite2 (fun c => ?_) (fun c => ?_)
    · have := of_decide_eq_true c
      have := ok.len
      rw [kvOf_len] at *
      omega
    refine ⟨d, kvOf ps, hd, fun o => ?_⟩
    refine ⟨_, rfl, d, o, kvOf ps, rfl, upd_same, for_items (fun i σ H2 => (∃ o1 o2, σ = [some (.ref d), o1, o2]) ∧ Kp [d] H H2 ∧ H2 d = some (.frz o (.dK (kvOf ps)))) ⟨⟨_, _, rfl⟩, Kp.put Kp.refl (by simp), upd_same⟩ (fun i σ H2 _ h => h.2.2) ?_ ?_⟩
    · rintro i kk v σ H2 t hv ⟨⟨o1, o2, rfl⟩, k2, h2⟩ ht
      have ft : Fre H2 t := ht
      obtain ⟨x, n, ei, rfl, rfl⟩ := kvOf_at hv
      have mp : (x, n) ∈ ps := List.mem_of_getElem? ei
      have kt : Kp [] H2 (upd H2 t (.tup [kV (Sum.inr x), .int n])) := Kp.new Kp.refl ft
      refine ⟨_, _, rfl, .inl (.inl upd_same), rfl, _, _, rfl, _, _, rfl, rfl, ?_⟩
      have h3 := kt d _ h2 (by simp)
      have k3 : Kp [d] H (upd H2 t (.tup [kV (Sum.inr x), .int n])) := k2.trans (kt.weak (by simp))
      refine ⟨_, rfl, x, rfl, by have := (ok.nm _ mp).2.1; dsimp only at this; omega, fun H4 k4 => ?_⟩
      rw [(nameB_iff x).mpr (ok.nm _ mp)]
      refine ⟨_, rfl, iteF ?_⟩
      refine ⟨_, rfl, n, rfl, _, rfl, iteF ?_⟩
      refine ⟨_, rfl, _, _, rfl, rfl, _, rfl, ?_⟩
      refine ite2 (fun c => ?_) (fun c => ?_)
      · have := of_decide_eq_true c
        have := ok.lo _ mp
        dsimp only at this
        omega
      · exact ⟨⟨_, _, rfl⟩, k3.trans (k4.weak (by simp)), k4 d _ h3 (by simp)⟩
    · rintro σ H2 ⟨⟨o1, o2, rfl⟩, k2, h2⟩
      exact ⟨h2, k _ (thaw_kp hd k2)⟩
def spPJob : Sp := fun vs H Q _ => ∃ (n : Str) (l t d : Int), vs = [.str n, .int l, .int t, .int d] ∧ 1 ≤ t ∧ t < 10 ^ 100 ∧ ∀ (q : Addr) (as : List Addr) (H' : Hp), Fre H q → Kp [] H H' → PcsAt H' q as (pcJob n l t d) → Q (.ref q) H'
abbrev s_pieces_of_job : Stmt := top 17
theorem sc_pieces_of_job : FnScope ["name", "length", "turns", "done", "bench", "first", "over"] ["name", "length", "turns", "done"] (defScope s_pieces_of_job) := ⟨rfl, rfl, rfl, by decide +kernel, rfl, by decide +kernel, by decide +kernel⟩
theorem ok_pieces_of_job {f : Addr} {fd : FuncData} (F : Fun K "pieces_of_job" "pieces_of_job" s_pieces_of_job f fd) : FnOk P w K mg base CX0 1 f fd ["name", "length", "turns", "done"] spPJob := by
  refine F.ok sc_pieces_of_job (fun vs H Q E h => ?_) (fun cdv A outer s H vs Q E hr h => ?_)
  · obtain ⟨n, l, t, d, rfl, _⟩ := h
    rfl
  · obtain ⟨n, l, t, d, rfl, h1, h2, k⟩ := h
    refine ⟨_, (pss_cons (ps_set (i := 4) sc_pieces_of_job.nd rfl (by walk_at "lc") (pe_op op_fdivB (pv 3) (pv 2)))
      (pss_cons (ps_set (i := 5) sc_pieces_of_job.nd rfl (by walk_at "lc") (pe_op op_add (pe_op op_mod (pv 3) (pv 2)) pe_int))
      (pss_cons (ps_set (i := 6) sc_pieces_of_job.nd rfl (by walk_at "lc") (pe_op op_sub (pe_op op_sub (pe_op op_add (pv 5) (pv 1)) pe_int) (pv 2)))
      (pss_cons (ps_if (pt_cmpR op_le (pv 6) pe_int (nomark _))
        (pss_one (ps_ret (pe_lst (pa_cons (pe_tup (pa_cons (pv 4) (pa_cons (pv 0) (pa_cons (pv 5) (pa_cons (pe_op op_sub (pe_op op_add (pv 5) (pv 1)) pe_int) pa_nil))))) pa_nil))))
        pss_nil)
      (pss_one (ps_ret (pe_lst (pa_cons (pe_tup (pa_cons (pv 4) (pa_cons (pv 0) (pa_cons (pv 5) (pa_cons (pv 2) pa_nil))))) (pa_cons (pe_tup (pa_cons (pe_op op_add (pv 4) pe_int) (pa_cons (pv 0) (pa_cons pe_int (pa_cons (pv 6) pa_nil))))) pa_nil))))))))), ?_⟩
    refine ⟨_, rfl, _, rfl, _, _, rfl, rfl, ⟨by omega, h2⟩, ?_⟩
    refine ⟨_, rfl, _, rfl, _, _, rfl, rfl, (by show (0 : Int) < t; omega), _, _, rfl, rfl, ?_⟩
    refine ⟨_, rfl, _, rfl, _, _, rfl, rfl, _, _, rfl, rfl, _, rfl, _, _, rfl, rfl, ?_⟩
    refine ⟨_, rfl, _, _, rfl, rfl, _, rfl, ?_⟩
    refine ite2 (fun c => ?_) (fun c => ?_)
    · have c := of_decide_eq_true c
      refine ⟨_, rfl, _, rfl, _, rfl, _, rfl, _, rfl, _, _, rfl, rfl, _, _, rfl, rfl, (by walk_at "ln"), fun a ha => ?_⟩
      have fa : Fre H a := ha
      refine ⟨(by walk_at "ln"), fun q hq => ?_⟩
      have ka : Kp [] H (upd H a (.tup [.int (d / t), .str n, .int (d % t + 1), .int (d % t + 1 + l - 1)])) := Kp.new Kp.refl fa
      have ea : upd H a (.tup [.int (d / t), .str n, .int (d % t + 1), .int (d % t + 1 + l - 1)]) a = some (.tup [.int (d / t), .str n, .int (d % t + 1), .int (d % t + 1 + l - 1)]) := upd_same
      have fq : Fre (upd H a (.tup [.int (d / t), .str n, .int (d % t + 1), .int (d % t + 1 + l - 1)])) q := hq
      have kq : Kp [] (upd H a (.tup [.int (d / t), .str n, .int (d % t + 1), .int (d % t + 1 + l - 1)])) (upd (upd H a (.tup [.int (d / t), .str n, .int (d % t + 1), .int (d % t + 1 + l - 1)])) q (.lst [.ref a])) := Kp.new Kp.refl fq
      refine k q [a] _ ?_ (ka.trans kq) ⟨upd_same, ?_, fun i b z e1 e2 => ?_⟩
      · cases z : H q with
        | none => exact z
        | some o => have := ka q o z (by simp); rw [show _ = none from fq] at this; cases this
      · unfold pcJob; rw [if_pos c]; rfl
      · unfold pcJob at e2; rw [if_pos c] at e2
        match i, e1, e2 with
        | 0, e1, e2 => cases e1; cases e2; exact kq a _ ea (by simp)
    · have c : ¬ (d % t + 1 + l - 1 - t ≤ 0) := fun z => c (decide_eq_true z)
      refine ⟨_, rfl, _, rfl, _, rfl, _, rfl, (by walk_at "ln"), fun a ha => ?_⟩
      have fa : Fre H a := ha
      have ka : Kp [] H (upd H a (.tup [.int (d / t), .str n, .int (d % t + 1), .int t])) := Kp.new Kp.refl fa
      have ea : upd H a (.tup [.int (d / t), .str n, .int (d % t + 1), .int t]) a = some (.tup [.int (d / t), .str n, .int (d % t + 1), .int t]) := upd_same
      generalize upd H a (.tup [.int (d / t), .str n, .int (d % t + 1), .int t]) = H1 at ka ea
      refine ⟨_, rfl, _, _, rfl, rfl, _, rfl, _, rfl, (by walk_at "ln"), fun b hb => ?_⟩
      have fb : Fre H1 b := hb
      have kb : Kp [] H1 (upd H1 b (.tup [.int (d / t + 1), .str n, .int 1, .int (d % t + 1 + l - 1 - t)])) := Kp.new Kp.refl fb
      have eb : upd H1 b (.tup [.int (d / t + 1), .str n, .int 1, .int (d % t + 1 + l - 1 - t)]) b = some (.tup [.int (d / t + 1), .str n, .int 1, .int (d % t + 1 + l - 1 - t)]) := upd_same
      refine ⟨(by walk_at "ln"), fun q hq => ?_⟩
      have fq : Fre (upd H1 b (.tup [.int (d / t + 1), .str n, .int 1, .int (d % t + 1 + l - 1 - t)])) q := hq
      generalize upd H1 b (.tup [.int (d / t + 1), .str n, .int 1, .int (d % t + 1 + l - 1 - t)]) = H2 at kb eb fq
      have kq : Kp [] H2 (upd H2 q (.lst [.ref a, .ref b])) := Kp.new Kp.refl fq
      refine k q [a, b] _ ?_ ((ka.trans kb).trans kq) ⟨upd_same, ?_, fun i c' z e1 e2 => ?_⟩
      · cases z : H q with
        | none => exact z
        | some o => have := kb q o (ka q o z (by simp)) (by simp); rw [show _ = none from fq] at this; cases this
      · unfold pcJob; rw [if_neg c]; rfl
      · unfold pcJob at e2; rw [if_neg c] at e2
        match i, e1, e2 with
        | 0, e1, e2 => cases e1; cases e2; exact kq a _ (kb a _ ea (by simp)) (by simp)
        | 1, e1, e2 => cases e1; cases e2; exact kq b _ eb (by simp)
def spPAll : Sp := fun vs H Q _ => ∃ (t : Int) (d : Addr) (ps : List (Str × Int)), vs = [.int t, .ref d] ∧ H d = some (.dK (kvOf ps)) ∧ LenOk ps ∧ t < 10 ^ 100 ∧ (∀ p ∈ ps, p.2 ≤ t) ∧ ∀ (q : Addr) (as : List Addr) (H' : Hp), Fre H q → Kp [] H H' → PcsAt H' q as (pcAll t 0 ps) → Q (.ref q) H'
abbrev s_all_pieces : Stmt := top 16
theorem sc_all_pieces : FnScope ["turns", "lengths", "pieces", "done", "name", "length"] ["turns", "lengths"] (defScope s_all_pieces) := ⟨rfl, rfl, rfl, by decide +kernel, rfl, by decide +kernel, by decide +kernel⟩
theorem ok_all_pieces {f : Addr} {fd : FuncData} (F : Fun K "all_pieces" "all_pieces" s_all_pieces f fd) (C_pieces_of_job : Cal P w K mg base "pieces_of_job" 1 ["name", "length", "turns", "done"] spPJob) : FnOk P w K mg base CX0 2 f fd ["turns", "lengths"] spPAll := by
  refine F.ok sc_all_pieces (fun vs H Q E h => ?_) (fun cdv A outer s H vs Q E hr h => ?_)
  · obtain ⟨t, d, ps, rfl, _⟩ := h
    rfl
  · obtain ⟨t, d, ps, rfl, hd, ok, ht, hp, k⟩ := h
    have HR_pieces_of_job := hr
    refine ⟨_, (pss_cons (ps_set (i := 2) sc_all_pieces.nd rfl (by walk_at "lc") (pe_lst pa_nil))
      (pss_cons (ps_set (i := 3) sc_all_pieces.nd rfl (by walk_at "lc") pe_int)
      (pss_cons (ps_frz (ps_for PassesOwn.never rfl (pi_items (pv 1)) (pg_tup rfl (pgs_cons (pg_name (i := 4) sc_all_pieces.nd rfl (by walk_at "lc")) (pgs_cons (pg_name (i := 5) sc_all_pieces.nd rfl (by walk_at "lc")) pgs_nil)))
        (pss_cons (ps_if (pt_cmpR op_gt (pv 5) pe_int (nomark _))
          (pss_one (ps_expr (pe_bm PySem.F.plainAttrs_list PySem.F.slot_list_extend PySem.F.type_list_extend mt_extend (pv 2) (pa_cons (pe_callC C_pieces_of_job HR_pieces_of_job rfl (pa_cons (pv 4) (pa_cons (pv 5) (pa_cons (pv 0) (pa_cons (pv 3) pa_nil))))) pa_nil))))
          pss_nil)
        (pss_one (ps_set (i := 3) sc_all_pieces.nd rfl (by walk_at "lc") (pe_op op_add (pv 3) (pv 5)))))))
      (pss_one (ps_ret (pv 2)))))), ?_⟩
    refine ⟨(by walk_at "ln"), fun q hq => ?_⟩
    have fq : Fre H q := hq
    have kq : Kp [] H (upd H q (.lst [])) := Kp.new Kp.refl fq
    have eq : upd H q (.lst []) q = some (.lst []) := upd_same
    generalize upd H q (.lst []) = H1 at kq eq
    have hd1 := kq d _ hd (by simp)
    have nqd : q ≠ d := fun e => by rw [e, hd1] at eq; cases eq
    refine ⟨d, kvOf ps, hd1, fun o => ?_⟩
    have kf : Kp [d] H1 (upd H1 d (.frz o (.dK (kvOf ps)))) := Kp.put Kp.refl (by simp)
    refine ⟨_, rfl, d, o, kvOf ps, rfl, upd_same, for_items (fun i σ H2 => ∃ (as : List Addr) (o4 o5 : Option V), σ = [some (.int t), some (.ref d), some (.ref q), some (.int (tot (ps.take i))), o4, o5] ∧ Kp [d] H H2 ∧ H2 d = some (.frz o (.dK (kvOf ps))) ∧ PcsAt H2 q as (pcAll t 0 (ps.take i)))
      ⟨[], none, none, rfl, (kq.weak (by simp)).trans kf, upd_same, ⟨by rw [upd_ne nqd]; exact eq, rfl, fun i a z e1 _ => by simp at e1⟩⟩ (fun i σ H2 _ ⟨_, _, _, _, _, h, _⟩ => h) ?_ ?_⟩
    · rintro i kk v σ H2 tt hv ⟨as, o4, o5, rfl, k2, h2, R2⟩ htt
      have ft : Fre H2 tt := htt
      obtain ⟨x, n, ei, rfl, rfl⟩ := kvOf_at hv
      have mp : (x, n) ∈ ps := List.mem_of_getElem? ei
      have il : i < ps.length := (List.getElem?_eq_some_iff.mp ei).1
      have kt : Kp [] H2 (upd H2 tt (.tup [kV (Sum.inr x), .int n])) := Kp.new Kp.refl ft
      refine ⟨_, _, rfl, .inl (.inl upd_same), rfl, _, _, rfl, _, _, rfl, rfl, ?_⟩
      have h3 := kt d _ h2 (by simp)
      have R3 := R2.kp kt (by simp) (fun _ _ => by simp)
      have k3 : Kp [d] H (upd H2 tt (.tup [kV (Sum.inr x), .int n])) := k2.trans (kt.weak (by simp))
      generalize upd H2 tt (.tup [kV (Sum.inr x), .int n]) = H3 at k3 h3 R3
      refine ⟨_, rfl, _, _, rfl, rfl, _, rfl, ?_⟩
      refine ite2 (fun c => ?_) (fun c => ?_)
      · have c := of_decide_eq_true c
        have hn : n ≤ t := hp _ mp
        refine ⟨_, rfl, .inl ⟨rfl, _, SqL.of R3.top⟩, _, rfl, _, rfl, _, rfl, _, rfl, x, n, t, _, rfl, by omega, ht, fun b bs H4 fb k4 R4 => ?_⟩
        have R5 := R3.kp k4 (by simp) (fun _ _ => by simp)
        have h4 := k4 d _ h3 (by simp)
        have la := R5.len
        have lb := R4.len
        have l1 := pcAll_len t (ps.take i) 0
        have l2 := pcJob_len x n t (tot (ps.take i))
        have l3 := ok.len
        rw [List.length_take] at l1
        refine ⟨q, b, _, _, rfl, rfl, R5.top, R4.top, by rw [List.length_map, List.length_map, sizeLine_eq]; omega, ?_⟩
        have kp : Kp [q] H4 (upd H4 q (.lst (as.map V.ref ++ bs.map V.ref))) := Kp.put Kp.refl (by simp)
        have nqa : ∀ a ∈ as ++ bs, a ≠ q := fun a ha e => by
          have : ∃ xs, H4 a = some (.tup xs) := by
            rcases List.mem_append.mp ha with z | z
            · exact R5.ne z
            · exact R4.ne z
          obtain ⟨xs, this⟩ := this
          rw [e, R5.top] at this; cases this
        refine ⟨_, rfl, _, rfl, _, _, rfl, rfl, as ++ bs, some (kV (Sum.inr x)), some (.int n), by rw [tot_snoc ei]; rfl, kp_drop (k3.trans (k4.weak (by simp))) fq kp, kp d _ h4 (nm1 nqd.symm), ⟨by rw [upd_same, List.map_append], by rw [List.length_append, pcAll_snoc ei, if_pos c, List.length_append, la, lb], fun j a z e1 e2 => ?_⟩⟩
        have ma := List.mem_of_getElem? e1
        refine kp a _ ?_ (nm1 (nqa a ma))
        rw [pcAll_snoc ei, if_pos c] at e2
        by_cases jl : j < as.length
        · rw [List.getElem?_append_left jl] at e1
          rw [List.getElem?_append_left (by rw [← la]; exact jl)] at e2
          exact R5.row j a z e1 e2
        · rw [List.getElem?_append_right (by omega)] at e1
          rw [List.getElem?_append_right (by omega), ← la] at e2
          exact R4.row _ a z e1 e2
      · have c : ¬ n > 0 := fun z => c (decide_eq_true z)
        refine ⟨_, rfl, _, rfl, _, _, rfl, rfl, as, some (kV (Sum.inr x)), some (.int n), by rw [tot_snoc ei]; rfl, k3, h3, ?_⟩
        rw [pcAll_snoc ei, if_neg c, List.append_nil]
        exact R3
    · rintro σ H2 ⟨as, o4, o5, rfl, k2, h2, R2⟩
      rw [kvOf_len, List.take_length] at R2
      have kz : Kp [d] H2 (upd H2 d (.dK (kvOf ps))) := Kp.put Kp.refl (by simp)
      refine ⟨h2, _, rfl, k q as _ fq (thaw_kp hd k2) (R2.kp kz (nm1 nqd) fun a ha => nm1 fun e => ?_)⟩
      obtain ⟨xs, this⟩ := R2.ne ha
      rw [e, h2] at this; cases this
def spBroken : Sp := fun vs H Q _ => ∃ (b : Int) (d : Addr) (ps : List (Str × Int)), vs = [.int b, .ref d] ∧ H d = some (.dK (kvOf ps)) ∧ LenOk ps ∧ 1 ≤ b ∧ b < 10 ^ 100 ∧ ∀ (t l pp : Addr) (as : List Addr) (H' : Hp), Kp [] H H' → Fre H l → H' t = some (.tup [.int (brkT b ps).1, .ref l, .ref pp]) → H' pp = some (.tup ((paperL (brkT b ps).2).map V.str)) → PcsAt H' l as (pcAll (brkT b ps).1 0 ps) → Q (.ref t) H'
abbrev s_broken : Stmt := top 15
theorem sc_broken : FnScope ["benches", "lengths", "turns", "paper", "name", "length"] ["benches", "lengths"] (defScope s_broken) := ⟨rfl, rfl, rfl, by decide +kernel, rfl, by decide +kernel, by decide +kernel⟩
theorem ok_broken {f : Addr} {fd : FuncData} (F : Fun K "broken" "broken" s_broken f fd) (T : Txt K mg) (C_check_benches : Cal P w K mg base "check_benches" 2 ["benches"] spCheckB) (C_check_lengths : Cal P w K mg base "check_lengths" 2 ["lengths"] spCheckL) (C_turns_filled : Cal P w K mg base "turns_filled" 1 ["many", "benches"] spFilled) (C_all_pieces : Cal P w K mg base "all_pieces" 2 ["turns", "lengths"] spPAll) : FnOk P w K mg base CX0 3 f fd ["benches", "lengths"] spBroken := by
  refine F.ok sc_broken (fun vs H Q E h => ?_) (fun cdv A outer s H vs Q E hr h => ?_)
  · obtain ⟨b, d, ps, rfl, _⟩ := h
    rfl
  · obtain ⟨b, d, ps, rfl, hd, ok, b1, b2, k⟩ := h
    have HR_check_benches := hr
    have HR_check_lengths := hr
    have HR_all_pieces := hr
    have HR_turns_filled : Room 1 _ := hr.mono (by decide)
    refine ⟨_, (pss_cons (ps_expr (pe_callC C_check_benches HR_check_benches rfl (pa_cons (pv 0) pa_nil)))
      (pss_cons (ps_expr (pe_callC C_check_lengths HR_check_lengths rfl (pa_cons (pv 1) pa_nil)))
      (pss_cons (ps_set (i := 2) sc_broken.nd rfl (by walk_at "lc") (pe_callC C_turns_filled HR_turns_filled rfl (pa_cons (pe_callB (call_sumV rfl) (by rfl) T.z_sum bo_sum (pa_cons (pe_bm0 PySem.F.plainAttrs_dict PySem.F.slot_dict_values PySem.F.type_dict_values mt_values (pv 1)) pa_nil)) (pa_cons (pv 0) pa_nil))))
      (pss_cons (ps_set (i := 3) sc_broken.nd rfl (by walk_at "lc") (pe_tup (pa_cons pe_str pa_nil)))
      (pss_cons (ps_frz (ps_for PassesOwn.never rfl (pi_items (pv 1)) (pg_tup rfl (pgs_cons (pg_name (i := 4) sc_broken.nd rfl (by walk_at "lc")) (pgs_cons (pg_name (i := 5) sc_broken.nd rfl (by walk_at "lc")) pgs_nil)))
        (pss_one (ps_if (pt_cmpR op_gt (pv 5) (pv 2) (nomark _))
          (pss_cons (ps_set (i := 2) sc_broken.nd rfl (by walk_at "lc") (pv 5))
          (pss_one (ps_set (i := 3) sc_broken.nd rfl (by walk_at "lc") (pe_tup (pa_cons pe_str (pa_cons (pv 4) pa_nil))))))
          pss_nil))))
      (pss_one (ps_ret (pe_tup (pa_cons (pv 2) (pa_cons (pe_callC C_all_pieces HR_all_pieces rfl (pa_cons (pv 2) (pa_cons (pv 1) pa_nil))) (pa_cons (pv 3) pa_nil))))))))))), ?_⟩
    refine ⟨_, rfl, b, rfl, b1, ?_⟩
    refine ⟨_, rfl, d, ps, rfl, hd, ok, fun H1 k1 => ?_⟩
    have hd1 := k1 d _ hd (by simp)
    refine ⟨_, rfl, .inr (.inr (.inl ⟨rfl, .inl ⟨_, hd1⟩⟩)), d, kvOf ps, rfl, rfl, hd1, fun v hv => ?_⟩
    have fv : Fre H1 v := hv
    have kv : Kp [] H1 (upd H1 v (vvO v d)) := Kp.new Kp.refl fv
    have ev : upd H1 v (vvO v d) v = some (vvO v d) := upd_same
    generalize upd H1 v (vvO v d) = H2 at kv ev
    have hd2 := kv d _ hd1 (by simp)
    refine ⟨v, d, kvOf ps, ps.map (·.2), rfl, ev, hd2, kvOf_vals ps, _, rfl, _, b, rfl, b1, b2, ?_⟩
    refine ⟨(by walk_at "ln"), fun pp hpp => ?_⟩
    have fpp : Fre H2 pp := hpp
    have kpp : Kp [] H2 (upd H2 pp (.tup [.str "all"])) := Kp.new Kp.refl fpp
    have epp : upd H2 pp (.tup [.str "all"]) pp = some (.tup [.str "all"]) := upd_same
    generalize upd H2 pp (.tup [.str "all"]) = H3 at kpp epp
    have hd3 := kpp d _ hd2 (by simp)
    have k3 : Kp [] H H3 := (k1.trans kv).trans kpp
    have npd : pp ≠ d := fun e => by rw [e, hd3] at epp; cases epp
    refine ⟨d, kvOf ps, hd3, fun o => ?_⟩
    have kf : Kp [d] H3 (upd H3 d (.frz o (.dK (kvOf ps)))) := Kp.put Kp.refl (by simp)
    refine ⟨_, rfl, d, o, kvOf ps, rfl, upd_same, for_items (fun i σ H2 => ∃ (pp : Addr) (o4 o5 : Option V), σ = [some (.int b), some (.ref d), some (.int (turnsB ((tot ps + b - 1) / b, none) (ps.take i)).1), some (.ref pp), o4, o5] ∧ Kp [d] H H2 ∧ H2 d = some (.frz o (.dK (kvOf ps))) ∧ H2 pp = some (.tup ((paperL (turnsB ((tot ps + b - 1) / b, none) (ps.take i)).2).map V.str)))
      ⟨pp, none, none, rfl, (k3.weak (by simp)).trans kf, upd_same, by rw [upd_ne npd]; exact epp⟩ (fun i σ H2 _ ⟨_, _, _, _, _, h, _⟩ => h) ?_ ?_⟩
    · rintro i kk v σ H4 tt hv' ⟨pp, o4, o5, rfl, k4, h4, p4⟩ htt
      have ft : Fre H4 tt := htt
      obtain ⟨x, n, ei, rfl, rfl⟩ := kvOf_at hv'
      have kt : Kp [] H4 (upd H4 tt (.tup [kV (Sum.inr x), .int n])) := Kp.new Kp.refl ft
      refine ⟨_, _, rfl, .inl (.inl upd_same), rfl, _, _, rfl, _, _, rfl, rfl, ?_⟩
      have h5 := kt d _ h4 (by simp)
      have p5 := kt pp _ p4 (by simp)
      have k5 : Kp [d] H (upd H4 tt (.tup [kV (Sum.inr x), .int n])) := k4.trans (kt.weak (by simp))
      generalize upd H4 tt (.tup [kV (Sum.inr x), .int n]) = H5 at k5 h5 p5
      refine ⟨_, rfl, _, rfl, _, _, rfl, rfl, _, rfl, ?_⟩
      refine ite2 (fun c => ?_) (fun c => ?_)
      · have c := of_decide_eq_true c
        refine ⟨_, rfl, ?_⟩
        refine ⟨_, rfl, (by walk_at "ln"), fun p2 hp2 => ?_⟩
        have f2 : Fre H5 p2 := hp2
        have k6 : Kp [] H5 (upd H5 p2 (.tup [.str "long", kV (Sum.inr x)])) := Kp.new Kp.refl f2
        refine ⟨p2, some (kV (Sum.inr x)), some (.int n), ?_, k5.trans (k6.weak (by simp)), k6 d _ h5 (by simp), ?_⟩
        · rw [turnsB_snoc ei, if_pos c]; rfl
        · rw [turnsB_snoc ei, if_pos c]; exact upd_same
      · have c : ¬ n > (turnsB ((tot ps + b - 1) / b, none) (ps.take i)).1 := fun z => c (decide_eq_true z)
        refine ⟨pp, some (kV (Sum.inr x)), some (.int n), ?_, k5, h5, ?_⟩
        · rw [turnsB_snoc ei, if_neg c]; rfl
        · rw [turnsB_snoc ei, if_neg c]; exact p5
    · rintro σ H4 ⟨pp, o4, o5, rfl, k4, h4, p4⟩
      rw [kvOf_len, List.take_length] at p4
      rw [kvOf_len, List.take_length]
      have kz : Kp [d] H4 (upd H4 d (.dK (kvOf ps))) := Kp.put Kp.refl (by simp)
      have npd : pp ≠ d := fun e => by rw [e, h4] at p4; cases p4
      have k5 := thaw_kp hd k4
      have p5 := kz pp _ p4 (nm1 npd)
      have h5 : upd H4 d (.dK (kvOf ps)) d = some (.dK (kvOf ps)) := upd_same
      refine ⟨h4, ?_⟩
      generalize upd H4 d (.dK (kvOf ps)) = H5 at k5 p5 h5
      refine ⟨_, rfl, _, rfl, _, rfl, _, d, ps, rfl, h5, ok, Int.lt_of_le_of_lt (brkT_le ok b1) ok.big, fun p hp => (turnsB_ge ps _).2 p hp, fun q as H6 fq k6 R6 => ?_⟩
      refine ⟨_, rfl, (by walk_at "ln"), fun t ht => ?_⟩
      have f6 : Fre H6 t := ht
      have k7 : Kp [] H6 (upd H6 t (.tup [.int (brkT b ps).1, .ref q, .ref pp])) := Kp.new Kp.refl f6
      have fqH : Fre H q := by
        cases z : H q with
        | none => exact z
        | some o => have := k5 q o z (by simp); rw [show _ = none from fq] at this; cases this
      exact k t q pp as _ ((k5.trans k6).trans k7) fqH upd_same (k7 pp _ (k6 pp _ p5 (by simp)) (by simp)) (R6.kp k7 (by simp) fun _ _ => by simp)
end
end My
set_option Elab.async false
set_option linter.all false
set_option maxRecDepth 100000
set_option maxHeartbeats 4000000
namespace My
open PySem L2
theorem kp_drop2 {H H1 H2 : Hp} {p d : Addr} (a : Kp [p] H H1) (f : Fre H d) (b : Kp [p, d] H1 H2) : Kp [p] H H2 := fun c o h n => b c o (a c o h n) (by
  have n1 : c ≠ p := fun e => n (by simp [e])
  have n2 := ne_fre f h
  simp [n1, n2])
theorem fre_back {H H' : Hp} {p d : Addr} (P : Purse H' p) (k : Kp [p] H H') (f : Fre H' d) : Fre H d := by
  cases z : H d with
  | none => exact z
  | some o =>
    by_cases c : d = p
    · subst c
      obtain ⟨x, y, e, _⟩ := P
      rw [show H' d = none from f] at e; cases e
    · have := k d o z (nm1 c)
      rw [show H' d = none from f] at this; cases this
theorem fre_old {H H' : Hp} {d : Addr} (k : Kp [] H H') (f : Fre H' d) : Fre H d := by
  cases z : H d with
  | none => exact z
  | some o => have := k d o z (by simp); rw [show H' d = none from f] at this; cases this
theorem put_app {qs : List (Str × Int)} {x : Str} {v : Int} (h : x ∉ qs.map (·.1)) : putK (kvOf qs) (Sum.inr x) (.int v) = kvOf (qs ++ [(x, v)]) := by
  unfold putK
  rw [if_neg]
  · simp [kvOf]
  · rw [List.any_eq_true]
    rintro ⟨y, hy, e⟩
    have e := of_decide_eq_true e
    unfold kvOf at hy
    obtain ⟨q, hq, rfl⟩ := List.mem_map.mp hy
    exact h (List.mem_map.mpr ⟨q, hq, Sum.inr.inj e⟩)
theorem nd_map {α β : Type} {f : α → β} (hf : ∀ a b, f a = f b → a = b) : ∀ {l : List α}, l.Nodup → (l.map f).Nodup
  | [], _ => List.nodup_nil
  | x :: l, h => by
    obtain ⟨h1, h2⟩ := List.nodup_cons.mp h
    rw [List.map_cons]
    refine List.nodup_cons.mpr ⟨fun z => ?_, nd_map hf h2⟩
    obtain ⟨y, hy, e⟩ := List.mem_map.mp z
    exact h1 (by rw [← hf _ _ e]; exact hy)
def setP (qs : List (Str × Int)) (x : Str) (v : Int) : List (Str × Int) := qs.map fun q => if q.1 = x then (q.1, v) else q
theorem put_set {qs : List (Str × Int)} {x : Str} {v : Int} (h : x ∈ qs.map (·.1)) : putK (kvOf qs) (Sum.inr x) (.int v) = kvOf (setP qs x v) := by
  unfold putK
  rw [if_pos]
  · unfold kvOf setP
    rw [List.map_map, List.map_map]
    refine List.map_congr_left fun q _ => ?_
    show (if (Sum.inr q.1 : Key) = Sum.inr x then ((Sum.inr q.1 : Key), V.int v) else (Sum.inr q.1, V.int q.2)) = ((Sum.inr (if q.1 = x then (q.1, v) else q).1 : Key), V.int (if q.1 = x then (q.1, v) else q).2)
    by_cases c : q.1 = x
    · rw [if_pos c, if_pos (by rw [c])]
    · rw [if_neg c, if_neg (fun e => c (Sum.inr.inj e))]
  · obtain ⟨q, hq, e⟩ := List.mem_map.mp h
    rw [List.any_eq_true]
    exact ⟨(Sum.inr q.1, V.int q.2), by unfold kvOf; exact List.mem_map.mpr ⟨q, hq, rfl⟩, decide_eq_true (by rw [e])⟩
theorem setP_keys (qs : List (Str × Int)) (x : Str) (v : Int) : (setP qs x v).map (·.1) = qs.map (·.1) := by
  unfold setP
  rw [List.map_map]
  refine List.map_congr_left fun q _ => ?_
  show (if q.1 = x then (q.1, v) else q).1 = q.1
  split <;> rfl
theorem LenOk.set {qs : List (Str × Int)} (h : LenOk qs) {x : Str} {v : Int} (h0 : 0 ≤ v) (h1 : v < 10 ^ 60) : LenOk (setP qs x v) where
  nd := by rw [setP_keys]; exact h.nd
  nm := fun p hp => by
    obtain ⟨q, hq, e⟩ := List.mem_map.mp hp
    rw [← e]
    have := h.nm q hq
    split
    · exact this
    · exact this
  lo := fun p hp => by
    obtain ⟨q, hq, e⟩ := List.mem_map.mp hp
    rw [← e]
    split
    · exact h0
    · exact h.lo q hq
  hi := fun p hp => by
    obtain ⟨q, hq, e⟩ := List.mem_map.mp hp
    rw [← e]
    split
    · exact h1
    · exact h.hi q hq
  len := by unfold setP; rw [List.length_map]; exact h.len
section
variable {P : Program} {w : World} {K : PySem.W.Frag} {mg : Str → Option Value} {base : Heap}
def spLBenches : Sp := fun vs H Q _ => ∃ p : Addr, vs = [.ref p] ∧ Purse H p ∧ ∀ (b : Int) (H' : Hp), 1 ≤ b → b < 10 ^ 60 → Purse H' p → Kp [p] H H' → Q (.int b) H'
abbrev s_benches : Stmt := top 23
theorem sc_benches : FnScope ["_law_purse_here"] ["_law_purse_here"] (defScope s_benches) := ⟨rfl, rfl, rfl, by decide +kernel, rfl, by decide +kernel, by decide +kernel⟩
theorem ok_benches {f : Addr} {fd : FuncData} (F : Fun K "_law_benches" "_law_benches" s_benches f fd) (C_take : Cal P w K mg base "_law_take" 1 ["_law_purse_here", "_law_many"] spTake) : FnOk P w K mg base CX0 2 f fd ["_law_purse_here"] spLBenches := by
  refine F.ok sc_benches (fun vs H Q E h => ?_) (fun cdv A outer s H vs Q E hr h => ?_)
  · obtain ⟨p, rfl, _⟩ := h
    rfl
  · obtain ⟨p, rfl, hP, k⟩ := h
    have HR_take := hr
    refine ⟨_, (pss_cons (ps_if (pt_cmpR op_eq (pe_callC C_take HR_take rfl (pa_cons (pv 0) (pa_cons pe_int pa_nil))) pe_int (nomark _))
        (pss_one (ps_ret (pe_op op_add pe_int (pe_callC C_take HR_take rfl (pa_cons (pv 0) (pa_cons (pe_op op_sub (pe_op op_pow pe_int pe_int) pe_int) pa_nil))))))
        pss_nil)
      (pss_one (ps_ret (pe_op op_add pe_int (pe_callC C_take HR_take rfl (pa_cons (pv 0) (pa_cons pe_int pa_nil))))))), ?_⟩
    refine ⟨_, rfl, p, 8, rfl, hP, by decide, by decide, fun d1 H1 a0 a1 P1 K1 => ?_⟩
    refine ⟨rfl, _, rfl, ?_⟩
    have t1 : (10 : Int) < 10 ^ 60 := by decide +kernel
    refine ite2 (fun c => ?_) (fun c => ?_)
    · refine ⟨_, rfl, _, _, rfl, rfl, ⟨by decide, by decide, by decide⟩, _, _, rfl, rfl, p, _, rfl, P1, by decide +kernel, by decide +kernel, fun d2 H2 b0 b1 P2 K2 => ?_⟩
      have b1 : d2 < 10 ^ 60 - 1 := b1
      exact ⟨_, _, rfl, rfl, k _ H2 (by omega) (by omega) P2 (K1.trans K2)⟩
    · refine ⟨_, rfl, p, 4, rfl, P1, by decide, by decide, fun d2 H2 b0 b1 P2 K2 => ?_⟩
      exact ⟨_, _, rfl, rfl, k _ H2 (by omega) (by omega) P2 (K1.trans K2)⟩
theorem five_at {d : Int} (h0 : 0 ≤ d) (h1 : d < 5) : ∃ b : Int, atI [V.int 2, V.int 4, V.int 9, V.int 30, V.int (10 ^ (60 : Int).toNat)] d = some (V.int b) ∧ 1 ≤ b ∧ b ≤ 10 ^ 60 := by
  have : d = 0 ∨ d = 1 ∨ d = 2 ∨ d = 3 ∨ d = 4 := by omega
  rcases this with rfl | rfl | rfl | rfl | rfl
  · exact ⟨2, rfl, by decide, by decide +kernel⟩
  · exact ⟨4, rfl, by decide, by decide +kernel⟩
  · exact ⟨9, rfl, by decide, by decide +kernel⟩
  · exact ⟨30, rfl, by decide, by decide +kernel⟩
  · exact ⟨10 ^ (60 : Int).toNat, rfl, by decide +kernel, by decide +kernel⟩
def spLLens : Sp := fun vs H Q _ => ∃ p : Addr, vs = [.ref p] ∧ Purse H p ∧ ∀ (d : Addr) (ps : List (Str × Int)) (H' : Hp), Fre H d → H' d = some (.dK (kvOf ps)) → LenOk ps → Purse H' p → Kp [p] H H' → Q (.ref d) H'
abbrev s_lengths : Stmt := top 24
theorem sc_lengths : FnScope ["_law_purse_here", "_law_size", "_law_lengths_here", "_law_name"] ["_law_purse_here"] (defScope s_lengths) := ⟨rfl, rfl, rfl, by decide +kernel, rfl, by decide +kernel, by decide +kernel⟩
theorem ok_lengths {f : Addr} {fd : FuncData} (F : Fun K "_law_lengths" "_law_lengths" s_lengths f fd) (T : Txt K mg) (C_take : Cal P w K mg base "_law_take" 1 ["_law_purse_here", "_law_many"] spTake) (C_names : Cal P w K mg base "_law_names" 2 ["_law_purse_here", "_law_many"] spLNames) : FnOk P w K mg base CX0 3 f fd ["_law_purse_here"] spLLens := by
  refine F.ok sc_lengths (fun vs H Q E h => ?_) (fun cdv A outer s H vs Q E hr h => ?_)
  · obtain ⟨p, rfl, _⟩ := h
    rfl
  · obtain ⟨p, rfl, hP, k⟩ := h
    have HR_take := hr.mono (j := 1) (by decide)
    have HR_names := hr
    have hu := hu_of hr
    refine ⟨_, (pss_cons (ps_set (i := 1) sc_lengths.nd rfl (by walk_at "lc") (pe_ix ix_list (pe_lst (pa_cons pe_int (pa_cons pe_int (pa_cons pe_int (pa_cons pe_int (pa_cons (pe_op op_pow pe_int pe_int) pa_nil)))))) (pe_callC C_take HR_take rfl (pa_cons (pv 0) (pa_cons pe_int pa_nil))) (fun _ _ => rfl)))
      (pss_cons (ps_set (i := 2) sc_lengths.nd rfl (by walk_at "lc") pe_dnewK)
      (pss_cons (ps_for PassesOwn.never rfl (pi_list (pe_callC C_names HR_names rfl (pa_cons (pv 0) (pa_cons (pe_callC C_take HR_take rfl (pa_cons (pv 0) (pa_cons pe_int pa_nil))) pa_nil)))) (pg_name (i := 3) sc_lengths.nd rfl (by walk_at "lc"))
        (pss_one (ps_dput hu (pv 2) (pv 3) (pe_op op_mul (pe_callC C_take HR_take rfl (pa_cons (pv 0) (pa_cons (pv 1) pa_nil))) (pe_callTy call_int1 (by rfl) T.z_int bo_int (pa_cons (pe_cmpR op_gt (pe_callC C_take HR_take rfl (pa_cons (pv 0) (pa_cons pe_int pa_nil))) pe_int (nomark _)) pa_nil))) rfl)))
      (pss_cons (ps_if (PW.pt (pw_and (pt_cmpR (op_neDE hr) (pv 2) pe_dnewK (nomark _)) (pw_and1 (pt_cmpR op_eq (pe_callC C_take HR_take rfl (pa_cons (pv 0) (pa_cons pe_int pa_nil))) pe_int (nomark _)))))
        (pss_cons (ps_set (i := 3) sc_lengths.nd rfl (by walk_at "lc") (pe_ix ix_list (pe_callB (call_sortedD rfl) (by rfl) T.z_sorted bo_sorted (pa_cons (pv 2) pa_nil)) (pe_callC C_take HR_take rfl (pa_cons (pv 0) (pa_cons (pe_callB call_lenD (by rfl) T.z_len bo_len (pa_cons (pv 2) pa_nil)) pa_nil))) (fun _ _ => rfl)))
        (pss_one (ps_dput hu (pv 2) (pv 3) (pe_callB (call_min2 rfl) (by rfl) T.z_min bo_min (pa_cons (pe_op op_sub (pe_op op_pow pe_int pe_int) pe_int) (pa_cons (pe_op op_add pe_int (pe_op op_fdiv (pe_callB (call_sumV rfl) (by rfl) T.z_sum bo_sum (pa_cons (pe_bm0 PySem.F.plainAttrs_dict PySem.F.slot_dict_values PySem.F.type_dict_values mt_values (pv 2)) pa_nil)) (pe_op op_add pe_int (pe_callC C_take HR_take rfl (pa_cons (pv 0) (pa_cons pe_int pa_nil)))))) pa_nil))) rfl)))
        pss_nil)
      (pss_one (ps_ret (pv 2))))))), ?_⟩
    refine ⟨_, _, rfl, rfl, ⟨by decide, by decide, by decide⟩, (by walk_at "ln"), fun b hb => ?_⟩
    have fb : Fre H b := hb
    have KB : Kp [] H (upd H b (.lst [.int 2, .int 4, .int 9, .int 30, .int (10 ^ (60 : Int).toNat)])) := Kp.new Kp.refl fb
    have hbb : upd H b (.lst [.int 2, .int 4, .int 9, .int 30, .int (10 ^ (60 : Int).toNat)]) b = _ := upd_same
    have nbp : b ≠ p := by obtain ⟨x, y, e, _⟩ := hP; exact (ne_fre fb e).symm
    generalize upd H b (.lst [.int 2, .int 4, .int 9, .int 30, .int (10 ^ (60 : Int).toNat)]) = H1 at KB hbb
    have P1 : Purse H1 p := hP.kp KB (by simp)
    refine ⟨_, rfl, p, 5, rfl, P1, by decide, by decide, fun d1 H2 a0 a1 P2 K2 => ?_⟩
    obtain ⟨sz, e5, sz1, sz2⟩ := five_at a0 a1
    refine ⟨_, _, _, _, rfl, rfl, SqL.of (K2 b _ hbb (nm1 nbp)), e5, ?_⟩
    have K3 : Kp [p] H H2 := (KB.weak (by simp)).trans K2
    refine fun d hd => ?_
    have fd' : Fre H2 d := hd
    have fd0 : Fre H d := fre_back P2 K3 fd'
    have npd : p ≠ d := by obtain ⟨x, y, e, _⟩ := P2; exact ne_fre fd' e
    have KD : Kp [] H2 (upd H2 d (.dK [])) := Kp.new Kp.refl fd'
    have hd4 : upd H2 d (.dK []) d = some (.dK []) := upd_same
    generalize upd H2 d (.dK []) = H4 at KD hd4
    have P4 : Purse H4 p := P2.kp KD (by simp)
    refine ⟨_, rfl, _, rfl, p, 21, rfl, P4, by decide, by decide, fun d2 H5 b0 b1 P5 K5 => ?_⟩
    have hd5 := K5 d _ hd4 (nm1 npd.symm)
    refine ⟨p, d2, rfl, P5, b0, by omega, fun l ns H6 fl hl hlen nd nm P6 K6 => ?_⟩
    have hd6 := K6 d _ hd5 (nm1 npd.symm)
    have ndl : d ≠ l := ne_fre fl hd5
    have npl : p ≠ l := by obtain ⟨x, y, e, _⟩ := P5; exact ne_fre fl e
    have K7 : Kp [p] H H6 := ((K3.trans (KD.weak (by simp))).trans K5).trans K6
    have tb : sz < 10 ^ 100 := Int.lt_of_le_of_lt sz2 (by decide +kernel)
    refine ⟨_, rfl, ⟨_, SqL.of hl⟩, for_list (xs := ns.map V.str) (fun i σ H7 => ∃ (qs : List (Str × Int)) (o3 : Option V), σ = [some (.ref p), some (.int sz), some (.ref d), o3] ∧ Purse H7 p ∧ Kp [p, d] H6 H7 ∧ H7 d = some (.dK (kvOf qs)) ∧ qs.map (·.1) = ns.take i ∧ (∀ q ∈ qs, 0 ≤ q.2) ∧ (∀ q ∈ qs, q.2 < 10 ^ 60))
      ⟨[], none, rfl, P6, Kp.refl, hd6, by simp, (fun _ h => nomatch h), (fun _ h => nomatch h)⟩ (fun i σ H7 _ ⟨_, _, _, _, K, _⟩ => SqL.of (K l _ hl (by simp [npl.symm, ndl.symm]))) ?_ ?_⟩
    · rintro i x σ H7 hx ⟨qs, o3, rfl, P7, K7', h7, e7, lo7, hi7⟩
      obtain ⟨nm', en, rfl⟩ := str_at hx
      have hi : i < ns.length := (List.getElem?_eq_some_iff.mp en).1
      refine ⟨_, rfl, _, rfl, p, sz, rfl, P7, sz1, tb, fun d4 H8 c0 c1 P8 K8 => ?_⟩
      refine ⟨_, rfl, p, 9, rfl, P8, by decide, by decide, fun d5 H9 g0 g1 P9 K9 => ?_⟩
      have h9 := K9 d _ (K8 d _ h7 (nm1 npd.symm)) (nm1 npd.symm)
      refine ⟨_, _, rfl, rfl, .inr ⟨_, rfl, ?_⟩⟩
      have ql : qs.length = i := by
        have := congrArg List.length e7
        rw [List.length_map, List.length_take] at this; omega
      have z0 : 0 ≤ d4 * (if decide (d5 > 0) = true then 1 else 0) ∧ d4 * (if decide (d5 > 0) = true then 1 else 0) < 10 ^ 60 := by
        split
        · rw [Int.mul_one]; exact ⟨c0, Int.lt_of_lt_of_le c1 sz2⟩
        · rw [Int.mul_zero]; exact ⟨Int.le_refl _, ten60⟩
      refine ⟨_, _, rfl, rfl, .inr (by split <;> decide), _, rfl, _, rfl, _, _, rfl, DPut.k (k := Sum.inr nm') h9 (by rw [kvOf_len, sizeLine_eq]; omega), ?_⟩
      have nin : nm' ∉ qs.map (·.1) := by
        rw [e7]
        have nd2 : (ns.take (i + 1)).Nodup := nd.sublist (List.take_sublist _ _)
        rw [take_snoc en] at nd2
        exact fun h => (List.nodup_append.mp nd2).2.2 _ h _ (by simp) rfl
      rw [put_app nin]
      generalize d4 * (if decide (d5 > 0) = true then 1 else 0) = v at z0
      refine ⟨qs ++ [(nm', v)], _, rfl, P9.kp (M := [d]) (Kp.put Kp.refl (by simp)) (nm1 npd), ((K7'.trans (K8.weak (by simp))).trans (K9.weak (by simp))).trans (Kp.put Kp.refl (by simp)), upd_same, by rw [List.map_append, e7, take_snoc en]; rfl, fun q hq => ?_, fun q hq => ?_⟩
      · rcases List.mem_append.mp hq with z | z
        · exact lo7 q z
        · have z : q = (nm', v) := by simpa using z
          rw [z]; exact z0.1
      · rcases List.mem_append.mp hq with z | z
        · exact hi7 q z
        · have z : q = (nm', v) := by simpa using z
          rw [z]; exact z0.2
    · rintro σ H7 ⟨qs, o3, rfl, P7, K7', h7, e7, lo7, hi7⟩
      have eT : ns.take (ns.map V.str).length = ns := by rw [List.length_map, List.take_length]
      rw [eT] at e7
      have ql : qs.length = ns.length := by rw [← e7, List.length_map]
      have ok : LenOk qs := ⟨by rw [e7]; exact nd, fun q hq => nm _ (by rw [← e7]; exact List.mem_map.mpr ⟨q, hq, rfl⟩), lo7, hi7, by omega⟩
      have K8 : Kp [p] H H7 := kp_drop2 K7 fd0 K7'
      refine ⟨_, rfl, fun e he => ?_⟩
      have fe : Fre H7 e := he
      have Ke : Kp [] H7 (upd H7 e (.dK [])) := Kp.new Kp.refl fe
      have ee : upd H7 e (.dK []) e = some (.dK []) := upd_same
      generalize upd H7 e (.dK []) = H8 at Ke ee
      have h8 := Ke d _ h7 (by simp)
      have P8 : Purse H8 p := P7.kp Ke (by simp)
      have K9 : Kp [p] H H8 := K8.trans (Ke.weak (by simp))
      refine ⟨d, e, kvOf qs, rfl, rfl, .inl h8, .inl ee, _, rfl, ?_⟩
      refine ite2 (fun c => ?_) (fun c => ?_)
      · have q0 : 0 < qs.length := by
          cases qs with
          | nil => cases c
          | cons q r => simp
        refine ⟨_, rfl, p, 4, rfl, P8, by decide, by decide, fun d4 H9 c0 c1 P9 K10 => ?_⟩
        have h9 := K10 d _ h8 (nm1 npd.symm)
        refine ⟨rfl, _, rfl, ?_⟩
        refine ite2 (fun c => ?_) (fun c => ?_)
        · refine ⟨_, rfl, d, kvOf qs, qs.map (·.1), rfl, h9, kvOf_keys qs, by rw [List.length_map]; omega, fun so zs hso pz _ => ?_⟩
          have fso : Fre H9 so := hso
          have Ks : Kp [] H9 (upd H9 so (.lst (zs.map V.str))) := Kp.new Kp.refl fso
          have es : upd H9 so (.lst (zs.map V.str)) so = some (.lst (zs.map V.str)) := upd_same
          have nso : so ≠ p := by obtain ⟨x, y, e, _⟩ := P9; exact (ne_fre fso e).symm
          generalize upd H9 so (.lst (zs.map V.str)) = H10 at Ks es
          have h10 := Ks d _ h9 (by simp)
          have P10 : Purse H10 p := P9.kp Ks (by simp)
          refine ⟨_, rfl, _, rfl, _, _, rfl, h10, p, _, rfl, P10, by rw [kvOf_len]; omega, lt_big (by rw [kvOf_len]; omega), fun d6 H11 f0 f1 P11 K11 => ?_⟩
          rw [kvOf_len] at f1
          have zl : zs.length = qs.length := by rw [pz.length_eq, List.length_map]
          have jl : d6.toNat < zs.length := by omega
          have ez : zs[d6.toNat]? = some zs[d6.toNat] := List.getElem?_eq_getElem jl
          generalize zs[d6.toNat] = nm' at ez
          have mz : nm' ∈ qs.map (·.1) := pz.mem_iff.mp (List.mem_of_getElem? ez)
          have h11 := K11 d _ h10 (nm1 npd.symm)
          refine ⟨_, _, _, _, rfl, rfl, SqL.of (K11 so _ es (nm1 nso)), atI_at f0 (by rw [List.getElem?_map, ez]; rfl), ?_⟩
          refine ⟨_, _, rfl, rfl, ⟨by decide, by decide, by decide⟩, _, _, rfl, rfl, _, rfl, .inr (.inr (.inl ⟨rfl, .inl ⟨_, h11⟩⟩)), d, kvOf qs, rfl, rfl, h11, fun v hv => ?_⟩
          have fv : Fre H11 v := hv
          have kv : Kp [] H11 (upd H11 v (vvO v d)) := Kp.new Kp.refl fv
          have ev : upd H11 v (vvO v d) v = some (vvO v d) := upd_same
          generalize upd H11 v (vvO v d) = H12 at kv ev
          have h12 := kv d _ h11 (by simp)
          have P12 : Purse H12 p := P11.kp kv (by simp)
          refine ⟨v, d, kvOf qs, qs.map (·.2), rfl, ev, h12, kvOf_vals qs, _, rfl, p, 4, rfl, P12, by decide, by decide, fun d7 H13 g0 g1 P13 K13 => ?_⟩
          have h13 := K13 d _ h12 (nm1 npd.symm)
          have s0 : 0 ≤ sumI (qs.map (·.2)) / (1 + d7) := Int.ediv_nonneg (tot_nn lo7) (by omega)
          refine ⟨_, _, rfl, rfl, _, _, rfl, rfl, ⟨by omega, by omega⟩, _, _, rfl, rfl, _, _, rfl, _, rfl, _, rfl, _, _, rfl, DPut.k (k := Sum.inr nm') h13 (by rw [kvOf_len, sizeLine_eq]; omega), ?_⟩
          rw [put_set mz]
          have t1 : (10 : Int) < 10 ^ 60 := by decide +kernel
          have tt : (10 : Int) ^ (60 : Int).toNat = 10 ^ 60 := rfl
          rw [tt]
          have z0 : 0 ≤ (if 1 + sumI (qs.map (·.2)) / (1 + d7) < 10 ^ 60 - 1 then 1 + sumI (qs.map (·.2)) / (1 + d7) else 10 ^ 60 - 1) ∧ (if 1 + sumI (qs.map (·.2)) / (1 + d7) < 10 ^ 60 - 1 then 1 + sumI (qs.map (·.2)) / (1 + d7) else 10 ^ 60 - 1) < 10 ^ 60 := by
            generalize sumI (qs.map (·.2)) / (1 + d7) = z at s0
            generalize (10 : Int) ^ 60 = m at t1
            split <;> omega
          generalize (if 1 + sumI (qs.map (·.2)) / (1 + d7) < 10 ^ 60 - 1 then 1 + sumI (qs.map (·.2)) / (1 + d7) else 10 ^ 60 - 1) = nv at z0
          have KK : Kp [p] H H13 := ((((K9.trans K10).trans (Ks.weak (by simp))).trans K11).trans (kv.weak (by simp))).trans K13
          exact ⟨_, rfl, k d _ _ fd0 upd_same (ok.set z0.1 z0.2) (P13.kp (M := [d]) (Kp.put Kp.refl (by simp)) (nm1 npd)) (kp_drop KK fd0 (Kp.put Kp.refl (by simp)))⟩
        · exact ⟨_, rfl, k d _ _ fd0 h9 ok P9 (K9.trans K10)⟩
      · exact ⟨_, rfl, k d _ _ fd0 h8 ok P8 K9⟩
theorem val_of {k : Key} {v : V} : ∀ {kvs : List (Key × V)}, (kvs.map (·.1)).Nodup → (k, v) ∈ kvs → valV kvs k = some v
  | y :: r, nd, h => by
    obtain ⟨n1, n2⟩ := List.nodup_cons.mp nd
    show ((y :: r).find? fun kv => decide (kv.1 = k)).map (·.2) = some v
    rw [List.find?_cons]
    rcases List.mem_cons.mp h with z | z
    · subst z; simp
    · have : y.1 ≠ k := fun e => n1 (List.mem_map.mpr ⟨_, z, e.symm⟩)
      rw [decide_eq_false this]
      exact val_of n2 z
theorem LenOk.val {ps : List (Str × Int)} (h : LenOk ps) {p : Str × Int} (hp : p ∈ ps) : valV (kvOf ps) (Sum.inr p.1) = some (.int p.2) := by
  refine val_of ?_ (by unfold kvOf; exact List.mem_map.mpr ⟨p, hp, rfl⟩)
  rw [kvOf_keys]
  exact nd_map (fun a b e => Sum.inr.inj e) h.nd
theorem brk_ge (b : Int) (ps : List (Str × Int)) : (tot ps + b - 1) / b ≤ (brkT b ps).1 ∧ ∀ p ∈ ps, p.2 ≤ (brkT b ps).1 := turnsB_ge ps _
end
end My
set_option Elab.async false
set_option linter.all false
set_option maxRecDepth 100000
set_option maxHeartbeats 4000000
namespace My
open PySem L2
def stq (t : Int) (q : Pc) : Int := q.1 * t + q.2.2.1 - 1
def enq (t : Int) (q : Pc) : Int := q.1 * t + q.2.2.2
structure PcOk (t d e : Int) (q : Pc) : Prop where
  b0 : 0 ≤ q.1
  f1 : 1 ≤ q.2.2.1
  fl : q.2.2.1 ≤ q.2.2.2
  lt : q.2.2.2 ≤ t
  st : d ≤ stq t q
  en : enq t q ≤ e
def PcR (t : Int) (q r : Pc) : Prop := enq t q ≤ stq t r ∧ (q.2.1 = r.2.1 → r.2.2.2 < q.2.2.1)
theorem line_at {d t : Int} (ht : 1 ≤ t) : d / t * t + d % t = d ∧ 0 ≤ d % t ∧ d % t < t := by
  have h1 := Int.mul_ediv_add_emod d t
  have h2 := Int.emod_nonneg d (show t ≠ 0 by omega)
  have h3 := Int.emod_lt_of_pos d (show 0 < t by omega)
  exact ⟨by rw [Int.mul_comm]; exact h1, h2, h3⟩
theorem pcJob_ok {n : Str} {l t d : Int} (hl : 0 < l) (hlt : l ≤ t) (hd : 0 ≤ d) : (∀ q ∈ pcJob n l t d, q.2.1 = n ∧ PcOk t d (d + l) q) ∧ (pcJob n l t d).Pairwise (PcR t) := by
  have ht : 1 ≤ t := by omega
  obtain ⟨e1, e2, e3⟩ := line_at (d := d) ht
  have e4 : 0 ≤ d / t := Int.ediv_nonneg hd (by omega)
  unfold pcJob
  generalize d / t = b at *
  generalize d % t = m at *
  split
  · rename_i c
    refine ⟨fun q hq => ?_, List.pairwise_singleton _ _⟩
    have : q = (b, n, m + 1, m + 1 + l - 1) := by simpa using hq
    subst this
    exact ⟨rfl, e4, by show 1 ≤ m + 1; omega, by show m + 1 ≤ m + 1 + l - 1; omega, by show m + 1 + l - 1 ≤ t; omega, by show d ≤ b * t + (m + 1) - 1; omega, by show b * t + (m + 1 + l - 1) ≤ d + l; omega⟩
  · rename_i c
    have e5 : (b + 1) * t = b * t + t := by rw [Int.add_mul, Int.one_mul]
    refine ⟨fun q hq => ?_, ?_⟩
    · have : q = (b, n, m + 1, t) ∨ q = (b + 1, n, 1, m + 1 + l - 1 - t) := by simpa using hq
      rcases this with z | z
      · subst z
        exact ⟨rfl, e4, by show 1 ≤ m + 1; omega, by show m + 1 ≤ t; omega, Int.le_refl _, by show d ≤ b * t + (m + 1) - 1; omega, by show b * t + t ≤ d + l; omega⟩
      · subst z
        exact ⟨rfl, by show 0 ≤ b + 1; omega, Int.le_refl _, by show 1 ≤ m + 1 + l - 1 - t; omega, by show m + 1 + l - 1 - t ≤ t; omega, by show d ≤ (b + 1) * t + 1 - 1; omega, by show (b + 1) * t + (m + 1 + l - 1 - t) ≤ d + l; omega⟩
    · refine List.pairwise_pair.mpr ⟨by show b * t + t ≤ (b + 1) * t + 1 - 1; omega, fun _ => by show m + 1 + l - 1 - t < m + 1; omega⟩
theorem pcAll_names (t : Int) : ∀ (ps : List (Str × Int)) (d : Int), (∀ p ∈ ps, p.2 ≤ t) → (∀ p ∈ ps, 0 ≤ p.2) → 0 ≤ d → ∀ q ∈ pcAll t d ps, q.2.1 ∈ ps.map (·.1)
  | [], _, _, _, _, q, hq => by simp [pcAll] at hq
  | p :: ps, d, h1, h2, hd, q, hq => by
    rw [pcAll] at hq
    have p0 := h2 p List.mem_cons_self
    rcases List.mem_append.mp hq with z | z
    · split at z
      · rename_i c
        rw [((pcJob_ok c (h1 p List.mem_cons_self) hd).1 q z).1]; simp
      · exact nomatch z
    · have := pcAll_names t ps (d + p.2) (fun q hq => h1 q (List.mem_cons_of_mem _ hq)) (fun q hq => h2 q (List.mem_cons_of_mem _ hq)) (by omega) q z
      rw [List.map_cons]; exact List.mem_cons_of_mem _ this
theorem pcAll_ok (t : Int) : ∀ (ps : List (Str × Int)) (d : Int), (∀ p ∈ ps, p.2 ≤ t) → (∀ p ∈ ps, 0 ≤ p.2) → 0 ≤ d → (ps.map (·.1)).Nodup → (∀ q ∈ pcAll t d ps, PcOk t d (d + tot ps) q) ∧ (pcAll t d ps).Pairwise (PcR t)
  | [], _, _, _, _, _ => ⟨fun q hq => by simp [pcAll] at hq, List.Pairwise.nil⟩
  | p :: ps, d, h1, h2, hd, nd => by
    have p0 := h2 p List.mem_cons_self
    have h1' : ∀ q ∈ ps, q.2 ≤ t := fun q hq => h1 q (List.mem_cons_of_mem _ hq)
    have h2' : ∀ q ∈ ps, 0 ≤ q.2 := fun q hq => h2 q (List.mem_cons_of_mem _ hq)
    rw [List.map_cons] at nd
    obtain ⟨n1, n2⟩ := List.nodup_cons.mp nd
    obtain ⟨i1, i2⟩ := pcAll_ok t ps (d + p.2) h1' h2' (by omega) n2
    have tn := tot_nn h2'
    have nms := pcAll_names t ps (d + p.2) h1' h2' (by omega)
    rw [pcAll, tot_cons]
    by_cases c : p.2 > 0
    · rw [if_pos c]
      obtain ⟨j1, j2⟩ := pcJob_ok (n := p.1) c (h1 p List.mem_cons_self) hd
      refine ⟨fun q hq => ?_, List.pairwise_append.mpr ⟨j2, i2, fun q hq r hr => ⟨?_, fun e => ?_⟩⟩⟩
      · rcases List.mem_append.mp hq with z | z
        · have := (j1 q z).2
          exact { this with en := by have := this.en; omega }
        · have := i1 q z
          exact { this with st := by have := this.st; omega, en := by have := this.en; omega }
      · have a := (j1 q hq).2.en
        have b := (i1 r hr).st
        omega
      · exact absurd (nms r hr) (by rw [← e, (j1 q hq).1]; exact n1)
    · rw [if_neg c, List.nil_append]
      refine ⟨fun q hq => ?_, i2⟩
      have := i1 q hq
      exact { this with st := by have := this.st; omega, en := by have := this.en; omega }
def used (x : Str) : List Pc → Int
  | [] => 0
  | q :: qs => (if q.2.1 = x then q.2.2.2 - q.2.2.1 + 1 else 0) + used x qs
def cnt (x : Str) : List Pc → Nat
  | [] => 0
  | q :: qs => (if q.2.1 = x then 1 else 0) + cnt x qs
theorem used_app (x : Str) : ∀ a b : List Pc, used x (a ++ b) = used x a + used x b
  | [], b => by simp [used]
  | q :: a, b => by rw [List.cons_append, used, used, used_app x a b]; omega
theorem cnt_app (x : Str) : ∀ a b : List Pc, cnt x (a ++ b) = cnt x a + cnt x b
  | [], b => by simp [cnt]
  | q :: a, b => by rw [List.cons_append, cnt, cnt, cnt_app x a b]; omega
theorem used_other {x : Str} : ∀ {qs : List Pc}, (∀ q ∈ qs, q.2.1 ≠ x) → used x qs = 0 ∧ cnt x qs = 0
  | [], _ => ⟨rfl, rfl⟩
  | q :: qs, h => by
    obtain ⟨a, b⟩ := used_other (qs := qs) fun r hr => h r (List.mem_cons_of_mem _ hr)
    rw [used, cnt, if_neg (h q List.mem_cons_self), if_neg (h q List.mem_cons_self), a, b]
    exact ⟨rfl, rfl⟩
theorem pcJob_used (n : Str) (l t d : Int) : used n (pcJob n l t d) = l ∧ cnt n (pcJob n l t d) ≤ 2 := by
  unfold pcJob
  split
  · simp only [used, cnt, if_true]; constructor <;> omega
  · simp only [used, cnt, if_true]; constructor <;> omega
theorem pcAll_used (t : Int) : ∀ (ps : List (Str × Int)) (d : Int), (∀ p ∈ ps, p.2 ≤ t) → (∀ p ∈ ps, 0 ≤ p.2) → 0 ≤ d → (ps.map (·.1)).Nodup → (∀ p ∈ ps, used p.1 (pcAll t d ps) = p.2) ∧ ∀ x, cnt x (pcAll t d ps) ≤ 2
  | [], _, _, _, _, _ => ⟨fun _ h => (nomatch h), fun _ => Nat.zero_le _⟩
  | p :: ps, d, h1, h2, hd, nd => by
    have p0 := h2 p List.mem_cons_self
    have h1' : ∀ q ∈ ps, q.2 ≤ t := fun q hq => h1 q (List.mem_cons_of_mem _ hq)
    have h2' : ∀ q ∈ ps, 0 ≤ q.2 := fun q hq => h2 q (List.mem_cons_of_mem _ hq)
    rw [List.map_cons] at nd
    obtain ⟨n1, n2⟩ := List.nodup_cons.mp nd
    obtain ⟨i1, i2⟩ := pcAll_used t ps (d + p.2) h1' h2' (by omega) n2
    have nms := pcAll_names t ps (d + p.2) h1' h2' (by omega)
    have rest : used p.1 (pcAll t (d + p.2) ps) = 0 ∧ cnt p.1 (pcAll t (d + p.2) ps) = 0 := used_other fun q hq e => n1 (by rw [← e]; exact nms q hq)
    obtain ⟨u, c2⟩ := pcJob_used p.1 p.2 t d
    have head : ∀ x, x ≠ p.1 → used x (if p.2 > 0 then pcJob p.1 p.2 t d else []) = 0 ∧ cnt x (if p.2 > 0 then pcJob p.1 p.2 t d else []) = 0 := fun x hx => used_other fun q hq e => by
      split at hq
      · rename_i c
        exact hx (by rw [← e, ((pcJob_ok c (h1 p List.mem_cons_self) hd).1 q hq).1])
      · exact nomatch hq
    refine ⟨fun q hq => ?_, fun x => ?_⟩
    · rw [pcAll, used_app]
      rcases List.mem_cons.mp hq with z | z
      · subst z
        rw [rest.1]
        split
        · rw [u]; omega
        · rename_i c
          show (0 : Int) + 0 = q.2
          omega
      · have nx : q.1 ≠ p.1 := fun e => n1 (by rw [← e]; exact List.mem_map.mpr ⟨q, z, rfl⟩)
        rw [(head q.1 nx).1, i1 q z]; omega
    · rw [pcAll, cnt_app]
      by_cases e : x = p.1
      · subst e
        rw [rest.2]
        split
        · omega
        · exact Nat.zero_le _
      · rw [(head x e).2]
        have := i2 x
        omega
structure Fits (b t : Int) (ps : List (Str × Int)) (qs : List Pc) : Prop where
  nm : ∀ q ∈ qs, q.2.1 ∈ ps.map (·.1)
  b0 : ∀ q ∈ qs, 0 ≤ q.1
  b1 : ∀ q ∈ qs, q.1 < b
  f1 : ∀ q ∈ qs, 1 ≤ q.2.2.1
  fl : ∀ q ∈ qs, q.2.2.1 ≤ q.2.2.2
  lt : ∀ q ∈ qs, q.2.2.2 ≤ t
  us : ∀ p ∈ ps, used p.1 qs = p.2
  ct : ∀ x, cnt x qs ≤ 2
  pw : qs.Pairwise (PcR t)
  len : qs.length ≤ 40
theorem ceil_mul {a b : Int} (hb : 1 ≤ b) : a ≤ b * ((a + b - 1) / b) := by
  have h1 := Int.lt_mul_ediv_self_add (x := a + b - 1) (k := b) (by omega)
  omega
theorem fits_all {b : Int} {ps : List (Str × Int)} (ok : LenOk ps) (hb : 1 ≤ b) : Fits b (brkT b ps).1 ps (pcAll (brkT b ps).1 0 ps) := by
  have ge := brk_ge b ps
  obtain ⟨k1, k2⟩ := pcAll_ok (brkT b ps).1 ps 0 ge.2 ok.lo (Int.le_refl _) ok.nd
  obtain ⟨u1, u2⟩ := pcAll_used (brkT b ps).1 ps 0 ge.2 ok.lo (Int.le_refl _) ok.nd
  have ln := pcAll_len (brkT b ps).1 ps 0
  have l20 := ok.len
  have cm : tot ps ≤ b * (brkT b ps).1 := Int.le_trans (ceil_mul hb) (Int.mul_le_mul_of_nonneg_left ge.1 (by omega))
  refine ⟨pcAll_names _ ps 0 ge.2 ok.lo (Int.le_refl _), fun q hq => (k1 q hq).b0, fun q hq => ?_, fun q hq => (k1 q hq).f1, fun q hq => (k1 q hq).fl, fun q hq => (k1 q hq).lt, u1, u2, k2, by omega⟩
  have h := k1 q hq
  have e := h.en
  have f := h.f1
  have g := h.fl
  have l := h.lt
  unfold enq at e
  generalize (brkT b ps).1 = t at *
  have h5 : t * q.1 < t * b := by
    have a1 : t * q.1 = q.1 * t := Int.mul_comm _ _
    have a2 : t * b = b * t := Int.mul_comm _ _
    omega
  exact Int.lt_of_mul_lt_mul_left h5 (by omega)
def pcAt (pl : Int) (q : Pc) : V := if pl = 0 then .int q.1 else .str q.2.1
def ApartP (pl : Int) (qs : List Pc) : Prop := ∀ (i j : Nat) (q r : Pc), i < j → qs[i]? = some q → qs[j]? = some r → pcAt pl q = pcAt pl r → q.2.2.1 ≤ r.2.2.2 → r.2.2.1 ≤ q.2.2.2 → False
theorem pw_at {α : Type} {R : α → α → Prop} {l : List α} (h : l.Pairwise R) {i j : Nat} {x y : α} (hij : i < j) (hi : l[i]? = some x) (hj : l[j]? = some y) : R x y := by
  obtain ⟨a, e1⟩ := List.getElem?_eq_some_iff.mp hi
  obtain ⟨b, e2⟩ := List.getElem?_eq_some_iff.mp hj
  have := List.pairwise_iff_getElem.mp h i j a b hij
  rw [e1, e2] at this; exact this
theorem Fits.apart {b t : Int} {ps : List (Str × Int)} {qs : List Pc} (h : Fits b t ps qs) {pl : Int} (hp : pl = 0 ∨ pl = 1) : ApartP pl qs := fun i j q r hij hi hj e h1 h2 => by
  obtain ⟨l, m⟩ := pw_at h.pw hij hi hj
  rcases hp with rfl | rfl
  · have e : q.1 = r.1 := V.int.inj e
    unfold enq stq at l
    rw [e] at l; omega
  · have e : q.2.1 = r.2.1 := V.str.inj e
    have := m e; omega
theorem pcAt_at {pl : Int} (hp : pl = 0 ∨ pl = 1) (q : Pc) : atI (pcV q) pl = some (pcAt pl q) := by
  rcases hp with rfl | rfl <;> rfl
theorem pcAt_scal {pl : Int} (hp : pl = 0 ∨ pl = 1) (q r : Pc) : scal (pcAt pl q) (pcAt pl r) = true := by
  rcases hp with rfl | rfl <;> rfl
theorem ref_at {as : List Addr} {i : Nat} {v : V} (h : (as.map V.ref)[i]? = some v) : ∃ a, as[i]? = some a ∧ v = .ref a := by
  rw [List.getElem?_map] at h
  obtain ⟨n, e, r⟩ := Option.map_eq_some_iff.mp h
  exact ⟨n, e, r.symm⟩
theorem PcsAt.both {H : Hp} {l : Addr} {as : List Addr} {qs : List Pc} (h : PcsAt H l as qs) {i : Nat} {a : Addr} (ha : as[i]? = some a) : ∃ q, qs[i]? = some q ∧ H a = some (.tup (pcV q)) := by
  have hi := (List.getElem?_eq_some_iff.mp ha).1
  have hq : i < qs.length := by rw [← h.len]; exact hi
  exact ⟨_, List.getElem?_eq_getElem hq, h.row i a _ ha (List.getElem?_eq_getElem hq)⟩
section
variable {P : Program} {w : World} {K : PySem.W.Frag} {mg : Str → Option Value} {base : Heap}
def spArePcs : Sp := fun vs H Q _ => ∃ (l : Addr) (as : List Addr) (qs : List Pc), vs = [.ref l] ∧ PcsAt H l as qs ∧ Q (.bl true) H
abbrev s_are_pieces : Stmt := top 26
theorem sc_are_pieces : FnScope ["_law_found", "_law_piece"] ["_law_found"] (defScope s_are_pieces) := ⟨rfl, rfl, rfl, by decide +kernel, rfl, by decide +kernel, by decide +kernel⟩
theorem ok_are_pieces {f : Addr} {fd : FuncData} (F : Fun K "_law_are_pieces" "_law_are_pieces" s_are_pieces f fd) (T : Txt K mg) (C_whole : Cal P w K mg base "_law_whole" 1 ["_law_found"] spWhole) : FnOk P w K mg base CX0 2 f fd ["_law_found"] spArePcs := by
  refine F.ok sc_are_pieces (fun vs H Q E h => ?_) (fun cdv A outer s H vs Q E hr h => ?_)
  · obtain ⟨l, as, qs, rfl, _⟩ := h
    rfl
  · obtain ⟨l, as, qs, rfl, R, k⟩ := h
    have HR_whole := hr
    refine ⟨_, (pss_cons (ps_if (pt_not (pt_val (pe_callB call_isT (by rfl) T.z_isinstance bo_isinstance (pa_cons (pv 0) (pa_cons (pe_bltn (by rfl) T.z_list bo_list (v := .ty "list") rfl) pa_nil)))))
        (pss_one (ps_ret pe_bl))
        pss_nil)
      (pss_cons (ps_for PassesOwn.never rfl (pi_list (pv 0)) (pg_name (i := 1) sc_are_pieces.nd rfl (by walk_at "lc"))
        (pss_cons (ps_if (PW.pt (pw_or (pt_not (pt_val (pe_callB call_isT (by rfl) T.z_isinstance bo_isinstance (pa_cons (pv 1) (pa_cons (pe_bltn (by rfl) T.z_tuple bo_tuple (v := .ty "tuple") rfl) pa_nil))))) (pw_or (pt_cmpR op_ne (pe_callB call_len_seq (by rfl) T.z_len bo_len (pa_cons (pv 1) pa_nil)) pe_int (nomark _)) (pw_or1 (pt_not (pt_val (pe_callB call_isT (by rfl) T.z_isinstance bo_isinstance (pa_cons (pe_ix ix_tup (pv 1) pe_int (fun _ _ => rfl)) (pa_cons (pe_bltn (by rfl) T.z_str bo_str (v := .ty "str") rfl) pa_nil)))))))))
          (pss_one (ps_ret pe_bl))
          pss_nil)
        (pss_one (ps_if (PW.pt (pw_or (pt_not (pt_val (pe_callC C_whole HR_whole rfl (pa_cons (pe_ix ix_tup (pv 1) pe_int (fun _ _ => rfl)) pa_nil)))) (pw_or (pt_not (pt_val (pe_callC C_whole HR_whole rfl (pa_cons (pe_ix ix_tup (pv 1) pe_int (fun _ _ => rfl)) pa_nil)))) (pw_or1 (pt_not (pt_val (pe_callC C_whole HR_whole rfl (pa_cons (pe_ix ix_tup (pv 1) pe_int (fun _ _ => rfl)) pa_nil))))))))
          (pss_one (ps_ret pe_bl))
          pss_nil))))
      (pss_one (ps_ret pe_bl)))), ?_⟩
    refine ⟨_, rfl, _, _, _, _, rfl, TyOf.lst R.top, kit_same, _, rfl, iteF ?_⟩
    refine ⟨_, rfl, _, rfl, ⟨_, SqL.of R.top⟩, for_list (xs := as.map V.ref) (fun i σ H2 => (∃ o1, σ = [some (.ref l), o1]) ∧ H2 = H) ⟨⟨_, rfl⟩, rfl⟩ (fun i σ H2 _ ⟨_, e⟩ => by rw [e]; exact SqL.of R.top) ?_ ?_⟩
    · rintro i v σ H2 hv ⟨⟨o1, rfl⟩, rfl⟩
      obtain ⟨a, ea, rfl⟩ := ref_at hv
      obtain ⟨q, eq, hq⟩ := R.both ea
      refine ⟨_, rfl, _, _, _, _, rfl, TyOf.tup hq, kit_same, _, rfl, iteF ?_⟩
      refine ⟨_, rfl, _, _, rfl, .inr (SqT.of hq), rfl, _, rfl, iteF ?_⟩
      refine ⟨_, rfl, _, _, _, _, rfl, rfl, SqT.of hq, rfl, _, _, _, _, rfl, TyOf.str _, kit_same, _, rfl, iteF ?_⟩
      refine ⟨_, rfl, _, _, _, _, rfl, rfl, SqT.of hq, rfl, _, rfl, _, rfl, iteF ?_⟩
      refine ⟨_, rfl, _, _, _, _, rfl, rfl, SqT.of hq, rfl, _, rfl, _, rfl, iteF ?_⟩
      refine ⟨_, rfl, _, _, _, _, rfl, rfl, SqT.of hq, rfl, _, rfl, _, rfl, iteF ?_⟩
      exact ⟨⟨_, rfl⟩, rfl⟩
    · rintro σ H2 ⟨_, rfl⟩
      exact k
def spApart : Sp := fun vs H Q _ => ∃ (l : Addr) (pl : Int) (as : List Addr) (qs : List Pc), vs = [.ref l, .int pl] ∧ (pl = 0 ∨ pl = 1) ∧ PcsAt H l as qs ∧ qs.length ≤ 40 ∧ ApartP pl qs ∧ ∀ H', Kp [] H H' → Q (.bl true) H'
abbrev s_apart : Stmt := top 27
theorem sc_apart : FnScope ["_law_pieces", "_law_place", "_law_k", "_law_other"] ["_law_pieces", "_law_place"] (defScope s_apart) := ⟨rfl, rfl, rfl, by decide +kernel, rfl, by decide +kernel, by decide +kernel⟩
theorem ok_apart {f : Addr} {fd : FuncData} (F : Fun K "_law_apart" "_law_apart" s_apart f fd) (T : Txt K mg) : FnOk P w K mg base CX0 1 f fd ["_law_pieces", "_law_place"] spApart := by
  refine F.ok sc_apart (fun vs H Q E h => ?_) (fun cdv A outer s H vs Q E hr h => ?_)
  · obtain ⟨l, pl, as, qs, rfl, _⟩ := h
    rfl
  · obtain ⟨l, pl, as, qs, rfl, hp, R, q40, ap, k⟩ := h
    refine ⟨_, (pss_cons (ps_for PassesOwn.never rfl (pi_range1 rfl T.z_range (pa_cons (pe_callB call_len_seq (by rfl) T.z_len bo_len (pa_cons (pv 0) pa_nil)) pa_nil)) (pg_name (i := 2) sc_apart.nd rfl (by walk_at "lc"))
        (pss_one (ps_for PassesOwn.never rfl (pi_list (pe_slice sl_list (pv 0) po_none (po_some (pv 2)))) (pg_name (i := 3) sc_apart.nd rfl (by walk_at "lc"))
          (pss_one (ps_if (PW.pt (pw_and (pt_cmpR op_eq (pe_ix ix_tup (pv 3) (pv 1) (fun _ _ => rfl)) (pe_ix ix_tup (pe_ix ix_list (pv 0) (pv 2) (fun _ _ => rfl)) (pv 1) (fun _ _ => rfl)) (nomark _)) (pw_and (pt_cmpR op_le (pe_ix ix_tup (pv 3) pe_int (fun _ _ => rfl)) (pe_ix ix_tup (pe_ix ix_list (pv 0) (pv 2) (fun _ _ => rfl)) pe_int (fun _ _ => rfl)) (nomark _)) (pw_and1 (pt_cmpR op_le (pe_ix ix_tup (pe_ix ix_list (pv 0) (pv 2) (fun _ _ => rfl)) pe_int (fun _ _ => rfl)) (pe_ix ix_tup (pv 3) pe_int (fun _ _ => rfl)) (nomark _))))))
            (pss_one (ps_ret pe_bl))
            pss_nil)))))
      (pss_one (ps_ret pe_bl))), ?_⟩
    have la := R.len
    refine ⟨_, rfl, _, _, rfl, .inl (SqL.of R.top), _, rfl, by rw [List.length_map]; omega, by rw [List.length_map]; omega, ?_⟩
    refine for_range (lo := 0) (fun j σ H2 => (∃ o2 o3, σ = [some (.ref l), some (.int pl), o2, o3]) ∧ Kp [] H H2) ⟨⟨_, _, rfl⟩, Kp.refl⟩ ?_ ?_
    · rintro j σ H2 hj ⟨⟨o2, o3, rfl⟩, k2⟩
      have hj : j < as.length := by
        rw [List.length_map] at hj; omega
      have R2 := R.kp k2 (by simp) (fun _ _ => by simp)
      refine ⟨_, rfl, _, rfl, _, rfl, _, _, rfl, SqL.of R2.top, fun c hc => ?_⟩
      have fc : Fre H2 c := hc
      rw [show (0 + (j : Int)) = (j : Int) by omega, cut_to _ (by omega), show ((j : Int)).toNat = j by omega]
      have kc : Kp [] H2 (upd H2 c (.lst ((as.map V.ref).take j))) := Kp.new Kp.refl fc
      have ec : upd H2 c (.lst ((as.map V.ref).take j)) c = some (.lst ((as.map V.ref).take j)) := upd_same
      generalize upd H2 c (.lst ((as.map V.ref).take j)) = H3 at kc ec
      have R3 := R2.kp kc (by simp) (fun _ _ => by simp)
      have ej : as[j]? = some as[j] := List.getElem?_eq_getElem hj
      generalize as[j] = aj at ej
      obtain ⟨r, er, hr'⟩ := R3.both ej
      refine ⟨_, rfl, ⟨_, SqL.of ec⟩, for_list (xs := (as.map V.ref).take j) (fun i σ H4 => (∃ o3, σ = [some (.ref l), some (.int pl), some (.int (j : Int)), o3]) ∧ H4 = H3) ⟨⟨_, rfl⟩, rfl⟩ (fun i σ H4 _ ⟨_, e⟩ => by rw [e]; exact SqL.of ec) ?_ ?_⟩
      · rintro i v σ H4 hv ⟨⟨o3, rfl⟩, rfl⟩
        have hi : i < j := by
          have := (List.getElem?_eq_some_iff.mp hv).1
          rw [List.length_take] at this; omega
        rw [List.getElem?_take_of_lt hi] at hv
        obtain ⟨a, ea, rfl⟩ := ref_at hv
        obtain ⟨q, eq, hq⟩ := R3.both ea
        have aj' : atI (as.map V.ref) (j : Int) = some (.ref aj) := atI_at (by omega) (by rw [show ((j : Int)).toNat = j by omega, List.getElem?_map, ej]; rfl)
        refine ⟨_, rfl, _, rfl, _, _, _, _, rfl, rfl, SqT.of hq, pcAt_at hp q, _, rfl, _, rfl, _, _, _, _, rfl, rfl, SqL.of R3.top, aj', _, rfl, _, _, _, _, rfl, rfl, SqT.of hr', pcAt_at hp r, pcAt_scal hp q r, _, rfl, ?_⟩
        refine ite2 (fun c1 => ?_) (fun c1 => ⟨⟨_, rfl⟩, rfl⟩)
        refine ⟨_, rfl, _, _, _, _, rfl, rfl, SqT.of hq, rfl, _, rfl, _, rfl, _, _, _, _, rfl, rfl, SqL.of R3.top, aj', _, _, _, _, rfl, rfl, SqT.of hr', rfl, _, _, rfl, rfl, _, rfl, ?_⟩
        refine ite2 (fun c2 => ?_) (fun c2 => ⟨⟨_, rfl⟩, rfl⟩)
        refine ⟨_, rfl, _, rfl, _, _, _, _, rfl, rfl, SqL.of R3.top, aj', _, _, _, _, rfl, rfl, SqT.of hr', rfl, _, rfl, _, _, _, _, rfl, rfl, SqT.of hq, rfl, _, _, rfl, rfl, _, rfl, ?_⟩
        refine ite2 (fun c3 => ?_) (fun c3 => ⟨⟨_, rfl⟩, rfl⟩)
        exact (ap i j q r hi eq er (of_decide_eq_true c1) (of_decide_eq_true c2) (of_decide_eq_true c3)).elim
      · rintro σ H4 ⟨⟨o3, rfl⟩, rfl⟩
        exact ⟨⟨_, _, rfl⟩, k2.trans kc⟩
    · rintro σ H2 ⟨⟨o2, o3, rfl⟩, k2⟩
      exact k H2 k2
end
end My
set_option Elab.async false
set_option linter.all false
set_option maxRecDepth 100000
set_option maxHeartbeats 4000000
namespace My
open PySem L2
theorem kp_two {H H0 H2 : Hp} {p d : Addr} (a : Kp [] H H0) (f : Fre H p) (g : Fre H d) (b : Kp [p, d] H0 H2) : Kp [] H H2 := fun c o h n => b c o (a c o h n) (by
  have n1 := ne_fre f h
  have n2 := ne_fre g h
  simp [n1, n2])
def lft (ps : List (Str × Int)) (qs : List Pc) : List (Str × Int) := ps.map fun p => (p.1, p.2 - used p.1 qs)
theorem lft_keys (ps : List (Str × Int)) (qs : List Pc) : (lft ps qs).map (·.1) = ps.map (·.1) := by unfold lft; rw [List.map_map]; rfl
theorem lft_nil (ps : List (Str × Int)) : lft ps [] = ps := by
  unfold lft
  rw [List.map_congr_left (g := id) fun p _ => by show (p.1, p.2 - 0) = p; rw [Int.sub_zero], List.map_id]
theorem val_kv {ps : List (Str × Int)} (nd : (ps.map (·.1)).Nodup) {p : Str × Int} (hp : p ∈ ps) : valV (kvOf ps) (Sum.inr p.1) = some (.int p.2) := by
  refine val_of ?_ (by unfold kvOf; exact List.mem_map.mpr ⟨p, hp, rfl⟩)
  rw [kvOf_keys]
  exact nd_map (fun a b e => Sum.inr.inj e) nd
theorem val_no {ps : List (Str × Int)} {x : Str} (h : x ∉ ps.map (·.1)) : valV (kvOf ps) (Sum.inr x) = none := by
  unfold valV
  rw [List.find?_eq_none.mpr]
  · rfl
  · intro y hy e
    unfold kvOf at hy
    obtain ⟨q, hq, rfl⟩ := List.mem_map.mp hy
    exact h (List.mem_map.mpr ⟨q, hq, Sum.inr.inj (of_decide_eq_true e)⟩)
theorem lft_step {ps : List (Str × Int)} (nd : (ps.map (·.1)).Nodup) {p : Str × Int} (hp : p ∈ ps) {qs : List Pc} {q : Pc} (e : q.2.1 = p.1) : setP (lft ps qs) p.1 (p.2 - used p.1 qs - (q.2.2.2 - q.2.2.1 + 1)) = lft ps (qs ++ [q]) := by
  unfold setP lft
  rw [List.map_map]
  refine List.map_congr_left fun r hr => ?_
  show (if r.1 = p.1 then (r.1, p.2 - used p.1 qs - (q.2.2.2 - q.2.2.1 + 1)) else (r.1, r.2 - used r.1 qs)) = (r.1, r.2 - used r.1 (qs ++ [q]))
  rw [used_app]
  by_cases c : r.1 = p.1
  · have h1 := val_kv nd hr
    rw [c, val_kv nd hp] at h1
    have h2 : p.2 = r.2 := V.int.inj (Option.some.inj h1)
    rw [if_pos c, c, h2]
    simp only [used, if_pos e]
    congr 1; omega
  · rw [if_neg c]
    simp only [used, if_neg (fun z : q.2.1 = r.1 => c (by rw [← z, e]))]
    congr 1; omega
structure MsOk (ms : List (Str × Int)) (qs : List Pc) : Prop where
  nd : (ms.map (·.1)).Nodup
  val : ∀ p ∈ ms, p.2 = cnt p.1 qs
  all : ∀ x, x ∉ ms.map (·.1) → cnt x qs = 0
  len : ms.length ≤ qs.length
theorem MsOk.get {ms : List (Str × Int)} {qs : List Pc} (h : MsOk ms qs) (x : Str) : (valV (kvOf ms) (Sum.inr x)).getD (.int 0) = .int (cnt x qs) := by
  by_cases c : x ∈ ms.map (·.1)
  · obtain ⟨p, hp, e⟩ := List.mem_map.mp c
    rw [← e, val_kv h.nd hp, h.val p hp]; rfl
  · rw [val_no c, h.all x c]; rfl
theorem cnt_snoc (x : Str) (qs : List Pc) (q : Pc) : cnt x (qs ++ [q]) = cnt x qs + if q.2.1 = x then 1 else 0 := by
  rw [cnt_app]; simp [cnt]
theorem MsOk.put {ms : List (Str × Int)} {qs : List Pc} (h : MsOk ms qs) (q : Pc) : ∃ ms', putK (kvOf ms) (Sum.inr q.2.1) (.int ((cnt q.2.1 qs : Int) + 1)) = kvOf ms' ∧ MsOk ms' (qs ++ [q]) := by
  have hl := h.len
  by_cases c : q.2.1 ∈ ms.map (·.1)
  · refine ⟨_, put_set c, by rw [setP_keys]; exact h.nd, fun p hp => ?_, fun x hx => ?_, by unfold setP; rw [List.length_map, List.length_append]; omega⟩
    · obtain ⟨r, hr, e⟩ := List.mem_map.mp hp
      rw [cnt_snoc]
      by_cases z : r.1 = q.2.1
      · rw [if_pos z] at e
        subst e
        show (cnt q.2.1 qs : Int) + 1 = _
        rw [if_pos z.symm, z]; rfl
      · rw [if_neg z] at e
        subst e
        rw [if_neg (fun y => z y.symm)]
        exact h.val r hr
    · rw [setP_keys] at hx
      rw [cnt_snoc, h.all x hx, if_neg (fun e => hx (by rw [← e]; exact c))]
  · refine ⟨_, put_app c, ?_, fun p hp => ?_, fun x hx => ?_, by simp; omega⟩
    · rw [List.map_append]
      exact List.nodup_append.mpr ⟨h.nd, by simp, fun a ha b hb e => c (by
        have : b = q.2.1 := by simpa using hb
        rw [← this, ← e]; exact ha)⟩
    · rw [cnt_snoc]
      rcases List.mem_append.mp hp with z | z
      · rw [if_neg (fun e => c (by rw [e]; exact List.mem_map.mpr ⟨p, z, rfl⟩))]
        exact h.val p z
      · have : p = (q.2.1, (cnt q.2.1 qs : Int) + 1) := by simpa using z
        subst this
        show (cnt q.2.1 qs : Int) + 1 = _
        rw [if_pos rfl]; rfl
    · rw [List.map_append] at hx
      rw [cnt_snoc, h.all x (fun z => hx (List.mem_append_left _ z)), if_neg (fun e => hx (List.mem_append_right _ (by simp [e])))]
section
variable {P : Program} {w : World} {K : PySem.W.Frag} {mg : Str → Option Value} {base : Heap}
def spFit : Sp := fun vs H Q _ => ∃ (b t : Int) (d l : Addr) (ps : List (Str × Int)) (as : List Addr) (qs : List Pc), vs = [.int b, .ref d, .int t, .ref l] ∧ H d = some (.dK (kvOf ps)) ∧ LenOk ps ∧ PcsAt H l as qs ∧ Fits b t ps qs ∧ ∀ H', Kp [] H H' → Q (.bl true) H'
abbrev s_fit : Stmt := top 28
theorem sc_fit : FnScope ["_law_benches_here", "_law_lengths_here", "_law_turns", "_law_pieces", "_law_left", "_law_many", "_law_bench", "_law_name", "_law_first", "_law_last"] ["_law_benches_here", "_law_lengths_here", "_law_turns", "_law_pieces"] (defScope s_fit) := ⟨rfl, rfl, rfl, by decide +kernel, rfl, by decide +kernel, by decide +kernel⟩
theorem ok_fit {f : Addr} {fd : FuncData} (F : Fun K "_law_fit" "_law_fit" s_fit f fd) (T : Txt K mg) : FnOk P w K mg base CX0 1 f fd ["_law_benches_here", "_law_lengths_here", "_law_turns", "_law_pieces"] spFit := by
  refine F.ok sc_fit (fun vs H Q E h => ?_) (fun cdv A outer s H vs Q E hr h => ?_)
  · obtain ⟨b, t, d, l, ps, as, qs, rfl, _⟩ := h
    rfl
  · obtain ⟨b, t, d, l, ps, as, qs, rfl, hd, ok, R, fit, k⟩ := h
    have hu := hu_of hr
    refine ⟨_, (pss_cons (ps_set (i := 4) sc_fit.nd rfl (by walk_at "lc") (pe_callTy call_dict1 (by rfl) T.z_dict bo_dict (pa_cons (pv 1) pa_nil)))
      (pss_cons (ps_set (i := 5) sc_fit.nd rfl (by walk_at "lc") pe_dnewK)
      (pss_cons (ps_for PassesOwn.never rfl (pi_list (pv 3)) (pg_tup rfl (pgs_cons (pg_name (i := 6) sc_fit.nd rfl (by walk_at "lc")) (pgs_cons (pg_name (i := 7) sc_fit.nd rfl (by walk_at "lc")) (pgs_cons (pg_name (i := 8) sc_fit.nd rfl (by walk_at "lc")) (pgs_cons (pg_name (i := 9) sc_fit.nd rfl (by walk_at "lc")) pgs_nil)))))
        (pss_cons (ps_if (PW.pt (pw_or (pt_cmp (pc_dnotin hu (pv 7) (pv 4))) (pw_or (pt_not (pt_chain op_le op_lt pe_int (pv 6) (pv 0))) (pw_or1 (pt_not (pt_chain3 op_le op_le op_le pe_int (pv 8) (pv 9) (pv 2)))))))
          (pss_one (ps_ret pe_bl))
          pss_nil)
        (pss_cons (ps_dput hu (pv 4) (pv 7) (pe_op op_sub (pe_dget hu (pv 4) (pv 7) (fun _ _ => rfl)) (pe_op op_add (pe_op op_sub (pv 9) (pv 8)) pe_int)) rfl)
        (pss_one (ps_dput hu (pv 5) (pv 7) (pe_op op_add (pe_dget2 hu (pv 5) (pv 7) pe_int ⟨rfl, rfl, rfl, rfl⟩) pe_int) rfl)))))
      (pss_cons (ps_frz (ps_if (pt_cmpR (op_neS (hu0 hr)) (pe_comp rfl (blk_mk (sc := defScope s_fit) rfl (by decide +kernel)) (Draws.own (x := "_law_name") (Draws.tk (i := 5) rfl (by walk_at "vs") (by walk_at "vk") (by walk_at "vf") Draws.nil)) (pi_keys (pv 5)) (fun C s₀ H₀ ex => (pg_name (i := 0) (show List.Nodup (["_law_name", "_law_many"] : List Str) by decide +kernel) rfl (by walk_at "lc"))) (fun C s₀ H₀ ex => (pts_one (pt_cmpR op_gt (pe_dget hu (pv 1) (pv 0) (fun _ _ => rfl)) pe_int (nomark _)))) (fun C s₀ H₀ ex => (pv 0))) (pe_lst pa_nil) (nomark _))
        (pss_one (ps_ret pe_bl))
        pss_nil))
      (pss_one (ps_frz (ps_ret (pe_cmpR (op_eqS (hu0 hr)) (pe_comp rfl (blk_mk (sc := defScope s_fit) rfl (by decide +kernel)) (Draws.own (x := "_law_name") (Draws.tk (i := 4) rfl (by walk_at "vs") (by walk_at "vk") (by walk_at "vf") Draws.nil)) (pi_keys (pv 4)) (fun C s₀ H₀ ex => (pg_name (i := 0) (show List.Nodup (["_law_name", "_law_left"] : List Str) by decide +kernel) rfl (by walk_at "lc"))) (fun C s₀ H₀ ex => (pts_one (pt_cmpR op_ne (pe_dget hu (pv 1) (pv 0) (fun _ _ => rfl)) pe_int (nomark _)))) (fun C s₀ H₀ ex => (pv 0))) (pe_lst pa_nil) (nomark _))))))))), ?_⟩
    refine ⟨_, rfl, d, kvOf ps, rfl, .inl hd, fun lf hlf => ?_⟩
    have flf : Fre H lf := hlf
    have k1 : Kp [] H (upd H lf (.dK (kvOf ps))) := Kp.new Kp.refl flf
    have e1 : upd H lf (.dK (kvOf ps)) lf = some (.dK (kvOf ps)) := upd_same
    generalize upd H lf (.dK (kvOf ps)) = H1 at k1 e1
    refine fun m hm => ?_
    have fm1 : Fre H1 m := hm
    have fm : Fre H m := fre_old k1 fm1
    have k2 : Kp [] H1 (upd H1 m (.dK [])) := Kp.new Kp.refl fm1
    have e2 : upd H1 m (.dK []) m = some (.dK []) := upd_same
    have nlm : lf ≠ m := ne_fre fm1 e1
    generalize upd H1 m (.dK []) = H2 at k2 e2
    have e12 := k2 lf _ e1 (by simp)
    have k0 : Kp [] H H2 := k1.trans k2
    have q40 := fit.len
    refine ⟨_, rfl, _, rfl, ⟨_, SqL.of (k0 l _ R.top (by simp))⟩, for_list (xs := as.map V.ref) (fun i σ H3 => ∃ (ms : List (Str × Int)) (o6 o7 o8 o9 : Option V), σ = [some (.int b), some (.ref d), some (.int t), some (.ref l), some (.ref lf), some (.ref m), o6, o7, o8, o9] ∧ Kp [lf, m] H2 H3 ∧ H3 lf = some (.dK (kvOf (lft ps (qs.take i)))) ∧ H3 m = some (.dK (kvOf ms)) ∧ MsOk ms (qs.take i))
      ⟨[], none, none, none, none, rfl, Kp.refl, by rw [List.take_zero, lft_nil]; exact e12, e2, ⟨List.nodup_nil, (fun _ h => nomatch h), (fun _ _ => rfl), Nat.zero_le _⟩⟩ (fun i σ H3 _ ⟨_, _, _, _, _, _, k3, _⟩ => SqL.of (kp_two k0 flf fm k3 l _ R.top (by simp))) ?_ ?_⟩
    · rintro i v σ H3 hv ⟨ms, o6, o7, o8, o9, rfl, k3, h3, m3, M3⟩
      obtain ⟨a, ea, rfl⟩ := ref_at hv
      have R3 := R.kp (kp_two k0 flf fm k3) (by simp) (fun _ _ => by simp)
      obtain ⟨q, eq, hq⟩ := R3.both ea
      have mq : q ∈ qs := List.mem_of_getElem? eq
      have il : i < qs.length := (List.getElem?_eq_some_iff.mp eq).1
      obtain ⟨p, hp, ep⟩ := List.mem_map.mp (fit.nm q mq)
      have nd' : ((lft ps (qs.take i)).map (·.1)).Nodup := by rw [lft_keys]; exact ok.nd
      have pm : (p.1, p.2 - used p.1 (qs.take i)) ∈ lft ps (qs.take i) := List.mem_map.mpr ⟨p, hp, rfl⟩
      have vl : valV (kvOf (lft ps (qs.take i))) (Sum.inr q.2.1) = some (.int (p.2 - used p.1 (qs.take i))) := by rw [← ep]; exact val_kv nd' pm
      refine ⟨_, _, rfl, SqT.of hq, rfl, _, _, rfl, _, _, rfl, _, _, rfl, _, _, rfl, rfl, ?_⟩
      refine ⟨_, rfl, _, rfl, lf, _, rfl, DGet.k (k := Sum.inr q.2.1) h3, ?_⟩
      rw [vl]
      refine ⟨_, rfl, iteF ?_⟩
      have c0 := fit.b0 q mq
      have c1 := fit.b1 q mq
      have c2 := fit.f1 q mq
      have c3 := fit.fl q mq
      have c4 := fit.lt q mq
      refine ⟨_, rfl, _, _, rfl, rfl, _, rfl, ?_⟩
      rw [decide_eq_true c0]
      refine iteT ⟨_, rfl, _, _, rfl, rfl, _, rfl, ?_⟩
      rw [decide_eq_true c1]
      refine iteF ?_
      refine ⟨_, rfl, _, _, rfl, rfl, _, rfl, ?_⟩
      rw [decide_eq_true c2]
      refine iteT ⟨_, rfl, _, _, rfl, rfl, _, rfl, ?_⟩
      rw [decide_eq_true c3]
      refine iteT ⟨_, rfl, _, _, rfl, rfl, _, rfl, ?_⟩
      rw [decide_eq_true c4]
      refine iteF ?_
      have len4 : (kvOf (lft ps (qs.take i))).length < sizeLine := by
        rw [kvOf_len, sizeLine_eq]; unfold lft; rw [List.length_map]; have := ok.len; omega
      refine ⟨_, rfl, _, rfl, lf, _, rfl, by have := DGet.k (k := Sum.inr q.2.1) h3; rw [vl] at this; exact this, _, rfl, _, rfl, _, _, rfl, rfl, _, _, rfl, rfl, _, _, rfl, rfl, _, rfl, _, rfl, _, _, rfl, DPut.k (k := Sum.inr q.2.1) h3 len4, ?_⟩
      have ke : q.2.1 ∈ (lft ps (qs.take i)).map (·.1) := by rw [lft_keys]; exact fit.nm q mq
      rw [put_set ke, ← ep, lft_step ok.nd hp ep.symm, ← take_snoc eq]
      have k4 : Kp [lf, m] H3 (upd H3 lf (.dK (kvOf (lft ps (qs.take (i + 1)))))) := Kp.put Kp.refl (by simp)
      have h4 : upd H3 lf (.dK (kvOf (lft ps (qs.take (i + 1))))) lf = some (.dK (kvOf (lft ps (qs.take (i + 1))))) := upd_same
      have m4 : upd H3 lf (.dK (kvOf (lft ps (qs.take (i + 1))))) m = some (.dK (kvOf ms)) := by rw [upd_ne nlm.symm]; exact m3
      generalize upd H3 lf (.dK (kvOf (lft ps (qs.take (i + 1))))) = H4 at k4 h4 m4
      have len5 : (kvOf ms).length < sizeLine := by
        have := M3.len
        rw [List.length_take] at this
        rw [kvOf_len, sizeLine_eq]; omega
      rw [ep]
      refine ⟨_, rfl, m, rfl, .inl ⟨_, .inl m4⟩, _, rfl, _, DGet.k (k := Sum.inr q.2.1) m4, ?_⟩
      rw [M3.get]
      obtain ⟨ms', pe', M5⟩ := M3.put q
      refine ⟨_, _, rfl, rfl, _, rfl, _, rfl, _, _, rfl, DPut.k (k := Sum.inr q.2.1) m4 len5, ?_⟩
      rw [pe']
      rw [← take_snoc eq] at M5
      exact ⟨ms', _, _, _, _, rfl, (k3.trans k4).trans (Kp.put Kp.refl (by simp)), by rw [upd_ne nlm]; exact h4, upd_same, M5⟩
    · rintro σ H3 ⟨ms, o6, o7, o8, o9, rfl, k3, h3, m3, M3⟩
      have eT : qs.take (as.map V.ref).length = qs := by rw [List.length_map, R.len, List.take_length]
      rw [eT] at h3 M3
      have K3 : Kp [] H H3 := kp_two k0 flf fm k3
      refine ⟨m, kvOf ms, m3, fun o => ?_⟩
      have kf : Kp [m] H3 (upd H3 m (.frz o (.dK (kvOf ms)))) := Kp.put Kp.refl (by simp)
      have ef : upd H3 m (.frz o (.dK (kvOf ms))) m = some (.frz o (.dK (kvOf ms))) := upd_same
      generalize upd H3 m (.frz o (.dK (kvOf ms))) = H4 at kf ef
      refine ⟨_, rfl, m, o, kvOf ms, rfl, ef, fun D hD => comp_keys (fun i ys τ H5 => (∃ o0, τ = [o0, some (.ref m)]) ∧ ys = [] ∧ H5 = upd H4 D (.lst [])) ⟨⟨_, rfl⟩, rfl, rfl⟩ (fun i ys τ H5 ⟨_, _, e⟩ => by rw [e]; exact (Kp.new (M := []) Kp.refl hD) m _ ef (by simp)) ?_ ?_⟩
      · rintro i kk v ys τ H5 hv ⟨⟨o0, rfl⟩, rfl, rfl⟩
        obtain ⟨x, n, ei, rfl, rfl⟩ := kvOf_at hv
        have mp : (x, n) ∈ ms := List.mem_of_getElem? ei
        have ef5 := (Kp.new (M := []) (l := D) (o := .lst []) Kp.refl hD) m _ ef (by simp)
        refine ⟨_, rfl, _, rfl, m, _, rfl, .inl ⟨kvOf ms, Sum.inr x, .inr ⟨o, ef5⟩, rfl, (val_kv M3.nd mp).symm⟩, _, _, rfl, rfl, _, rfl, ?_⟩
        have nc : ¬ (n > 2) := by
          have := M3.val _ mp
          have := fit.ct x
          dsimp only at *
          omega
        rw [decide_eq_false nc]
        exact iteF ⟨⟨_, rfl⟩, rfl, rfl⟩
      · rintro ys τ H5 ⟨_, rfl, rfl⟩
        have fD : Fre H4 D := hD
        have kD : Kp [] H4 (upd H4 D (.lst [])) := Kp.new Kp.refl fD
        have eD : upd H4 D (.lst []) D = some (.lst []) := upd_same
        generalize upd H4 D (.lst []) = H5 at kD eD
        refine ⟨(by walk_at "ln"), fun e he => ?_⟩
        have fe : Fre H5 e := he
        have ke : Kp [] H5 (upd H5 e (.lst [])) := Kp.new Kp.refl fe
        have ee : upd H5 e (.lst []) e = some (.lst []) := upd_same
        generalize upd H5 e (.lst []) = H6 at ke ee
        refine ⟨D, e, [], [], rfl, rfl, SqL.of (ke D _ eD (by simp)), SqL.of ee, _, rfl, iteF ?_⟩
        have km : Kp [m] H3 H6 := (kf.trans (kD.weak (by simp))).trans (ke.weak (by simp))
        refine ⟨ke m _ (kD m _ ef (by simp)) (by simp), ?_⟩
        have K7 := thaw_kp m3 km
        generalize upd H6 m (.dK (kvOf ms)) = H7 at K7
        have h7 := K7 lf _ h3 (by simp)
        refine ⟨lf, kvOf (lft ps qs), h7, fun o2 => ?_⟩
        have kg : Kp [lf] H7 (upd H7 lf (.frz o2 (.dK (kvOf (lft ps qs))))) := Kp.put Kp.refl (by simp)
        have eg : upd H7 lf (.frz o2 (.dK (kvOf (lft ps qs)))) lf = some (.frz o2 (.dK (kvOf (lft ps qs)))) := upd_same
        generalize upd H7 lf (.frz o2 (.dK (kvOf (lft ps qs)))) = H8 at kg eg
        refine ⟨_, rfl, lf, o2, kvOf (lft ps qs), rfl, eg, fun D2 hD2 => comp_keys (fun i ys τ H5 => (∃ o0, τ = [o0, some (.ref lf)]) ∧ ys = [] ∧ H5 = upd H8 D2 (.lst [])) ⟨⟨_, rfl⟩, rfl, rfl⟩ (fun i ys τ H5 ⟨_, _, e⟩ => by rw [e]; exact (Kp.new (M := []) Kp.refl hD2) lf _ eg (by simp)) ?_ ?_⟩
        · rintro i kk v ys τ H5 hv ⟨⟨o0, rfl⟩, rfl, rfl⟩
          obtain ⟨x, n, ei, rfl, rfl⟩ := kvOf_at hv
          have mp : (x, n) ∈ lft ps qs := List.mem_of_getElem? ei
          have nd' : ((lft ps qs).map (·.1)).Nodup := by rw [lft_keys]; exact ok.nd
          have ef5 := (Kp.new (M := []) (l := D2) (o := .lst []) Kp.refl hD2) lf _ eg (by simp)
          refine ⟨_, rfl, _, rfl, lf, _, rfl, .inl ⟨kvOf (lft ps qs), Sum.inr x, .inr ⟨o2, ef5⟩, rfl, (val_kv nd' mp).symm⟩, rfl, _, rfl, ?_⟩
          have n0 : n = 0 := by
            obtain ⟨p, hp, e⟩ := List.mem_map.mp mp
            have := fit.us p hp
            cases e
            omega
          subst n0
          exact iteF ⟨⟨_, rfl⟩, rfl, rfl⟩
        · rintro ys τ H5 ⟨_, rfl, rfl⟩
          have fD : Fre H8 D2 := hD2
          have kD : Kp [] H8 (upd H8 D2 (.lst [])) := Kp.new Kp.refl fD
          have eD : upd H8 D2 (.lst []) D2 = some (.lst []) := upd_same
          generalize upd H8 D2 (.lst []) = H9 at kD eD
          refine ⟨(by walk_at "ln"), fun e he => ?_⟩
          have fe : Fre H9 e := he
          have ke : Kp [] H9 (upd H9 e (.lst [])) := Kp.new Kp.refl fe
          have ee : upd H9 e (.lst []) e = some (.lst []) := upd_same
          generalize upd H9 e (.lst []) = H10 at ke ee
          refine ⟨D2, e, [], [], rfl, rfl, SqL.of (ke D2 _ eD (by simp)), SqL.of ee, ?_⟩
          have km : Kp [lf] H7 H10 := (kg.trans (kD.weak (by simp))).trans (ke.weak (by simp))
          exact ⟨ke lf _ (kD lf _ eg (by simp)) (by simp), k _ ((K3.trans K7).trans (thaw_kp h7 km))⟩
def spRight : Sp := fun vs H Q _ => ∃ (b : Int) (d : Addr) (ps : List (Str × Int)), vs = [.int b, .ref d] ∧ H d = some (.dK (kvOf ps)) ∧ LenOk ps ∧ 1 ≤ b ∧ b < 10 ^ 100 ∧ ∀ H', Kp [] H H' → Q (.bl true) H'
abbrev s_right : Stmt := top 29
theorem sc_right : FnScope ["_law_benches_here", "_law_lengths_here", "_law_handed", "_law_found", "_law_turns", "_law_pieces", "_law_paper", "_law_kept"] ["_law_benches_here", "_law_lengths_here"] (defScope s_right) := ⟨rfl, rfl, rfl, by decide +kernel, rfl, by decide +kernel, by decide +kernel⟩
theorem txtKeys (ps : List (Str × Int)) : TxtKeys (kvOf ps) := fun kv hkv => by
  unfold kvOf at hkv
  obtain ⟨p, _, rfl⟩ := List.mem_map.mp hkv
  exact ⟨p.1, rfl⟩
theorem ok_right {f : Addr} {fd : FuncData} (F : Fun K "_law_right" "_law_right" s_right f fd) (T : Txt K mg) (C_broken : Cal P w K mg base "broken" 3 ["benches", "lengths"] spBroken) (C_whole : Cal P w K mg base "_law_whole" 1 ["_law_found"] spWhole) (C_are_pieces : Cal P w K mg base "_law_are_pieces" 2 ["_law_found"] spArePcs) (C_fit : Cal P w K mg base "_law_fit" 1 ["_law_benches_here", "_law_lengths_here", "_law_turns", "_law_pieces"] spFit) (C_apart : Cal P w K mg base "_law_apart" 1 ["_law_pieces", "_law_place"] spApart) : FnOk P w K mg base CX0 4 f fd ["_law_benches_here", "_law_lengths_here"] spRight := by
  refine F.ok sc_right (fun vs H Q E h => ?_) (fun cdv A outer s H vs Q E hr h => ?_)
  · obtain ⟨b, d, ps, rfl, _⟩ := h
    rfl
  · obtain ⟨b, d, ps, rfl, hd, ok, b1, b2, k⟩ := h
    have hr1 := hr.mono (j := 1) (by decide)
    have hr2 := hr.mono (j := 2) (by decide)
    have hu9 : (A.deeper (PyProof.Rows.envOfC (Str.ofString "_law_right") (defScope s_right) s.heap.objs.size f cdv)).units + 2 + 8 < cLine := by have := hu2 hr (n := 9); omega
    refine ⟨_, (pss_cons (ps_set (i := 2) sc_right.nd rfl (by walk_at "lc") (pe_callTy call_dict1 (by rfl) T.z_dict bo_dict (pa_cons (pv 1) pa_nil)))
      (pss_cons (ps_set (i := 3) sc_right.nd rfl (by walk_at "lc") (pe_callC C_broken hr rfl (pa_cons (pv 0) (pa_cons (pv 2) pa_nil))))
      (pss_cons (ps_if (PW.pt (pw_or (pt_not (pt_val (pe_callB call_isT (by rfl) T.z_isinstance bo_isinstance (pa_cons (pv 3) (pa_cons (pe_bltn (by rfl) T.z_tuple bo_tuple (v := .ty "tuple") rfl) pa_nil))))) (pw_or (pt_cmpR op_ne (pe_callB call_len_seq (by rfl) T.z_len bo_len (pa_cons (pv 3) pa_nil)) pe_int (nomark _)) (pw_or (pt_cmpR (op_neD (n := 8) (hu2 hr)) (pv 2) (pv 1) (nomark _)) (pw_or1 (pt_not (pt_val (pe_callC C_whole hr1 rfl (pa_cons (pe_ix ix_tup (pv 3) pe_int (fun _ _ => rfl)) pa_nil)))))))))
        (pss_one (ps_ret pe_bl))
        pss_nil)
      (pss_cons (ps_asg (pv 3) (pg_tup rfl (pgs_cons (pg_name (i := 4) sc_right.nd rfl (by walk_at "lc")) (pgs_cons (pg_name (i := 5) sc_right.nd rfl (by walk_at "lc")) (pgs_cons (pg_name (i := 6) sc_right.nd rfl (by walk_at "lc")) pgs_nil)))))
      (pss_cons (ps_if (PW.pt (pw_or (pt_not (pt_val (pe_callC C_are_pieces hr2 rfl (pa_cons (pv 5) pa_nil)))) (pw_or1 (pt_not (pt_val (pe_callC C_fit hr1 rfl (pa_cons (pv 0) (pa_cons (pv 1) (pa_cons (pv 4) (pa_cons (pv 5) pa_nil))))))))))
        (pss_one (ps_ret pe_bl))
        pss_nil)
      (pss_cons (ps_if (PW.pt (pw_or (pt_not (pt_val (pe_callC C_apart hr1 rfl (pa_cons (pv 5) (pa_cons pe_int pa_nil))))) (pw_or1 (pt_not (pt_val (pe_callC C_apart hr1 rfl (pa_cons (pv 5) (pa_cons pe_int pa_nil))))))))
        (pss_one (ps_ret pe_bl))
        pss_nil)
      (pss_cons (ps_set (i := 7) sc_right.nd rfl (by walk_at "lc") (pe_callTy call_list_of (by rfl) T.z_list bo_list (pa_cons (pv 5) pa_nil)))
      (pss_cons (ps_expr (pe_bm0 PySem.F.plainAttrs_list PySem.F.slot_list_clear PySem.F.type_list_clear mt_clear (pv 5)))
      (pss_one (ps_ret (pe_cmpR (op_eqTA (n := 8) hu9) (pe_callC C_broken hr rfl (pa_cons (pv 0) (pa_cons (pv 2) pa_nil))) (pe_tup (pa_cons (pv 4) (pa_cons (pv 7) (pa_cons (pv 6) pa_nil)))) (nomark _)))))))))))), ?_⟩
    refine ⟨_, rfl, d, kvOf ps, rfl, .inl hd, fun hh hhh => ?_⟩
    have fh : Fre H hh := hhh
    have k1 : Kp [] H (upd H hh (.dK (kvOf ps))) := Kp.new Kp.refl fh
    have e1 : upd H hh (.dK (kvOf ps)) hh = some (.dK (kvOf ps)) := upd_same
    generalize upd H hh (.dK (kvOf ps)) = H1 at k1 e1
    refine ⟨_, rfl, _, rfl, b, hh, ps, rfl, e1, ok, b1, b2, fun t l pp as H2 k2 fl ht hpp R => ?_⟩
    have K2 : Kp [] H H2 := k1.trans k2
    have fl0 : Fre H l := fre_old k1 fl
    have hd2 := K2 d _ hd (by simp)
    have e2 := k2 hh _ e1 (by simp)
    have fit := fits_all ok b1
    refine ⟨_, rfl, _, _, _, _, rfl, TyOf.tup ht, kit_same, _, rfl, iteF ?_⟩
    refine ⟨_, rfl, _, _, rfl, .inr (SqT.of ht), rfl, _, rfl, iteF ?_⟩
    refine ⟨_, rfl, _, rfl, hh, d, kvOf ps, kvOf ps, rfl, rfl, .inl e2, .inl hd2, ⟨txtKeys ps, txtKeys ps, rfl, fun kk vv hm => ?_⟩, _, rfl, iteF ?_⟩
    · unfold kvOf at hm
      obtain ⟨p, hp, e⟩ := List.mem_map.mp hm
      cases e
      exact ⟨_, ok.val hp, .flat rfl⟩
    refine ⟨_, rfl, _, _, _, _, rfl, rfl, SqT.of ht, rfl, _, rfl, _, rfl, iteF ?_⟩
    refine ⟨_, rfl, _, _, rfl, SqT.of ht, rfl, _, _, rfl, _, _, rfl, _, _, rfl, rfl, ?_⟩
    refine ⟨_, rfl, l, as, _, rfl, R, _, rfl, iteF ?_⟩
    refine ⟨_, rfl, _, rfl, _, rfl, _, rfl, b, _, d, l, ps, as, _, rfl, hd2, ok, R, fit, fun H3 k3 => ?_⟩
    refine ⟨_, rfl, iteF ?_⟩
    have R3 := R.kp k3 (by simp) (fun _ _ => by simp)
    refine ⟨_, rfl, l, 0, as, _, rfl, .inl rfl, R3, fit.len, fit.apart (.inl rfl), fun H4 k4 => ?_⟩
    refine ⟨_, rfl, iteF ?_⟩
    have R4 := R3.kp k4 (by simp) (fun _ _ => by simp)
    refine ⟨_, rfl, l, 1, as, _, rfl, .inr rfl, R4, fit.len, fit.apart (.inr rfl), fun H5 k5 => ?_⟩
    refine ⟨_, rfl, iteF ?_⟩
    have R5 := R4.kp k5 (by simp) (fun _ _ => by simp)
    have k25 : Kp [] H2 H5 := (k3.trans k4).trans k5
    refine ⟨_, rfl, _, _, rfl, .inl (SqL.of R5.top), fun kp hkp => ?_⟩
    have fk : Fre H5 kp := hkp
    have k6 : Kp [] H5 (upd H5 kp (.lst (as.map V.ref))) := Kp.new Kp.refl fk
    have e6 : upd H5 kp (.lst (as.map V.ref)) kp = some (.lst (as.map V.ref)) := upd_same
    have nkl : kp ≠ l := (ne_fre fk R5.top).symm
    generalize upd H5 kp (.lst (as.map V.ref)) = H6 at k6 e6
    have R6 := R5.kp k6 (by simp) (fun _ _ => by simp)
    refine ⟨_, rfl, .inl ⟨rfl, _, SqL.of R6.top⟩, l, _, rfl, rfl, R6.top, ?_⟩
    have k7 : Kp [l] H6 (upd H6 l (.lst [])) := Kp.put Kp.refl (by simp)
    generalize upd H6 l (.lst []) = H7 at k7
    have k27 : Kp [] H H7 := kp_drop ((K2.trans k25).trans k6) fl0 k7
    have nla : ∀ a ∈ as, a ∉ [l] := fun a ha => nm1 fun e => by
      obtain ⟨xs, h⟩ := R6.ne ha
      rw [e, R6.top] at h; cases h
    have R7 : PcsAt H7 kp as (pcAll (brkT b ps).1 0 ps) := ⟨k7 kp _ e6 (nm1 nkl), R6.len, fun i a q x y => k7 a _ (R6.row i a q x y) (nla a (List.mem_of_getElem? x))⟩
    have npl : pp ≠ l := fun e => by
      have h := R.top
      rw [← e, hpp] at h; cases h
    have nhl : hh ≠ l := fun e => by
      have h := R.top
      rw [← e, e2] at h; cases h
    have k26 : Kp [] H2 H6 := k25.trans k6
    have hpp7 := k7 pp _ (k26 pp _ hpp (by simp)) (nm1 npl)
    have eh7 := k7 hh _ (k26 hh _ e2 (by simp)) (nm1 nhl)
    refine ⟨_, rfl, _, rfl, b, hh, ps, rfl, eh7, ok, b1, b2, fun t2 l2 pp2 as2 H8 k8 fl2 ht2 hpp2 R8 => ?_⟩
    refine ⟨_, rfl, _, rfl, _, rfl, (by walk_at "ln"), fun t3 ht3 => ?_⟩
    have f3 : Fre H8 t3 := ht3
    have k9 : Kp [] H8 (upd H8 t3 (.tup [.int (brkT b ps).1, .ref kp, .ref pp])) := Kp.new Kp.refl f3
    have e9 : upd H8 t3 (.tup [.int (brkT b ps).1, .ref kp, .ref pp]) t3 = some (.tup [.int (brkT b ps).1, .ref kp, .ref pp]) := upd_same
    generalize upd H8 t3 (.tup [.int (brkT b ps).1, .ref kp, .ref pp]) = H9 at k9 e9
    have R9 := R7.kp (k8.trans k9) (by simp) (fun _ _ => by simp)
    have R9' := R8.kp k9 (by simp) (fun _ _ => by simp)
    have p9 := (k8.trans k9) pp _ hpp7 (by simp)
    have p9' := k9 pp2 _ hpp2 (by simp)
    refine ⟨t2, t3, _, _, rfl, rfl, SqT.of (k9 t2 _ ht2 (by simp)), SqT.of e9, rfl, ?_, k _ (k27.trans (k8.trans k9))⟩
    intro i x y hx hy
    match i, hx, hy with
    | 0, hx, hy =>
      cases hx
      cases hy
      exact .inl (.flat rfl)
    | 1, hx, hy =>
      cases hx
      cases hy
      refine .inl (.lists (n := 7) (SqL.of R9'.top) (SqL.of R9.top) (by rw [List.length_map, List.length_map, R9'.len, R9.len]) fun j u v hu hv => ?_)
      obtain ⟨a, ea, rfl⟩ := ref_at hu
      obtain ⟨c, ec, rfl⟩ := ref_at hv
      obtain ⟨q, eq, hq⟩ := R9'.both ea
      have hc := R9.row j c q ec eq
      refine .tups (n := 6) (SqT.of hq) (SqT.of hc) rfl fun j u v hu hv => ?_
      rw [hu] at hv
      cases hv
      match j, hu with
      | 0, hu => cases hu; exact .flat rfl
      | 1, hu => cases hu; exact .flat rfl
      | 2, hu => cases hu; exact .flat rfl
      | 3, hu => cases hu; exact .flat rfl
      | n + 4, hu => simp [pcV] at hu
    | 2, hx, hy =>
      cases hx
      cases hy
      refine .inl (.tups (n := 7) (SqT.of p9') (SqT.of p9) rfl fun j u v hu hv => ?_)
      rw [hu] at hv
      cases hv
      obtain ⟨z, _, rfl⟩ := str_at hu
      exact .flat rfl
    | n + 3, hx, _ => simp at hx
def spLaw (K : PySem.W.Frag) : Sp := fun vs H Q _ => ∃ (a : Addr) (ns : List Int), vs = [.ref a] ∧ SqL K H a (ns.map V.int) ∧ ns.length ≤ 63 ∧ ∀ H', Q (.bl true) H'
abbrev s_law : Stmt := top 30
theorem sc_law : FnScope ["_law_script", "_law_k", "_law_lengths_here"] ["_law_script"] (defScope s_law) := ⟨rfl, rfl, rfl, by decide +kernel, rfl, by decide +kernel, by decide +kernel⟩
theorem ok_law {f : Addr} {fd : FuncData} (F : Fun K "law" "law" s_law f fd) (T : Txt K mg) (C_cell : Cal P w K mg base "_law_cell" 1 ["_law_script", "_law_k"] (spCell K)) (C_purse : Cal P w K mg base "_law_purse" 1 ["_law_cell_here", "_law_k"] spPurse)
    (C_lengths : Cal P w K mg base "_law_lengths" 3 ["_law_purse_here"] spLLens) (C_benches : Cal P w K mg base "_law_benches" 2 ["_law_purse_here"] spLBenches) (C_right : Cal P w K mg base "_law_right" 4 ["_law_benches_here", "_law_lengths_here"] spRight) : FnOk P w K mg base CX0 5 f fd ["_law_script"] (spLaw K) := by
  refine F.ok sc_law (fun vs H Q E h => ?_) (fun cdv A outer s H vs Q E hr h => ?_)
  · obtain ⟨a, ns, rfl, _⟩ := h
    rfl
  · obtain ⟨sc, is, rfl, hS, hlen, k⟩ := h
    have hr1 := hr.mono (j := 1) (by decide)
    have hr2 := hr.mono (j := 2) (by decide)
    have hr3 := hr.mono (j := 3) (by decide)
    refine ⟨_, (pss_cons (ps_for PassesOwn.never rfl (pi_range3 rfl T.z_range (pa_cons pe_int (pa_cons (pe_callB (call_max2 rfl) (by rfl) T.z_max bo_max (pa_cons pe_int (pa_cons (pe_callB (call_min2 rfl) (by rfl) T.z_min bo_min (pa_cons (pe_callB call_len_seq (by rfl) T.z_len bo_len (pa_cons (pv 0) pa_nil)) (pa_cons pe_int pa_nil))) pa_nil))) (pa_cons pe_int pa_nil)))) (pg_name (i := 1) sc_law.nd rfl (by walk_at "lc"))
        (pss_cons (ps_set (i := 2) sc_law.nd rfl (by walk_at "lc") (pe_callC C_lengths hr3 rfl (pa_cons (pe_callC C_purse hr1 rfl (pa_cons (pe_callC C_cell hr1 rfl (pa_cons (pv 0) (pa_cons (pv 1) pa_nil))) (pa_cons pe_int pa_nil))) pa_nil)))
        (pss_one (ps_if (pt_not (pt_val (pe_callC C_right hr rfl (pa_cons (pe_callC C_benches hr2 rfl (pa_cons (pe_callC C_purse hr1 rfl (pa_cons (pe_callC C_cell hr1 rfl (pa_cons (pv 0) (pa_cons (pe_op op_add (pv 1) pe_int) pa_nil))) (pa_cons pe_int pa_nil))) pa_nil)) (pa_cons (pv 2) pa_nil)))))
          (pss_one (ps_ret pe_bl))
          pss_nil))))
      (pss_one (ps_ret pe_bl))), ?_⟩
    obtain ⟨j, ej, j0, j1⟩ : ∃ j : Int, (if (if (12 : Int) < (is.map V.int).length then (12 : Int) else (is.map V.int).length) > 1 then (if (12 : Int) < (is.map V.int).length then (12 : Int) else (is.map V.int).length) else (1 : Int)) = j ∧ 0 ≤ j ∧ j < 1000 := ⟨_, rfl, by split <;> split <;> omega, by rw [List.length_map]; split <;> split <;> omega⟩
    obtain ⟨sm, n, hn, _, _⟩ := small_by (c := 2) j0 j1 (by decide) (by decide)
    refine ⟨_, rfl, _, _, rfl, .inl hS, _, _, rfl, _, _, rfl, 0, _, 2, n, rfl, ⟨by decide, by decide⟩, by rw [ej]; exact sm, by rw [ej]; exact hn, ?_⟩
    refine for_range3 (fun i σ H2 => (∃ o1 o2 : Option V, σ = [some (.ref sc), o1, o2]) ∧ Kp [] H H2) ⟨⟨_, _, rfl⟩, Kp.refl⟩ ?_ ?_
    · rintro i σ H2 hi ⟨⟨o1, o2, rfl⟩, k2⟩
      refine ⟨_, rfl, _, rfl, sc, is, _, rfl, k2.seq hS, by omega, fun c => ?_⟩
      refine ⟨c, 1, rfl, by decide, by decide, fun p H3 fp P3 k3 => ?_⟩
      refine ⟨p, rfl, P3, fun d ps H4 fd hd ok P4 K4 => ?_⟩
      have k4 : Kp [] H2 H4 := kp_drop k3 fp K4
      refine ⟨_, rfl, _, rfl, _, _, rfl, rfl, sc, is, _, rfl, (k2.trans k4).seq hS, by omega, fun c2 => ?_⟩
      refine ⟨c2, 2, rfl, by decide, by decide, fun p2 H5 fp2 P5 k5 => ?_⟩
      refine ⟨p2, rfl, P5, fun b H6 b1 b2 P6 K6 => ?_⟩
      have k46 : Kp [] H4 H6 := kp_drop k5 fp2 K6
      have b3 : b < 10 ^ 100 := Int.lt_trans b2 (by decide +kernel)
      refine ⟨_, rfl, b, d, ps, rfl, k46 d _ hd (by simp), ok, b1, b3, fun H7 k7 => ?_⟩
      exact ⟨_, rfl, iteF ⟨⟨_, _, rfl⟩, k2.trans ((k4.trans k46).trans k7)⟩⟩
    · rintro σ H2 ⟨⟨o1, o2, rfl⟩, k2⟩
      exact k H2
end
end My
set_option Elab.async false
set_option linter.all false
set_option maxRecDepth 100000
set_option maxHeartbeats 4000000
namespace My
open PySem L2
theorem all_mk {l : PySem.W.OpenLaw} {w : World} {K : PySem.W.Frag} {h : Heap} {mg : Str → Option Value} {fa : Addr} (X : K.In h) (G : h.Ns mainGlobals mg) (hfa : mg "law" = some (.ref fa))
    {f0 : Addr} {od0 an0 : Option Addr} {sl0 : Array (Option Value)} {oc0 kV0 dc0 pm0 cd0 ct0 : Value}
    {f1 : Addr} {od1 an1 : Option Addr} {sl1 : Array (Option Value)} {oc1 kV1 dc1 pm1 cd1 ct1 : Value}
    {f2 : Addr} {od2 an2 : Option Addr} {sl2 : Array (Option Value)} {oc2 kV2 dc2 pm2 cd2 ct2 : Value}
    {f3 : Addr} {od3 an3 : Option Addr} {sl3 : Array (Option Value)} {oc3 kV3 dc3 pm3 cd3 ct3 : Value}
    {f4 : Addr} {od4 an4 : Option Addr} {sl4 : Array (Option Value)} {oc4 kV4 dc4 pm4 cd4 ct4 : Value}
    {f5 : Addr} {od5 an5 : Option Addr} {sl5 : Array (Option Value)} {oc5 kV5 dc5 pm5 cd5 ct5 : Value}
    {f6 : Addr} {od6 an6 : Option Addr} {sl6 : Array (Option Value)} {oc6 kV6 dc6 pm6 cd6 ct6 : Value}
    {f7 : Addr} {od7 an7 : Option Addr} {sl7 : Array (Option Value)} {oc7 kV7 dc7 pm7 cd7 ct7 : Value}
    {f8 : Addr} {od8 an8 : Option Addr} {sl8 : Array (Option Value)} {oc8 kV8 dc8 pm8 cd8 ct8 : Value}
    {f9 : Addr} {od9 an9 : Option Addr} {sl9 : Array (Option Value)} {oc9 kV9 dc9 pm9 cd9 ct9 : Value}
    {f10 : Addr} {od10 an10 : Option Addr} {sl10 : Array (Option Value)} {oc10 kV10 dc10 pm10 cd10 ct10 : Value}
    {f11 : Addr} {od11 an11 : Option Addr} {sl11 : Array (Option Value)} {oc11 kV11 dc11 pm11 cd11 ct11 : Value}
    {f12 : Addr} {od12 an12 : Option Addr} {sl12 : Array (Option Value)} {oc12 kV12 dc12 pm12 cd12 ct12 : Value}
    {f13 : Addr} {od13 an13 : Option Addr} {sl13 : Array (Option Value)} {oc13 kV13 dc13 pm13 cd13 ct13 : Value}
    {f14 : Addr} {od14 an14 : Option Addr} {sl14 : Array (Option Value)} {oc14 kV14 dc14 pm14 cd14 ct14 : Value}
    {f15 : Addr} {od15 an15 : Option Addr} {sl15 : Array (Option Value)} {oc15 kV15 dc15 pm15 cd15 ct15 : Value}
    {f16 : Addr} {od16 an16 : Option Addr} {sl16 : Array (Option Value)} {oc16 kV16 dc16 pm16 cd16 ct16 : Value}
    {f17 : Addr} {od17 an17 : Option Addr} {sl17 : Array (Option Value)} {oc17 kV17 dc17 pm17 cd17 ct17 : Value}
    {f18 : Addr} {od18 an18 : Option Addr} {sl18 : Array (Option Value)} {oc18 kV18 dc18 pm18 cd18 ct18 : Value}
    {f19 : Addr} {od19 an19 : Option Addr} {sl19 : Array (Option Value)} {oc19 kV19 dc19 pm19 cd19 ct19 : Value}
    {t_LONGEST_NAME : Tok}
    {t_MOST_LENGTHS : Tok}
    (a0 : PySem.W.nsIn K mainGlobals "_law_take" = some (some (.ref f0))) (l0 : K.lookup f0 = some ⟨oc0, od0, .func (PySem.W.fnOf "_law_take" "_law_take" (defArgs s_take) (defBody s_take) (defScope s_take) .none kV0 dc0 pm0 an0 cd0 ct0), sl0⟩) (c0 : PySem.W.codeIn K cd0 "_law_take" = true) (k0 : PySem.W.keepIn K (.ref f0) = true)
    (a1 : PySem.W.nsIn K mainGlobals "_law_purse" = some (some (.ref f1))) (l1 : K.lookup f1 = some ⟨oc1, od1, .func (PySem.W.fnOf "_law_purse" "_law_purse" (defArgs s_purse) (defBody s_purse) (defScope s_purse) .none kV1 dc1 pm1 an1 cd1 ct1), sl1⟩) (c1 : PySem.W.codeIn K cd1 "_law_purse" = true) (k1 : PySem.W.keepIn K (.ref f1) = true)
    (a2 : PySem.W.nsIn K mainGlobals "_law_cell" = some (some (.ref f2))) (l2 : K.lookup f2 = some ⟨oc2, od2, .func (PySem.W.fnOf "_law_cell" "_law_cell" (defArgs s_cell) (defBody s_cell) (defScope s_cell) .none kV2 dc2 pm2 an2 cd2 ct2), sl2⟩) (c2 : PySem.W.codeIn K cd2 "_law_cell" = true) (k2 : PySem.W.keepIn K (.ref f2) = true)
    (a3 : PySem.W.nsIn K mainGlobals "_law_names" = some (some (.ref f3))) (l3 : K.lookup f3 = some ⟨oc3, od3, .func (PySem.W.fnOf "_law_names" "_law_names" (defArgs s_names) (defBody s_names) (defScope s_names) .none kV3 dc3 pm3 an3 cd3 ct3), sl3⟩) (c3 : PySem.W.codeIn K cd3 "_law_names" = true) (k3 : PySem.W.keepIn K (.ref f3) = true)
    (a4 : PySem.W.nsIn K mainGlobals "is_whole" = some (some (.ref f4))) (l4 : K.lookup f4 = some ⟨oc4, od4, .func (PySem.W.fnOf "is_whole" "is_whole" (defArgs s_is_whole) (defBody s_is_whole) (defScope s_is_whole) .none kV4 dc4 pm4 an4 cd4 ct4), sl4⟩) (c4 : PySem.W.codeIn K cd4 "is_whole" = true) (k4 : PySem.W.keepIn K (.ref f4) = true)
    (a5 : PySem.W.nsIn K mainGlobals "is_name" = some (some (.ref f5))) (l5 : K.lookup f5 = some ⟨oc5, od5, .func (PySem.W.fnOf "is_name" "is_name" (defArgs s_is_name) (defBody s_is_name) (defScope s_is_name) .none kV5 dc5 pm5 an5 cd5 ct5), sl5⟩) (c5 : PySem.W.codeIn K cd5 "is_name" = true) (k5 : PySem.W.keepIn K (.ref f5) = true)
    (a6 : PySem.W.nsIn K mainGlobals "check_benches" = some (some (.ref f6))) (l6 : K.lookup f6 = some ⟨oc6, od6, .func (PySem.W.fnOf "check_benches" "check_benches" (defArgs s_check_benches) (defBody s_check_benches) (defScope s_check_benches) .none kV6 dc6 pm6 an6 cd6 ct6), sl6⟩) (c6 : PySem.W.codeIn K cd6 "check_benches" = true) (k6 : PySem.W.keepIn K (.ref f6) = true)
    (a7 : PySem.W.nsIn K mainGlobals "turns_filled" = some (some (.ref f7))) (l7 : K.lookup f7 = some ⟨oc7, od7, .func (PySem.W.fnOf "turns_filled" "turns_filled" (defArgs s_turns_filled) (defBody s_turns_filled) (defScope s_turns_filled) .none kV7 dc7 pm7 an7 cd7 ct7), sl7⟩) (c7 : PySem.W.codeIn K cd7 "turns_filled" = true) (k7 : PySem.W.keepIn K (.ref f7) = true)
    (a8 : PySem.W.nsIn K mainGlobals "check_lengths" = some (some (.ref f8))) (l8 : K.lookup f8 = some ⟨oc8, od8, .func (PySem.W.fnOf "check_lengths" "check_lengths" (defArgs s_check_lengths) (defBody s_check_lengths) (defScope s_check_lengths) .none kV8 dc8 pm8 an8 cd8 ct8), sl8⟩) (c8 : PySem.W.codeIn K cd8 "check_lengths" = true) (k8 : PySem.W.keepIn K (.ref f8) = true)
    (a9 : PySem.W.nsIn K mainGlobals "pieces_of_job" = some (some (.ref f9))) (l9 : K.lookup f9 = some ⟨oc9, od9, .func (PySem.W.fnOf "pieces_of_job" "pieces_of_job" (defArgs s_pieces_of_job) (defBody s_pieces_of_job) (defScope s_pieces_of_job) .none kV9 dc9 pm9 an9 cd9 ct9), sl9⟩) (c9 : PySem.W.codeIn K cd9 "pieces_of_job" = true) (k9 : PySem.W.keepIn K (.ref f9) = true)
    (a10 : PySem.W.nsIn K mainGlobals "all_pieces" = some (some (.ref f10))) (l10 : K.lookup f10 = some ⟨oc10, od10, .func (PySem.W.fnOf "all_pieces" "all_pieces" (defArgs s_all_pieces) (defBody s_all_pieces) (defScope s_all_pieces) .none kV10 dc10 pm10 an10 cd10 ct10), sl10⟩) (c10 : PySem.W.codeIn K cd10 "all_pieces" = true) (k10 : PySem.W.keepIn K (.ref f10) = true)
    (a11 : PySem.W.nsIn K mainGlobals "broken" = some (some (.ref f11))) (l11 : K.lookup f11 = some ⟨oc11, od11, .func (PySem.W.fnOf "broken" "broken" (defArgs s_broken) (defBody s_broken) (defScope s_broken) .none kV11 dc11 pm11 an11 cd11 ct11), sl11⟩) (c11 : PySem.W.codeIn K cd11 "broken" = true) (k11 : PySem.W.keepIn K (.ref f11) = true)
    (a12 : PySem.W.nsIn K mainGlobals "_law_benches" = some (some (.ref f12))) (l12 : K.lookup f12 = some ⟨oc12, od12, .func (PySem.W.fnOf "_law_benches" "_law_benches" (defArgs s_benches) (defBody s_benches) (defScope s_benches) .none kV12 dc12 pm12 an12 cd12 ct12), sl12⟩) (c12 : PySem.W.codeIn K cd12 "_law_benches" = true) (k12 : PySem.W.keepIn K (.ref f12) = true)
    (a13 : PySem.W.nsIn K mainGlobals "_law_lengths" = some (some (.ref f13))) (l13 : K.lookup f13 = some ⟨oc13, od13, .func (PySem.W.fnOf "_law_lengths" "_law_lengths" (defArgs s_lengths) (defBody s_lengths) (defScope s_lengths) .none kV13 dc13 pm13 an13 cd13 ct13), sl13⟩) (c13 : PySem.W.codeIn K cd13 "_law_lengths" = true) (k13 : PySem.W.keepIn K (.ref f13) = true)
    (a14 : PySem.W.nsIn K mainGlobals "_law_whole" = some (some (.ref f14))) (l14 : K.lookup f14 = some ⟨oc14, od14, .func (PySem.W.fnOf "_law_whole" "_law_whole" (defArgs s_whole) (defBody s_whole) (defScope s_whole) .none kV14 dc14 pm14 an14 cd14 ct14), sl14⟩) (c14 : PySem.W.codeIn K cd14 "_law_whole" = true) (k14 : PySem.W.keepIn K (.ref f14) = true)
    (a15 : PySem.W.nsIn K mainGlobals "_law_are_pieces" = some (some (.ref f15))) (l15 : K.lookup f15 = some ⟨oc15, od15, .func (PySem.W.fnOf "_law_are_pieces" "_law_are_pieces" (defArgs s_are_pieces) (defBody s_are_pieces) (defScope s_are_pieces) .none kV15 dc15 pm15 an15 cd15 ct15), sl15⟩) (c15 : PySem.W.codeIn K cd15 "_law_are_pieces" = true) (k15 : PySem.W.keepIn K (.ref f15) = true)
    (a16 : PySem.W.nsIn K mainGlobals "_law_apart" = some (some (.ref f16))) (l16 : K.lookup f16 = some ⟨oc16, od16, .func (PySem.W.fnOf "_law_apart" "_law_apart" (defArgs s_apart) (defBody s_apart) (defScope s_apart) .none kV16 dc16 pm16 an16 cd16 ct16), sl16⟩) (c16 : PySem.W.codeIn K cd16 "_law_apart" = true) (k16 : PySem.W.keepIn K (.ref f16) = true)
    (a17 : PySem.W.nsIn K mainGlobals "_law_fit" = some (some (.ref f17))) (l17 : K.lookup f17 = some ⟨oc17, od17, .func (PySem.W.fnOf "_law_fit" "_law_fit" (defArgs s_fit) (defBody s_fit) (defScope s_fit) .none kV17 dc17 pm17 an17 cd17 ct17), sl17⟩) (c17 : PySem.W.codeIn K cd17 "_law_fit" = true) (k17 : PySem.W.keepIn K (.ref f17) = true)
    (a18 : PySem.W.nsIn K mainGlobals "_law_right" = some (some (.ref f18))) (l18 : K.lookup f18 = some ⟨oc18, od18, .func (PySem.W.fnOf "_law_right" "_law_right" (defArgs s_right) (defBody s_right) (defScope s_right) .none kV18 dc18 pm18 an18 cd18 ct18), sl18⟩) (c18 : PySem.W.codeIn K cd18 "_law_right" = true) (k18 : PySem.W.keepIn K (.ref f18) = true)
    (a19 : PySem.W.nsIn K mainGlobals "law" = some (some (.ref f19))) (l19 : K.lookup f19 = some ⟨oc19, od19, .func (PySem.W.fnOf "law" "law" (defArgs s_law) (defBody s_law) (defScope s_law) .none kV19 dc19 pm19 an19 cd19 ct19), sl19⟩) (c19 : PySem.W.codeIn K cd19 "law" = true) (k19 : PySem.W.keepIn K (.ref f19) = true)
    (z_len : PySem.W.nsIn K mainGlobals "len" = some none)
    (z_max : PySem.W.nsIn K mainGlobals "max" = some none)
    (z_range : PySem.W.nsIn K mainGlobals "range" = some none)
    (z_int : PySem.W.nsIn K mainGlobals "int" = some none)
    (z_list : PySem.W.nsIn K mainGlobals "list" = some none)
    (z_min : PySem.W.nsIn K mainGlobals "min" = some none)
    (z_dict : PySem.W.nsIn K mainGlobals "dict" = some none)
    (z_enumerate : PySem.W.nsIn K mainGlobals "enumerate" = some none)
    (z_bool : PySem.W.nsIn K mainGlobals "bool" = some none)
    (z_sum : PySem.W.nsIn K mainGlobals "sum" = some none)
    (z_sorted : PySem.W.nsIn K mainGlobals "sorted" = some none)
    (z_str : PySem.W.nsIn K mainGlobals "str" = some none)
    (z_all : PySem.W.nsIn K mainGlobals "all" = some none)
    (z_tuple : PySem.W.nsIn K mainGlobals "tuple" = some none)
    (z_isinstance : PySem.W.nsIn K mainGlobals "isinstance" = some none)
    (e_LONGEST_NAME : PySem.W.nsIn K mainGlobals "LONGEST_NAME" = some (some (.int 8 t_LONGEST_NAME)))
    (e_MOST_LENGTHS : PySem.W.nsIn K mainGlobals "MOST_LENGTHS" = some (some (.int 20 t_MOST_LENGTHS)))
    : ∃ fd : FuncData, (∀ (s : Shared) (v : Value), BindsTo s fd ⟨[v], []⟩ [("_law_script", v)]) ∧ ∀ base : Heap, K.In base → base.Ns mainGlobals mg → FnOk l.prog w K mg base CX0 5 fa fd ["_law_script"] (spLaw K) := by
  have e := hfa.symm.trans (PySem.W.mg_of X G a19)
  cases e
  have T : Txt K mg := { z_len := PySem.W.mg_none_of X G z_len, z_max := PySem.W.mg_none_of X G z_max, z_range := PySem.W.mg_none_of X G z_range, z_int := PySem.W.mg_none_of X G z_int, z_list := PySem.W.mg_none_of X G z_list, z_min := PySem.W.mg_none_of X G z_min, z_dict := PySem.W.mg_none_of X G z_dict, z_enumerate := PySem.W.mg_none_of X G z_enumerate, z_bool := PySem.W.mg_none_of X G z_bool, z_sum := PySem.W.mg_none_of X G z_sum, z_sorted := PySem.W.mg_none_of X G z_sorted, z_str := PySem.W.mg_none_of X G z_str, z_all := PySem.W.mg_none_of X G z_all, z_tuple := PySem.W.mg_none_of X G z_tuple, z_isinstance := PySem.W.mg_none_of X G z_isinstance, c_LONGEST_NAME := ⟨_, PySem.W.mg_of X G e_LONGEST_NAME⟩, c_MOST_LENGTHS := ⟨_, PySem.W.mg_of X G e_MOST_LENGTHS⟩ }
  have F0 := fun_mk (st := s_take) l0 c0 k0
  have b0 := F0.binds (ps := ["_law_purse_here", "_law_many"]) fun _ _ _ _ _ _ us hl => match us, hl with | [_, _], _ => rfl
  have F1 := fun_mk (st := s_purse) l1 c1 k1
  have b1 := F1.binds (ps := ["_law_cell_here", "_law_k"]) fun _ _ _ _ _ _ us hl => match us, hl with | [_, _], _ => rfl
  have F2 := fun_mk (st := s_cell) l2 c2 k2
  have b2 := F2.binds (ps := ["_law_script", "_law_k"]) fun _ _ _ _ _ _ us hl => match us, hl with | [_, _], _ => rfl
  have F3 := fun_mk (st := s_names) l3 c3 k3
  have b3 := F3.binds (ps := ["_law_purse_here", "_law_many"]) fun _ _ _ _ _ _ us hl => match us, hl with | [_, _], _ => rfl
  have F4 := fun_mk (st := s_is_whole) l4 c4 k4
  have b4 := F4.binds (ps := ["thing"]) fun _ _ _ _ _ _ us hl => match us, hl with | [_], _ => rfl
  have F5 := fun_mk (st := s_is_name) l5 c5 k5
  have b5 := F5.binds (ps := ["thing"]) fun _ _ _ _ _ _ us hl => match us, hl with | [_], _ => rfl
  have F6 := fun_mk (st := s_check_benches) l6 c6 k6
  have b6 := F6.binds (ps := ["benches"]) fun _ _ _ _ _ _ us hl => match us, hl with | [_], _ => rfl
  have F7 := fun_mk (st := s_turns_filled) l7 c7 k7
  have b7 := F7.binds (ps := ["many", "benches"]) fun _ _ _ _ _ _ us hl => match us, hl with | [_, _], _ => rfl
  have F8 := fun_mk (st := s_check_lengths) l8 c8 k8
  have b8 := F8.binds (ps := ["lengths"]) fun _ _ _ _ _ _ us hl => match us, hl with | [_], _ => rfl
  have F9 := fun_mk (st := s_pieces_of_job) l9 c9 k9
  have b9 := F9.binds (ps := ["name", "length", "turns", "done"]) fun _ _ _ _ _ _ us hl => match us, hl with | [_, _, _, _], _ => rfl
  have F10 := fun_mk (st := s_all_pieces) l10 c10 k10
  have b10 := F10.binds (ps := ["turns", "lengths"]) fun _ _ _ _ _ _ us hl => match us, hl with | [_, _], _ => rfl
  have F11 := fun_mk (st := s_broken) l11 c11 k11
  have b11 := F11.binds (ps := ["benches", "lengths"]) fun _ _ _ _ _ _ us hl => match us, hl with | [_, _], _ => rfl
  have F12 := fun_mk (st := s_benches) l12 c12 k12
  have b12 := F12.binds (ps := ["_law_purse_here"]) fun _ _ _ _ _ _ us hl => match us, hl with | [_], _ => rfl
  have F13 := fun_mk (st := s_lengths) l13 c13 k13
  have b13 := F13.binds (ps := ["_law_purse_here"]) fun _ _ _ _ _ _ us hl => match us, hl with | [_], _ => rfl
  have F14 := fun_mk (st := s_whole) l14 c14 k14
  have b14 := F14.binds (ps := ["_law_found"]) fun _ _ _ _ _ _ us hl => match us, hl with | [_], _ => rfl
  have F15 := fun_mk (st := s_are_pieces) l15 c15 k15
  have b15 := F15.binds (ps := ["_law_found"]) fun _ _ _ _ _ _ us hl => match us, hl with | [_], _ => rfl
  have F16 := fun_mk (st := s_apart) l16 c16 k16
  have b16 := F16.binds (ps := ["_law_pieces", "_law_place"]) fun _ _ _ _ _ _ us hl => match us, hl with | [_, _], _ => rfl
  have F17 := fun_mk (st := s_fit) l17 c17 k17
  have b17 := F17.binds (ps := ["_law_benches_here", "_law_lengths_here", "_law_turns", "_law_pieces"]) fun _ _ _ _ _ _ us hl => match us, hl with | [_, _, _, _], _ => rfl
  have F18 := fun_mk (st := s_right) l18 c18 k18
  have b18 := F18.binds (ps := ["_law_benches_here", "_law_lengths_here"]) fun _ _ _ _ _ _ us hl => match us, hl with | [_, _], _ => rfl
  have F19 := fun_mk (st := s_law) l19 c19 k19
  refine ⟨PySem.W.fnOf "law" "law" (defArgs s_law) (defBody s_law) (defScope s_law) .none kV19 dc19 pm19 an19 cd19 ct19, fun s v => .of_eq rfl, fun base _ _ => ?_⟩
  have C_take : Cal l.prog w K mg base "_law_take" 1 ["_law_purse_here", "_law_many"] spTake := ⟨f0, _, PySem.W.mg_of X G a0, k0, b0, ok_take F0 ⟩
  have C_purse : Cal l.prog w K mg base "_law_purse" 1 ["_law_cell_here", "_law_k"] spPurse := ⟨f1, _, PySem.W.mg_of X G a1, k1, b1, ok_purse F1 T⟩
  have C_cell : Cal l.prog w K mg base "_law_cell" 1 ["_law_script", "_law_k"] (spCell K) := ⟨f2, _, PySem.W.mg_of X G a2, k2, b2, ok_cell F2 T⟩
  have C_lnames : Cal l.prog w K mg base "_law_names" 2 ["_law_purse_here", "_law_many"] spLNames := ⟨f3, _, PySem.W.mg_of X G a3, k3, b3, ok_names F3 T C_take⟩
  have C_is_whole : Cal l.prog w K mg base "is_whole" 1 ["thing"] spWhole := ⟨f4, _, PySem.W.mg_of X G a4, k4, b4, ok_is_whole F4 T⟩
  have C_is_name : Cal l.prog w K mg base "is_name" 1 ["thing"] spIsName := ⟨f5, _, PySem.W.mg_of X G a5, k5, b5, ok_is_name F5 T⟩
  have C_check_benches : Cal l.prog w K mg base "check_benches" 2 ["benches"] spCheckB := ⟨f6, _, PySem.W.mg_of X G a6, k6, b6, ok_check_benches F6 C_is_whole⟩
  have C_turns_filled : Cal l.prog w K mg base "turns_filled" 1 ["many", "benches"] spFilled := ⟨f7, _, PySem.W.mg_of X G a7, k7, b7, ok_turns_filled F7 ⟩
  have C_check_lengths : Cal l.prog w K mg base "check_lengths" 2 ["lengths"] spCheckL := ⟨f8, _, PySem.W.mg_of X G a8, k8, b8, ok_check_lengths F8 T C_is_name C_is_whole⟩
  have C_pieces_of_job : Cal l.prog w K mg base "pieces_of_job" 1 ["name", "length", "turns", "done"] spPJob := ⟨f9, _, PySem.W.mg_of X G a9, k9, b9, ok_pieces_of_job F9 ⟩
  have C_all_pieces : Cal l.prog w K mg base "all_pieces" 2 ["turns", "lengths"] spPAll := ⟨f10, _, PySem.W.mg_of X G a10, k10, b10, ok_all_pieces F10 C_pieces_of_job⟩
  have C_broken : Cal l.prog w K mg base "broken" 3 ["benches", "lengths"] spBroken := ⟨f11, _, PySem.W.mg_of X G a11, k11, b11, ok_broken F11 T C_check_benches C_check_lengths C_turns_filled C_all_pieces⟩
  have C_benches : Cal l.prog w K mg base "_law_benches" 2 ["_law_purse_here"] spLBenches := ⟨f12, _, PySem.W.mg_of X G a12, k12, b12, ok_benches F12 C_take⟩
  have C_lengths : Cal l.prog w K mg base "_law_lengths" 3 ["_law_purse_here"] spLLens := ⟨f13, _, PySem.W.mg_of X G a13, k13, b13, ok_lengths F13 T C_take C_lnames⟩
  have C_whole : Cal l.prog w K mg base "_law_whole" 1 ["_law_found"] spWhole := ⟨f14, _, PySem.W.mg_of X G a14, k14, b14, ok_whole F14 T⟩
  have C_are_pieces : Cal l.prog w K mg base "_law_are_pieces" 2 ["_law_found"] spArePcs := ⟨f15, _, PySem.W.mg_of X G a15, k15, b15, ok_are_pieces F15 T C_whole⟩
  have C_apart : Cal l.prog w K mg base "_law_apart" 1 ["_law_pieces", "_law_place"] spApart := ⟨f16, _, PySem.W.mg_of X G a16, k16, b16, ok_apart F16 T⟩
  have C_fit : Cal l.prog w K mg base "_law_fit" 1 ["_law_benches_here", "_law_lengths_here", "_law_turns", "_law_pieces"] spFit := ⟨f17, _, PySem.W.mg_of X G a17, k17, b17, ok_fit F17 T⟩
  have C_right : Cal l.prog w K mg base "_law_right" 4 ["_law_benches_here", "_law_lengths_here"] spRight := ⟨f18, _, PySem.W.mg_of X G a18, k18, b18, ok_right F18 T C_broken C_whole C_are_pieces C_fit C_apart⟩
  exact ok_law F19 T C_cell C_purse C_lengths C_benches C_right
theorem walk {l : PySem.W.OpenLaw} {q : Program} {loose : List Str} {XP : (Str → Option Value) → Heap → Prop} {YP : World → Heap → Prop} {d : DefRec} {K : Params → PySem.W.Frag} (hn : l.most = some 63) (hdf : d.params.defaults = [])
    (hY : ∀ (w : World) (h : Heap), YP w h → (K w.params).In h)
    (F : ∀ (w : World) (mg : Str → Option Value) (fa : Addr) (h : Heap), (K w.params).In h → h.Ns mainGlobals mg → mg d.name = some (.ref fa) →
      ∃ fd : FuncData, (∀ (s : Shared) (u : Value), BindsTo s fd ⟨[u], []⟩ [("_law_script", u)]) ∧ ∀ base : Heap, (K w.params).In base → base.Ns mainGlobals mg → FnOk l.prog w (K w.params) mg base CX0 5 fa fd ["_law_script"] (spLaw (K w.params))) :
    PySem.W.WalkO q loose XP YP l.row.toRowW d [] (fun f vs => PySem.call f vs) :=
  L2.walk_of (n := 63) (k := 5) (x := "_law_script") (CX := fun _ => CX0) (sp := fun w => spLaw (K w.params)) hn (by decide) hdf ⟨rfl, by decide, by decide⟩ hY F (fun _ _ a ns hl _ hS => ⟨a, ns, rfl, hS, hl, fun _ => rfl⟩) fun _ _ _ _ _ z => z
end My
namespace PySem.W.Fast
def tw4359699802681050288 : Nat := 0
def tw9302967612366975150 : Nat := 0
def tw9774550758849976212 : Nat := 0
def tw15575845681249076053 : Nat := 0
def tw4914457184789035728 : Nat := 0
def tw2718016058111316229 : Nat := 0
def tw1245019214211501160 : Nat := 0
def tw12689065835258905079 : Nat := 0
def tw3601284913331306037 : Nat := 0
def tw4655675226286512433 : Nat := 0
def tw7727969780792100179 : Nat := 0
end PySem.W.Fast
open PySem PySem.W PyProof.Rows
set_option maxRecDepth 100000 in
set_option maxHeartbeats 0 in
theorem PySem.Challenge.cw_levelbench_k73_whole_broken_off_holds : PySem.Challenge.rw_levelbench_k73_whole_broken_off.Holds := by
  w_on; o_law; k_head; (case hw => w_witness2)
  k_fill
  refine My.walk (l := PySem.Challenge.rw_levelbench_k73_whole_broken_off) rfl rfl (fun w h Y => PySem.W.kIn_of Y) ?F
  case F =>
    intro w mg fa h KX G hmg
    refine' My.all_mk KX G hmg ?a0 ?l0 ?c0 ?k0 ?a1 ?l1 ?c1 ?k1 ?a2 ?l2 ?c2 ?k2 ?a3 ?l3 ?c3 ?k3 ?a4 ?l4 ?c4 ?k4 ?a5 ?l5 ?c5 ?k5 ?a6 ?l6 ?c6 ?k6 ?a7 ?l7 ?c7 ?k7 ?a8 ?l8 ?c8 ?k8 ?a9 ?l9 ?c9 ?k9 ?a10 ?l10 ?c10 ?k10 ?a11 ?l11 ?c11 ?k11 ?a12 ?l12 ?c12 ?k12 ?a13 ?l13 ?c13 ?k13 ?a14 ?l14 ?c14 ?k14 ?a15 ?l15 ?c15 ?k15 ?a16 ?l16 ?c16 ?k16 ?a17 ?l17 ?c17 ?k17 ?a18 ?l18 ?c18 ?k18 ?a19 ?l19 ?c19 ?k19 ?z_len ?z_max ?z_range ?z_int ?z_list ?z_min ?z_dict ?z_enumerate ?z_bool ?z_sum ?z_sorted ?z_str ?z_all ?z_tuple ?z_isinstance ?e_LONGEST_NAME ?e_MOST_LENGTHS
    (case a0 => k_is)
    (case l0 => k_is)
    (case c0 => k_is)
    (case k0 => k_is)
    (case a1 => k_is)
    (case l1 => k_is)
    (case c1 => k_is)
    (case k1 => k_is)
    (case a2 => k_is)
    (case l2 => k_is)
    (case c2 => k_is)
    (case k2 => k_is)
    (case a3 => k_is)
    (case l3 => k_is)
    (case c3 => k_is)
    (case k3 => k_is)
    (case a4 => k_is)
    (case l4 => k_is)
    (case c4 => k_is)
    (case k4 => k_is)
    (case a5 => k_is)
    (case l5 => k_is)
    (case c5 => k_is)
    (case k5 => k_is)
    (case a6 => k_is)
    (case l6 => k_is)
    (case c6 => k_is)
    (case k6 => k_is)
    (case a7 => k_is)
    (case l7 => k_is)
    (case c7 => k_is)
    (case k7 => k_is)
    (case a8 => k_is)
    (case l8 => k_is)
    (case c8 => k_is)
    (case k8 => k_is)
    (case a9 => k_is)
    (case l9 => k_is)
    (case c9 => k_is)
    (case k9 => k_is)
    (case a10 => k_is)
    (case l10 => k_is)
    (case c10 => k_is)
    (case k10 => k_is)
    (case a11 => k_is)
    (case l11 => k_is)
    (case c11 => k_is)
    (case k11 => k_is)
    (case a12 => k_is)
    (case l12 => k_is)
    (case c12 => k_is)
    (case k12 => k_is)
    (case a13 => k_is)
    (case l13 => k_is)
    (case c13 => k_is)
    (case k13 => k_is)
    (case a14 => k_is)
    (case l14 => k_is)
    (case c14 => k_is)
    (case k14 => k_is)
    (case a15 => k_is)
    (case l15 => k_is)
    (case c15 => k_is)
    (case k15 => k_is)
    (case a16 => k_is)
    (case l16 => k_is)
    (case c16 => k_is)
    (case k16 => k_is)
    (case a17 => k_is)
    (case l17 => k_is)
    (case c17 => k_is)
    (case k17 => k_is)
    (case a18 => k_is)
    (case l18 => k_is)
    (case c18 => k_is)
    (case k18 => k_is)
    (case a19 => k_is)
    (case l19 => k_is)
    (case c19 => k_is)
    (case k19 => k_is)
    (case z_len => k_is)
    (case z_max => k_is)
    (case z_range => k_is)
    (case z_int => k_is)
    (case z_list => k_is)
    (case z_min => k_is)
    (case z_dict => k_is)
    (case z_enumerate => k_is)
    (case z_bool => k_is)
    (case z_sum => k_is)
    (case z_sorted => k_is)
    (case z_str => k_is)
    (case z_all => k_is)
    (case z_tuple => k_is)
    (case z_isinstance => k_is)
    (case e_LONGEST_NAME => k_is)
    (case e_MOST_LENGTHS => k_is)
