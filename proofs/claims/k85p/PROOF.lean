import PyProof.Rows.All
import Wide.All
import OpenK.AllK
import Wide.FinOn
import Lean
import PyProof.EqAt
import PyProof.EqKinds
import PyProof.TupleCall
import PyProof.StrLawsTight
import PyProof.FitsReplace
import KE.KSortTup
import PyProof.TupleKey
import PyProof.SetKind
import PyProof.IsRules
import PyProof.Rows.SetFrom
import PyProof.CollectWalk
import PyProof.DictUpdate
import PyProof.AutoListH
import PyProof.SeqI3
import PyProof.EnumStmt
import PyProof.EnumMake
import PyProof.Rows.CallKwBuiltin
import PyProof.NeKinds
import PyProof.StationsW
import PyProof.ExcClass3
import PyProof.PassesOwn
import OpenK.KOwn
import PyProof.RulesAs
import PyProof.RulesDel
import KE.KIsAll
import PyProof.ExcArgsOwn
import PyProof.StrLawsIn
import PyProof.Rows.Range3
import PyProof.Rows.FStr
import PyProof.DictItems
import PyProof.AttrMissHeap
import PyProof.ListCopy
import KE.KDictOf
import KE.KDictSum
import PyProof.Rows.SortRev
import PyProof.Rows.IntMath
import PyProof.Rows.TupDisplay
import PySem.Challenge.RW_levelbench_k85_plans_counted
set_option Elab.async false
set_option linter.all false
set_option maxRecDepth 100000
namespace L2
open PySem PySem.Spec PyProof.Rows
abbrev Key:=Sum Int Str
def keyIs:Key->Value->Bool
 | .inl k,v=>Value.isInt k v
 | .inr x,v=>Value.isStrOf x v
def keyH (w:World):Key->Int
 | .inl k=>hashInt k
 | .inr x=>hashStr w x
theorem zA5:∀{k:Key} {v:Value},keyIs k v=true->(∃i t,k=Sum.inl i/\v=Value.int i t)\/(∃x t,k=Sum.inr x/\v=Value.str x t)
 | .inl i,v,h=>by
  obtain ⟨t,e⟩:=Value.isInt_shape (k:=i) (v:=v) h
  exact .inl ⟨i,t,rfl,e⟩
 | .inr x,v,h=>by
  obtain ⟨t,e⟩:=Value.isStrOf_shape (x:=x) (v:=v) h
  exact .inr ⟨x,t,rfl,e⟩
theorem keyIs_int (i:Int) (t:Tok):keyIs (.inl i) (.int i t)=true:=by simp [keyIs,Value.isInt]
theorem keyIs_str (x:Str) (t:Tok):keyIs (.inr x) (.str x t)=true:=by simp [keyIs,Value.isStrOf]
theorem key_ll (a b:Int):decide ((Sum.inl a:Key)=Sum.inl b)=(a==b):=by
 by_cases e:a=b
 ·subst e;simp
 ·have h:¬(Sum.inl a:Key)=Sum.inl b:=fun q=>e (Sum.inl.inj q)
  rw [decide_eq_false h]
  exact (beq_eq_false_iff_ne.mpr e).symm
theorem key_rr (a b:Str):decide ((Sum.inr a:Key)=Sum.inr b)=decide (a=b):=by
 by_cases e:a=b
 ·subst e;simp
 ·have h:¬(Sum.inr a:Key)=Sum.inr b:=fun q=>e (Sum.inr.inj q)
  rw [decide_eq_false h,decide_eq_false e]
theorem key_lr (a:Int) (b:Str):decide ((Sum.inl a:Key)=Sum.inr b)=false:=decide_eq_false (fun q=>nomatch q)
theorem key_rl (a:Str) (b:Int):decide ((Sum.inr a:Key)=Sum.inl b)=false:=decide_eq_false (fun q=>nomatch q)
def zA2 (prog:Program) (w:World):PySem.KeyKind prog w Key where
 is:=keyIs
 hash:=keyH w
 inj:=fun v a b ha hb=>by
  rcases zA5 ha with ⟨i,t,rfl,rfl⟩| ⟨x,t,rfl,rfl⟩
  ·rcases zA5 hb with ⟨j,u,rfl,e⟩| ⟨y,u,rfl,e⟩
   ·injection e with e1 _;rw [e1]
   ·exact nomatch e
  ·rcases zA5 hb with ⟨j,u,rfl,e⟩| ⟨y,u,rfl,e⟩
   ·exact nomatch e
   ·injection e with e1 _;rw [e1]
 byValue:=fun k v h=>by
  rcases zA5 h with ⟨i,t,rfl,rfl⟩| ⟨x,t,rfl,rfl⟩<;>rfl
 pyHash:=fun hv h=>by
  rcases zA5 hv with ⟨i,t,rfl,rfl⟩| ⟨x,t,rfl,rfl⟩
  ·exact wpAny_pyHash_int h
  ·exact wpAny_pyHash_str h
 eqBool:=fun hu hv h=>by
  rcases zA5 hu with ⟨i,t,rfl,rfl⟩| ⟨x,t,rfl,rfl⟩
  ·rcases zA5 hv with ⟨j,u,rfl,rfl⟩| ⟨y,u,rfl,rfl⟩
   ·rw [key_ll] at h;exact wpAny_eqBool_int h
   ·rw [key_lr] at h;exact SeqAt.EqAt.int_str i t y u _ _ _ _ h
  ·rcases zA5 hv with ⟨j,u,rfl,rfl⟩| ⟨y,u,rfl,rfl⟩
   ·rw [key_rl] at h;exact SeqAt.EqAt.str_int x t j u _ _ _ _ h
   ·rw [key_rr] at h;exact wpAny_eqBool_str h
 «strs»:=fun k x t v h=>by
  rcases zA5 h with ⟨i,u,rfl,e⟩| ⟨y,u,rfl,e⟩
  ·exact nomatch e
  ·injection e with e1 _
   subst e1
   cases v<;>rfl
theorem mixKind_int (prog:Program) (w:World) (i:Int) (t:Tok):(zA2 prog w).is (.inl i) (.int i t)=true:=keyIs_int i t
theorem mixKind_str (prog:Program) (w:World) (x:Str) (t:Tok):(zA2 prog w).is (.inr x) (.str x t)=true:=keyIs_str x t
inductive V where
 | non| bl (b:Bool)| int (i:Int)| str (x:Str)| byt (b:Array UInt8)| flt (b:UInt64)| ref (a:Addr)| ty (n:String)
 deriving DecidableEq
def RelV:V->Value->Prop
 | .non,u=>u=Value.none
 | .bl b,u=>u=Value.bool b
 | .int i,u=>∃t,u=Value.int i t
 | .str x,u=>∃t,u=Value.str x t
 | .byt b,u=>∃t,u=Value.bytes b t
 | .flt b,u=>∃t,u=Value.float b t
 | .ref a,u=>u=Value.ref a
 | .ty n,u=>u=Value.type n
abbrev Vals:List V->List Value->Prop:=Paired RelV
theorem Vals.length {xs:List V} {us:List Value} (r:Vals xs us):xs.length=us.length:=Paired.length r
theorem Vals.get:∀{xs:List V} {us:List Value} {i:Nat} {x:V},Vals xs us->xs[i]?=some x->∃u,us[i]?=some u/\RelV x u
 | _,_,_,_,.nil,e=>by simp at e
 | _,_,0,_,.cons r _,e=>by simp at e;subst e;exact ⟨_,rfl,r⟩
 | _,_,i+1,x,.cons _ t,e=>by
  obtain ⟨u,h1,h2⟩:=Vals.get (i:=i) (x:=x) t (by simpa using e)
  exact ⟨u,by simpa using h1,h2⟩
theorem Vals.set {x:V} {u:Value} (r:RelV x u):∀{xs:List V} {us:List Value} (i:Nat),Vals xs us->Vals (xs.set i x) (us.set i u)
 | _,_,_,.nil=>.nil
 | _,_,0,.cons _ t=>.cons r t
 | _,_,i+1,.cons q t=>.cons q (Vals.set r i t)
theorem Vals.append:∀{xs ys:List V} {us ws:List Value},Vals xs us->Vals ys ws->Vals (xs++ys) (us++ws)
 | _,_,_,_,.nil,s=>s
 | _,_,_,_,.cons r t,s=>.cons r (Vals.append t s)
theorem Vals.take:∀{xs:List V} {us:List Value} (n:Nat),Vals xs us->Vals (xs.take n) (us.take n)
 | _,_,0,_=>.nil
 | _,_,_+1,.nil=>.nil
 | _,_,n+1,.cons r t=>.cons r (Vals.take n t)
theorem Vals.drop:∀{xs:List V} {us:List Value} (n:Nat),Vals xs us->Vals (xs.drop n) (us.drop n)
 | _,_,0,r=>r
 | _,_,_+1,.nil=>.nil
 | _,_,n+1,.cons _ t=>Vals.drop n t
def RelO:Option V->Option Value->Prop
 | some v,some u=>RelV v u
 | none,none=>True
 | _,_=>False
def KV {κ:Type}:List (κ×V)->List (κ×Value)->Prop:=Paired fun (p:κ×V) (q:κ×Value)=>p.1=q.1/\RelV p.2 q.2
def kV:Key->V
 | .inl i=>.int i
 | .inr x=>.str x
inductive HO where
 | lst (xs:List V)
 | tup (xs:List V)
 | dK (kvs:List (Key×V))| dT (kvs:List (List Key×V))
 | set (S:Int->Bool) (n:Nat)
 | ins (C dx:Addr) (fs:List (Str×V))
 | own (x:Addr)
 | xd (fs:List (Str×V))
 | met (f x:Addr)
 | rng (lo hi:Int)
 | frz (o:Obj) (u:HO)
 | tbl (ps:Array Value)
 | ext (φ:Heap->Prop)
abbrev Hp:=Addr->Option HO
def upd (H:Hp) (a:Addr) (o:HO):Hp:=fun b=>if b=a then some o else H b
theorem upd_same {H:Hp} {a:Addr} {o:HO}:upd H a o a=some o:=by unfold upd;rw [if_pos rfl]
theorem upd_ne {H:Hp} {a b:Addr} {o:HO} (h:b≠a):upd H a o b=H b:=by unfold upd;rw [if_neg h]
theorem zBg {H:Hp} {a:Addr} {o u:HO}:upd (upd H a o) a u=upd H a u:=by
 funext b;unfold upd;split<;>rfl
theorem zBe {H:Hp} {a b:Addr} {o u:HO} (h:H a=some o) (h':H b=some u) (d:o≠u):a≠b:=by
 intro e;subst e;rw [h] at h';exact d (Option.some.inj h')
theorem zAk {H:Hp} {a b:Addr} {o:HO} (h:H a=some o) (h':H b=none):a≠b:=by
 intro e;subst e;rw [h] at h';cases h'
section
variable (P:Program) (w:World)
def zA8 (H:Hp) (h:Heap) (a:Addr):HO->Prop
 | .lst xs=>xs.length<=sizeLine/\∃(its:List Value) (n:Nat),Vals xs its/\h.get? a=some {cls:=.type "list",data:=.seq its.toArray n}
 | .tup xs=>xs.length<=sizeLine/\∃its:List Value,Vals xs its/\IsTup h a its.toArray
 | .dK kvs=>kvs.length<=sizeLine/\(a==sysModules)=false/\∃vs,KV kvs vs/\h.DictOf (zA2 P w) a vs
 | .dT kvs=>kvs.length<=sizeLine/\(a==sysModules)=false/\∃xs:List (List Key×Addr×Value),
   Paired (fun (p:List Key×V) (q:List Key×Addr×Value)=>p.1=q.1/\H q.2.1=some (.tup (p.1.map kV))/\RelV p.2 q.2.2) kvs xs /\
   ∃o es ep,h.get? a=some o/\o.ExactDict/\o.data= .dict es ep/\es.toList=xs.map (entryOfKey (tupleKind (zA2 P w)))/\(xs.map (·.1)).Nodup
 | .set S n=>h.SetOf (intKind P w) a S n
 | .ins C dx fs=>H dx=some (.own a)/\fs.length<=1000/\dx≠a/\h.get? a=some (PySem.W.instObj C dx) /\
   ∃mA,h.Ns1 dx mA/\(∀f,RelO (fs.lookup f) (mA f))/\PySem.Within mA (fs.map (·.1))
 | .own _=>∃o,h.get? a=some o
 | .xd fs=>∃mA,h.Ns1 a mA/\∀f,RelO (fs.lookup f) (mA f)
 | .rng lo hi=>∃t u v,h.get? a=some {cls:=.type "range",data:=.fields #[.int lo t,.int hi u,.int 1 v]}
 | .frz o u=>h.get? a=some o/\zA8 H h a u
 | .tbl ps=>h.get? a=some {cls:=.none,data:=.fields ps}
 | .met f x=>h.get? a=some (PySem.W.methodObj (.ref f) (.ref x))
 | .ext φ=>φ h/\(∃o,h.get? a=some o)/\∀h1 h2:Heap,φ h1->(∀o,h1.get? a=some o->h2.get? a=some o)->φ h2
def HOk (H:Hp) (h:Heap):Prop:=∀a o,H a=some o->zA8 P w H h a o
end
section
variable {P:Program} {w:World} {H H':Hp} {h h':Heap} {a:Addr} {o:HO}
theorem zA8.lt (x:zA8 P w H h a o):a<h.objs.size:=by
 cases o with
 | lst xs=>obtain ⟨_,_,_,_,e⟩:=x;exact Heap.lt_size e
 | tup xs=>obtain ⟨_,_,_,p⟩:=x;exact p.lt
 | dK kvs=>obtain ⟨_,_,_,_,o,_,_,e,_⟩:=x;exact Heap.lt_size e
 | dT kvs=>obtain ⟨_,_,_,_,o,_,_,e,_⟩:=x;exact Heap.lt_size e
 | set S n=>obtain ⟨o,_,_,_,e,_⟩:=x;exact Heap.lt_size e
 | ins C dx fs=>obtain ⟨_,_,_,e,_⟩:=x;exact Heap.lt_size e
 | own y=>obtain ⟨_,e⟩:=x;exact Heap.lt_size e
 | xd fs=>obtain ⟨_,⟨_,_,_,e,_⟩,_⟩:=x;exact Heap.lt_size e
 | rng lo hi=>obtain ⟨_,_,_,e⟩:=x;exact Heap.lt_size e
 | frz ob u=>obtain ⟨e,_⟩:=x;exact Heap.lt_size e
 | tbl ps=>exact Heap.lt_size (show h.get? a=some _ from x)
 | met f y=>exact Heap.lt_size (show h.get? a=some _ from x)
 | ext φ=>obtain ⟨_,⟨_,e⟩,_⟩:=x;exact Heap.lt_size e
theorem Paired.mapP {α β:Type} {F G:α->β->Prop}:∀{l₁:List α} {l₂:List β},Paired F l₁ l₂->(∀a b,F a b->G a b)->Paired G l₁ l₂
 | _,_,.nil,_=>.nil
 | _,_,.cons r t,f=>.cons (f _ _ r) (Paired.mapP t f)
theorem zA8.stay (x:zA8 P w H h a o) (k:∀b u,(b=a\/H b=some (.own a))->h.get? b=some u->h'.get? b=some u)
  (ho:∀b,H b=some (.own a)->H' b=some (.own a)) (ht:∀b xs,H b=some (.tup xs)->H' b=some (.tup xs)):zA8 P w H' h' a o:=by
 induction o with
 | lst xs=>obtain ⟨z,its,n,r,e⟩:=x;exact ⟨z,its,n,r,k _ _ (.inl rfl) e⟩
 | tup xs=>obtain ⟨z,its,r,ob,e,c⟩:=x;exact ⟨z,its,r,ob,k _ _ (.inl rfl) e,c⟩
 | dK kvs=>obtain ⟨z,y,vs,r,ob,es,ep,e,c⟩:=x;exact ⟨z,y,vs,r,ob,es,ep,k _ _ (.inl rfl) e,c⟩
 | dT kvs =>
  obtain ⟨z,y,xs,r,ob,es,ep,e,c⟩:=x
  exact ⟨z,y,xs,Paired.mapP r fun p q z=>⟨z.1,ht _ _ z.2.1,z.2.2⟩,ob,es,ep,k _ _ (.inl rfl) e,c⟩
 | set S n=>obtain ⟨ob,es,ep,t,e,c⟩:=x;exact ⟨ob,es,ep,t,k _ _ (.inl rfl) e,c⟩
 | ins C dx fs =>
  obtain ⟨d,z,ne,e,mA,⟨od,es,ep,e2,c⟩,r⟩:=x
  exact ⟨ho _ d,z,ne,k _ _ (.inl rfl) e,mA,⟨od,es,ep,k _ _ (.inr d) e2,c⟩,r⟩
 | own y=>obtain ⟨ob,e⟩:=x;exact ⟨ob,k _ _ (.inl rfl) e⟩
 | xd fs=>obtain ⟨mA,⟨od,es,ep,e,c⟩,r⟩:=x;exact ⟨mA,⟨od,es,ep,k _ _ (.inl rfl) e,c⟩,r⟩
 | rng lo hi=>obtain ⟨t,u,v,e⟩:=x;exact ⟨t,u,v,k _ _ (.inl rfl) e⟩
 | frz ob u ih=>obtain ⟨e,q⟩:=x;exact ⟨k _ _ (.inl rfl) e,ih q⟩
 | tbl ps =>
  have e:h.get? a=some {cls:=.none,data:=.fields ps}:=x
  show h'.get? a=some {cls:=.none,data:=.fields ps}
  exact k a _ (.inl rfl) e
 | met f y =>
  have e:h.get? a=some (PySem.W.methodObj (.ref f) (.ref y)):=x
  show h'.get? a=some (PySem.W.methodObj (.ref f) (.ref y))
  exact k a _ (.inl rfl) e
 | ext φ=>obtain ⟨p,⟨o,e⟩,st⟩:=x;exact ⟨st _ _ p fun o q=>k _ _ (.inl rfl) q,⟨o,k _ _ (.inl rfl) e⟩,st⟩
theorem HOk.lt (x:HOk P w H h) (e:H a=some o):a<h.objs.size:=(x a o e).lt
theorem HOk.fresh (x:HOk P w H h) (e:h.objs.size<=a):H a=none:=by
 cases q:H a with
 | none=>rfl
 | some u=>exact absurd (Nat.lt_of_lt_of_le (x.lt q) e) (Nat.lt_irrefl _)
theorem HOk.kept (x:HOk P w H h) (k:∀b u,h.get? b=some u->h'.get? b=some u):HOk P w H h':=fun a o e =>
 (x a o e).stay (fun b u _ q=>k b u q) (fun _ q=>q) fun _ _ q=>q
theorem HOk.laid (x:HOk P w H h) (k:∀b u,h.get? b=some u->h'.get? b=some u) (hp:h.objs.size<=a) (new:zA8 P w (upd H a o) h' a o):HOk P w (upd H a o) h':=fun b u e=>by
 have hn:=x.fresh hp
 by_cases hb:b=a
 ·subst hb;rw [upd_same] at e;cases e;exact new
 ·rw [upd_ne hb] at e
  exact (x b u e).stay (fun c v _ q=>k c v q) (fun c q=>by rw [upd_ne (zAk q hn)];exact q) fun c xs q=>by rw [upd_ne (zAk q hn)];exact q
end
def Rd (H:Hp) (a:Addr) (u:HO):Prop:=H a=some u\/∃o,H a=some (.frz o u)
theorem Rd.ok {P:Program} {w:World} {H:Hp} {h:Heap} {a:Addr} {u:HO} (r:Rd H a u) (x:HOk P w H h):zA8 P w H h a u:=by
 rcases r with r| ⟨o,r⟩
 ·exact x a u r
 ·obtain ⟨_,q⟩:=x a _ r
  exact q
def Mut:Option HO->Prop
 | some (.lst _)=>True
 | some (.dK _)=>True
 | some (.dT _)=>True
 | some (.set _ _)=>True
 | some (.ins _ _ _)=>True
 | some (.ext _)=>True
 | _=>False
section
variable {P:Program} {w:World} {H:Hp} {h h':Heap} {x e:Addr} {o':HO}
theorem HOk.write (ok:HOk P w H h) (mu:Mut (H x)) (he:e=x\/H e=some (.own x)) (k:∀b u,b≠e->h.get? b=some u->h'.get? b=some u) (heo:∃u,h'.get? e=some u)
  (new:zA8 P w (upd H x o') h' x o'):HOk P w (upd H x o') h':=fun b u q=>by
 have nown:∀c y,H c=some (.own y)->c≠x:=fun c y r z=>by subst z;rw [r] at mu;exact mu
 have ntup:∀c xs,H c=some (.tup xs)->c≠x:=fun c xs r z=>by subst z;rw [r] at mu;exact mu
 by_cases hb:b=x
 ·subst hb;rw [upd_same] at q;cases q;exact new
 ·rw [upd_ne hb] at q
  by_cases hbe:b=e
  ·have q':H b=some (.own x):=by
    rcases he with z| z
    ·exact absurd (hbe.trans z) hb
    ·rw [hbe];exact z
   rw [q] at q';cases q'
   obtain ⟨v,hv⟩:=heo
   exact ⟨v,by rw [hbe];exact hv⟩
  ·refine (ok b u q).stay (fun c v hc r=>k c v ?_ r) (fun c r=>by rw [upd_ne (nown c b r)];exact r) fun c xs r=>by rw [upd_ne (ntup c xs r)];exact r
   rcases hc with rfl| hc
   ·exact hbe
   ·rintro rfl
    rcases he with z| z
    ·exact nown c b hc z
    ·rw [hc] at z;cases z;exact hb rfl
end
structure Un (fs ex:List Addr) (H H':Hp) (h h':Heap):Prop where
 keep:∀b o,h.get? b=some o->H b=none->b∉fs->b∉ex->h'.get? b=some o
 slot:∀b o,h.get? b=some o->H b=none->b∈fs->b∉ex->∃sl,h'.get? b=some {o with slots:=sl}
 free:∀b o,h.get? b=some o->H b=none->b∉ex->H' b=none
 there:∀b o,h.get? b=some o->b∉ex->∃o',h'.get? b=some o'
 tups:∀b xs,H b=some (.tup xs)->H' b=some (.tup xs)
 frzs:∀b o u,H b=some (.frz o u)->H' b=some (.frz o u)
 tbls:∀b ps,H b=some (.tbl ps)->∃more,H' b=some (.tbl (ps++more))
section
variable {fs fs' ex ex':List Addr} {H H1 H2:Hp} {h h1 h2 h':Heap} {a x e:Addr} {o:HO}
theorem Un.any (u:Un fs ex H H1 h h1) {b:Addr} {ob:Obj} (q:h.get? b=some ob) (n:H b=none) (hx:b∉ex):∃sl,h1.get? b=some {ob with slots:=sl}:=by
 by_cases hb:b∈fs
 ·exact u.slot b ob q n hb hx
 ·exact ⟨ob.slots,u.keep b ob q n hb hx⟩
theorem Un.kept (k:∀b u,h.get? b=some u->h'.get? b=some u):Un fs ex H H h h' :=
 ⟨fun b ob q _ _ _=>k b ob q,fun b ob q _ _ _=>⟨ob.slots,k b ob q⟩,fun _ _ _ n _=>n,fun b ob q _=>⟨ob,k b ob q⟩,fun _ _ q=>q,fun _ _ _ q=>q,fun _ ps q=>⟨#[],by rw [q];simp⟩⟩
theorem Un.refl:Un fs ex H H h h:=Un.kept fun _ _ q=>q
theorem Un.laid (k:∀b u,h.get? b=some u->h'.get? b=some u) (hp:h.objs.size<=a) (hn:H a=none):Un fs ex H (upd H a o) h h' where
 keep:=fun b u q _ _ _=>k b u q
 slot:=fun b u q _ _ _=>⟨u.slots,k b u q⟩
 free:=fun b u q n _=>by rw [upd_ne (Nat.ne_of_lt (Nat.lt_of_lt_of_le (Heap.lt_size q) hp))];exact n
 there:=fun b u q _=>⟨u,k b u q⟩
 tups:=fun b xs q=>by rw [upd_ne (zAk q hn)];exact q
 frzs:=fun b u xs q=>by rw [upd_ne (zAk q hn)];exact q
 tbls:=fun b ps q=>⟨#[],by rw [upd_ne (zAk q hn),q];simp⟩
theorem Un.write (mu:Mut (H x)) (he:e=x\/H e=some (.own x)) (k:∀b u,b≠e->h.get? b=some u->h'.get? b=some u) (heo:∃u,h'.get? e=some u):Un fs ex H (upd H x o) h h':=by
 have hx:∀b,H b=none->b≠x:=fun b n z=>by subst z;rw [n] at mu;exact mu
 have hb:∀b,H b=none->b≠e:=fun b n z=>by
  subst z
  rcases he with r| r
  ·exact hx b n r
  ·rw [n] at r;cases r
 have hm:∀b u,H b=some u->¬Mut (some u)->b≠x:=fun b u q nm z=>by subst z;rw [q] at mu;exact nm mu
 refine ⟨fun b u q n _ _=>k b u (hb b n) q,fun b u q n _ _=>⟨u.slots,k b u (hb b n) q⟩,fun b u q n _=>by rw [upd_ne (hx b n)];exact n,fun b u q _=>?_,
  fun b xs q=>by rw [upd_ne (hm b _ q fun z=>z)];exact q,fun b u xs q=>by rw [upd_ne (hm b _ q fun z=>z)];exact q,fun b ps q=>⟨#[],by rw [upd_ne (hm b _ q fun z=>z),q];simp⟩⟩
 by_cases hbe:b=e
 ·subst hbe;exact heo
 ·exact ⟨u,k b u hbe q⟩
end
def trk (h:Heap) (H:Hp):List Addr:=(List.range h.objs.size).filter fun a=>(H a).isSome
def hidT (h:Heap) (H:Hp):Heap:=PySem.W.hideAll h (trk h H)
theorem hidT_size (h:Heap) (H:Hp):(hidT h H).objs.size=h.objs.size:=PySem.W.hideAll_size _ _
theorem hidT_get {h:Heap} {H:Hp} {b:Addr} {o:Obj} (e:h.get? b=some o) (n:H b=none):(hidT h H).get? b=some o :=
 PySem.W.hideAll_get _ e fun hm=>by
  have q:(H b).isSome=true:=(List.mem_filter.mp hm).2
  rw [n] at q;simp at q
theorem of_hidT {h:Heap} {H:Hp} {b:Addr} {o:Obj} (e:(hidT h H).get? b=some o):h.get? b=some o/\H b=none:=by
 have e':h.get? b=some o:=PySem.W.of_hideAll (trk h H) e
 refine ⟨e',?_⟩
 cases q:H b with
 | none=>rfl
 | some x =>
  have hm:b∈trk h H:=List.mem_filter.mpr ⟨List.mem_range.mpr (Heap.lt_size e'),by simp [q]⟩
  have z:(hidT h H).get? b=none:=PySem.W.hideAll_none (trk h H) hm
  rw [z] at e;cases e
structure Mod (K:PySem.W.Frag) (mg:Str->Option Value) (base:Heap):Prop where
 kin:K.In base
 glob:base.Ns mainGlobals mg
 blt:∃mb,base.Ns builtinsNs mb/\∀x:Str,x≠ "__name__" ->mb x=bootBuiltins x
 nolimit:base.NoLimit
structure Cx where
 prog:Program
 w:World
 K:PySem.W.Frag
 mg:Str->Option Value
 base:Heap
 A:Around
 N:List Str
 s₀:Shared
 H₀:Hp
 env:Env
 outer:List Env
 stack:List Env
 ex:List Addr
 fn:Str->Bool
 calm:Bool
 pn:List (Addr×Obj)
 xe:Value->Shared->Prop
def frs (l:List Env):List Addr:=l.filterMap (·.frame)
abbrev Cx.fs (X:Cx):List Addr:=frs X.outer
def Vis (sc:Scope) (x:Str):Prop:=sc.names.lookup x=some .local\/sc.names.lookup x=some .cell\/sc.names.lookup x=some .free
def Loc (sc:Scope) (x:Str):Prop:=sc.names.lookup x=some .local\/sc.names.lookup x=some .cell
def Look (env:Env) (h:Heap) (m:Str->Option Value) (x:Str) (u:Value):Prop :=
 (env.kindOf x=some .local/\m x=some u)\/((env.kindOf x=some .cell\/env.kindOf x=some .free)/\∃c,env.cells.lookup x=some c/\h.IsCell c (some u))
structure Cx.Ok (X:Cx):Prop where
 mod:Mod X.K X.mg X.base
 kind:X.env.scope.kind= .function
 glob:X.env.globals=mainGlobals
 blt:X.env.builtins=builtinsNs
 above:X.s₀.heap.objs.size<=X.env.locals
 inj:∀x y c,X.env.cells.lookup x=some c->X.env.cells.lookup y=some c->x=y
 has:∀x,(X.env.kindOf x=some .cell\/X.env.kindOf x=some .free)->∃c,X.env.cells.lookup x=some c
 cab:∀x c,X.fn x=true->X.env.cells.lookup x=some c->X.s₀.heap.objs.size<=c
 hd:X.calm=true->X.A.handled=none
 frames:X.A.frames=some X.stack
 stk:X.stack=X.outer\/(X.stack=X.env::X.outer/\X.env.frame=some X.env.locals)
 exf:∀b∈X.ex,b≠X.env.locals/\∀x c,X.env.cells.lookup x=some c->c≠b
 bs:∀b o,X.base.get? b=some o->X.s₀.heap.get? b=some o/\X.H₀ b=none
 bsz:X.base.objs.size<=X.s₀.heap.objs.size
 noex:∀b o,X.base.get? b=some o->b∉X.ex
 exfs:∀b∈X.ex,b∉X.fs
 funs:X.s₀.heap.FunFrames X.base X.outer
 frf:∀b∈X.fs,X.H₀ b=none
structure Inv (X:Cx) (pins:List (Addr×Obj)) (σ:List (Option V)) (H:Hp) (s:Shared):Prop where
 ok:X.Ok
 os:s.os=X.s₀.os
 bare:AllBare s.gens
 base:Un X.fs X.ex X.H₀ H X.s₀.heap s.heap
 loc:∃m,s.heap.Ns X.env.locals m/\∀(i:Nat) (x:Str) (v:V),X.N[i]?=some x->σ[i]?=some (some v)->Vis X.env.scope x->∃u,RelV v u/\Look X.env s.heap m x u
 cell:∀x c,X.env.cells.lookup x=some c->∃v,s.heap.IsCell c v
 free:H X.env.locals=none
 freeC:∀x c,X.env.cells.lookup x=some c->H c=none
 pin:∀p∈X.pn++pins,s.heap.get? p.1=some p.2/\H p.1=none/\p.1≠X.env.locals/\p.1∉X.fs/\∀v,p.2.data≠.cell v
 hok:HOk X.prog X.w H s.heap
 len:σ.length=X.N.length
section
variable {X:Cx} {pins:List (Addr×Obj)} {σ:List (Option V)} {H H':Hp} {s:Shared} {h':Heap}
theorem Cx.Ok.nofr (ok:X.Ok) {b:Addr} {o:Obj} (e:X.base.get? b=some o):b∉X.fs:=fun hb=>by
 have:=(ok.funs.mem hb).1
 rw [e] at this;cases this
theorem Inv.bs (I:Inv X pins σ H s):∀b o,X.base.get? b=some o->s.heap.get? b=some o/\H b=none:=fun b o e =>
 ⟨I.base.keep b o (I.ok.bs b o e).1 (I.ok.bs b o e).2 (I.ok.nofr e) (I.ok.noex b o e),I.base.free b o (I.ok.bs b o e).1 (I.ok.bs b o e).2 (I.ok.noex b o e)⟩
theorem Inv.bk (I:Inv X pins σ H s):∀b o,X.base.get? b=some o->s.heap.get? b=some o:=fun b o e=>(I.bs b o e).1
theorem Inv.mod (I:Inv X pins σ H s):Mod X.K X.mg X.base:=I.ok.mod
theorem Inv.kIn (I:Inv X pins σ H s):X.K.In s.heap:=I.ok.mod.kin.keeps I.bk
theorem Inv.lt (I:Inv X pins σ H s):X.env.locals<s.heap.objs.size:=let ⟨_,hn,_⟩:=I.loc;hn.lt
theorem Inv.sz (I:Inv X pins σ H s):X.s₀.heap.objs.size<=s.heap.objs.size:=Nat.le_trans I.ok.above (Nat.le_of_lt I.lt)
theorem Inv.nofs (I:Inv X pins σ H s) {a:Addr} (h:s.heap.objs.size<=a):a∉X.fs:=fun hb=>by
 obtain ⟨_,o,ho,_⟩:=I.ok.funs.mem hb
 exact absurd (Nat.lt_of_lt_of_le (Heap.lt_size ho) (Nat.le_trans I.sz h)) (Nat.lt_irrefl _)
theorem Inv.cne (I:Inv X pins σ H s):∀x c,X.env.cells.lookup x=some c->c≠X.env.locals:=fun x c e z=>by
 obtain ⟨v,o,ho,hd⟩:=I.cell x c e
 obtain ⟨m,⟨o',es,ep,ho',hd',_⟩,_⟩:=I.loc
 rw [z,ho'] at ho;cases ho;rw [hd'] at hd;cases hd
theorem Inv.funs (I:Inv X pins σ H s):s.heap.FunFrames X.base X.outer:=by
 have all:∀(l:List Env),(∀b∈frs l,b∈X.fs)->X.s₀.heap.FunFrames X.base l->s.heap.FunFrames X.base l:=by
  intro l
  induction l with
  | nil=>intro _ _;trivial
  | cons env r ih =>
   intro hs hl
   obtain ⟨hk,⟨L,o,hf,hn,ho,hd⟩,hr⟩:=hl
   have hL:L∈X.fs:=hs L (by unfold frs;rw [List.filterMap_cons,hf];exact List.mem_cons_self)
   obtain ⟨sl,e⟩:=I.base.slot L o ho (I.ok.frf L hL) hL fun z=>I.ok.exfs L z hL
   exact ⟨hk,⟨L,_,hf,hn,e,hd⟩,ih (fun b hb=>hs b (by unfold frs;rw [List.filterMap_cons,hf];exact List.mem_cons_of_mem _ hb)) hr⟩
 exact all X.outer (fun _ hb=>hb) I.ok.funs
theorem Inv.stack (I:Inv X pins σ H s):s.heap.FunFrames X.base X.stack:=by
 rcases I.ok.stk with e| ⟨e,hf⟩
 ·rw [e];exact I.funs
 ·rw [e]
  obtain ⟨m,hn,_⟩:=I.loc
  refine .cons (by rw [I.ok.kind];decide) hf hn ?_ I.funs
  exact Heap.get?_none_of_le (Nat.le_trans I.ok.bsz I.ok.above)
theorem Inv.stkSub (I:Inv X pins σ H s):∀b∈frs X.stack,b∈X.env.locals::X.fs:=fun b hb=>by
 rcases I.ok.stk with e| ⟨e,hf⟩
 ·rw [e] at hb;exact List.mem_cons_of_mem _ hb
 ·rw [e] at hb
  unfold frs at hb
  rw [List.filterMap_cons,hf] at hb
  exact hb
theorem Inv.stkFree (I:Inv X pins σ H s):∀b∈frs X.stack,H b=none:=fun b hb=>by
 rcases List.mem_cons.mp (I.stkSub b hb) with e| hb
 ·rw [e];exact I.free
 ·obtain ⟨_,o,ho,_⟩:=I.ok.funs.mem hb
  exact I.base.free b o ho (I.ok.frf b hb) fun z=>I.ok.exfs b z hb
theorem Inv.step {g':Array GenState} {t':Nat} {d':Drawn} {ch:List Addr} (I:Inv X pins σ H s)
  (hch:∀b∈ch,(b∈X.ex\/X.s₀.heap.objs.size<=b)/\b≠X.env.locals/\(∀x c,X.env.cells.lookup x=some c->c≠b)/\∀p∈X.pn++pins,p.1≠b)
  (keep:∀b o,b≠X.env.locals->b∉X.fs->b∉ch->s.heap.get? b=some o->H b=none->h'.get? b=some o)
  (slot:∀b o,b≠X.env.locals->b∈X.fs->b∉ch->s.heap.get? b=some o->H b=none->∃sl,h'.get? b=some {o with slots:=sl}) (free:∀b o,b∉ch->s.heap.get? b=some o->H b=none->H' b=none)
  (there:∀b o,b∉ch->s.heap.get? b=some o->∃o',h'.get? b=some o')
  (tups:∀b xs,H b=some (.tup xs)->H' b=some (.tup xs)) (frzs:∀b o u,H b=some (.frz o u)->H' b=some (.frz o u)) (tbls:∀b ps,H b=some (.tbl ps)->∃more,H' b=some (.tbl (ps++more)))
  (ns:∀m,s.heap.Ns X.env.locals m->h'.Ns X.env.locals m) (hok:HOk X.prog X.w H' h') (hg:AllBare g') :
  Inv X pins σ H' {s with heap:=h',gens:=g',drawn:=d',toks:=t'}:=by
 have neL:∀b o,X.s₀.heap.get? b=some o->b≠X.env.locals:=fun b o e=>Nat.ne_of_lt (Nat.lt_of_lt_of_le (Heap.lt_size e) I.ok.above)
 have neC:∀b o,X.s₀.heap.get? b=some o->b∉X.ex->b∉ch:=fun b o e hx hb=>by
  rcases (hch b hb).1 with z| z
  ·exact hx z
  ·exact absurd (Nat.lt_of_lt_of_le (Heap.lt_size e) z) (Nat.lt_irrefl _)
 have cellK:∀x c,X.env.cells.lookup x=some c->∀v,s.heap.IsCell c v->h'.IsCell c v:=fun x c e v ⟨o,ho,hd⟩=>by
  have nch:c∉ch:=fun z=>(hch c z).2.2.1 x c e rfl
  by_cases hc:c∈X.fs
  ·obtain ⟨sl,q⟩:=slot c o (I.cne x c e) hc nch ho (I.freeC x c e)
   exact ⟨_,q,hd⟩
  ·exact ⟨o,keep c o (I.cne x c e) hc nch ho (I.freeC x c e),hd⟩
 refine ⟨I.ok,I.os,hg,⟨fun b o e n hb hx=>?_,fun b o e n hb hx=>?_,fun b o e n hx=>?_,fun b o e hx=>?_,fun b xs e=>tups b xs (I.base.tups b xs e),fun b o xs e=>frzs b o xs (I.base.frzs b o xs e),fun b ps e=>?_⟩,?_,fun x c e=>?_,?_,fun x c e=>?_,fun p hp=>?_,hok,I.len⟩
 ·exact keep b o (neL b o e) hb (neC b o e hx) (I.base.keep b o e n hb hx) (I.base.free b o e n hx)
 ·obtain ⟨sl,e1⟩:=I.base.slot b o e n hb hx
  obtain ⟨sl',e2⟩:=slot b _ (neL b o e) hb (neC b o e hx) e1 (I.base.free b o e n hx)
  exact ⟨sl',e2⟩
 ·obtain ⟨o',e1⟩:=I.base.there b o e hx
  exact free b o' (neC b o e hx) e1 (I.base.free b o e n hx)
 ·obtain ⟨o',e1⟩:=I.base.there b o e hx
  exact there b o' (neC b o e hx) e1
 ·obtain ⟨m1,e1⟩:=I.base.tbls b ps e
  obtain ⟨m2,e2⟩:=tbls b _ e1
  exact ⟨m1++m2,by rw [e2,Array.append_assoc]⟩
 ·obtain ⟨m,hn,hl⟩:=I.loc
  refine ⟨m,ns m hn,fun i x v e1 e2 e3=>?_⟩
  obtain ⟨u,r,l⟩:=hl i x v e1 e2 e3
  refine ⟨u,r,?_⟩
  rcases l with l| ⟨k,c,e,z⟩
  ·exact .inl l
  ·exact .inr ⟨k,c,e,cellK x c e _ z⟩
 ·obtain ⟨v,z⟩:=I.cell x c e
  exact ⟨v,cellK x c e v z⟩
 ·obtain ⟨m,⟨o,_,_,ho,_⟩,_⟩:=I.loc
  exact free _ o (fun z=>(hch _ z).2.1 rfl) ho I.free
 ·obtain ⟨v,o,ho,hd⟩:=I.cell x c e
  exact free c o (fun z=>(hch c z).2.2.1 x c e rfl) ho (I.freeC x c e)
 ·obtain ⟨e,n,ne,nf,d⟩:=I.pin p hp
  have nch:p.1∉ch:=fun z=>(hch p.1 z).2.2.2 p hp rfl
  exact ⟨keep p.1 p.2 ne nf nch e n,free p.1 p.2 nch e n,ne,nf,d⟩
theorem Inv.un {t':Nat} (I:Inv X pins σ H s) (u:Un X.fs [] H H' s.heap h') (hok:HOk X.prog X.w H' h'):Inv X pins σ H' {s with heap:=h',toks:=t'}:=by
 obtain ⟨m,⟨o,es,ep,ho,r⟩,_⟩:=id I.loc
 obtain ⟨sl,hL⟩:=u.any ho I.free (by simp)
 exact I.step (g':=s.gens) (d':=s.drawn) (ch:=[]) (fun _ z=>nomatch z) (fun b o _ hb _ e n=>u.keep b o e n hb (by simp)) (fun b o _ hb _ e n=>u.slot b o e n hb (by simp)) (fun b o _ e n=>u.free b o e n (by simp)) (fun b o _ e=>u.there b o e (by simp)) u.tups u.frzs u.tbls (fun m' hm=>by
  obtain ⟨o',es',ep',ho',r'⟩:=hm
  rw [ho] at ho';cases ho'
  exact ⟨_,es',ep',hL,r'⟩) hok I.bare
theorem Inv.call {g':Array GenState} {t':Nat} {d':Drawn} {ch:List Addr} (I:Inv X pins σ H s) (u:Un (frs X.stack) ch H H' s.heap h') (hok:HOk X.prog X.w H' h') (hg:AllBare g')
  (hch:∀b∈ch,(b∈X.ex\/X.s₀.heap.objs.size<=b)/\b≠X.env.locals/\(∀x c,X.env.cells.lookup x=some c->c≠b)/\∀p∈X.pn++pins,p.1≠b) :
  Inv X pins σ H' {s with heap:=h',gens:=g',drawn:=d',toks:=t'}:=by
 obtain ⟨m,⟨o,es,ep,ho,r⟩,_⟩:=id I.loc
 obtain ⟨sl,hL⟩:=u.any ho I.free fun z=>(hch _ z).2.1 rfl
 exact I.step (ch:=ch) hch (fun b o hL hb hc e n=>u.keep b o e n (fun z=>(List.mem_cons.mp (I.stkSub b z)).elim hL hb) hc) (fun b o _ _ hc e n=>u.any e n hc) (fun b o hc e n=>u.free b o e n hc) (fun b o hc e=>u.there b o e hc) u.tups u.frzs u.tbls (fun m' hm=>by
  obtain ⟨o',es',ep',ho',r'⟩:=hm
  rw [ho] at ho';cases ho'
  exact ⟨_,es',ep',hL,r'⟩) hok hg
theorem Inv.turned {t':Nat} {it:Addr} (I:Inv X pins σ H s) (k:∀b o,b≠it->s.heap.get? b=some o->h'.get? b=some o) (hn:H it=none) (hL:it≠X.env.locals)
  (h1:it∈X.ex\/X.s₀.heap.objs.size<=it) (h2:∀x c,X.env.cells.lookup x=some c->c≠it) (h3:∀p∈X.pn++pins,p.1≠it):Inv X pins σ H {s with heap:=h',toks:=t'}:=by
 have nit:∀b u,H b=some u->b≠it:=fun b u e z=>by rw [z,hn] at e;cases e
 refine I.step (g':=s.gens) (d':=s.drawn) (ch:=[it]) (fun b hb=>?_) (fun b o _ _ hc e _=>k b o (fun z=>hc (by simp [z])) e) (fun b o _ _ hc e _=>⟨o.slots,k b o (fun z=>hc (by simp [z])) e⟩) (fun _ _ _ _ n=>n)
  (fun b o hc e=>⟨o,k b o (fun z=>hc (by simp [z])) e⟩) (fun _ _ e=>e) (fun _ _ _ e=>e) (fun b ps e=>⟨#[],by rw [e];simp⟩) (fun m hm=>?_) (fun b u e=>?_) I.bare
 ·have e:b=it:=by simpa using hb
  subst e
  exact ⟨h1,hL,h2,h3⟩
 ·obtain ⟨o,es,ep,ho,r⟩:=hm
  exact ⟨o,es,ep,k _ o (Ne.symm hL) ho,r⟩
 ·refine (I.hok b u e).stay (fun c v hc q=>k c v ?_ q) (fun _ q=>q) fun _ _ q=>q
  rcases hc with z| z
  ·rw [z];exact nit b u e
  ·exact nit c _ z
theorem Inv.tok (I:Inv X pins σ H s) (t:Nat):Inv X pins σ H {s with toks:=t}:=I.un (h':=s.heap) (t':=t) Un.refl I.hok
theorem Inv.kept {t':Nat} (I:Inv X pins σ H s) (k:∀b u,s.heap.get? b=some u->h'.get? b=some u):Inv X pins σ H {s with heap:=h',toks:=t'}:=I.un (Un.kept k) (I.hok.kept k)
theorem Inv.laid {a:Addr} {o:HO} {t':Nat} (I:Inv X pins σ H s) (k:∀b u,s.heap.get? b=some u->h'.get? b=some u) (hp:s.heap.objs.size<=a) (new:zA8 X.prog X.w (upd H a o) h' a o) :
  Inv X pins σ (upd H a o) {s with heap:=h',toks:=t'}:=I.un (Un.laid k hp (I.hok.fresh hp)) (I.hok.laid k hp new)
theorem Inv.write {x e:Addr} {o:HO} {t':Nat} (I:Inv X pins σ H s) (mu:Mut (H x)) (he:e=x\/H e=some (.own x)) (k:∀b u,b≠e->s.heap.get? b=some u->h'.get? b=some u) (heo:∃u,h'.get? e=some u)
  (new:zA8 X.prog X.w (upd H x o) h' x o):Inv X pins σ (upd H x o) {s with heap:=h',toks:=t'}:=I.un (Un.write mu he k heo) (I.hok.write mu he k heo new)
theorem Inv.pins_of {pins':List (Addr×Obj)} (I:Inv X pins σ H s) (h:∀p∈pins',s.heap.get? p.1=some p.2/\H p.1=none/\p.1≠X.env.locals/\p.1∉X.fs/\∀v,p.2.data≠.cell v):Inv X pins' σ H s :=
 ⟨I.ok,I.os,I.bare,I.base,I.loc,I.cell,I.free,I.freeC,fun p hp=>(List.mem_append.mp hp).elim (fun z=>I.pin p (List.mem_append_left _ z)) (h p),I.hok,I.len⟩
theorem nodup_ix {N:List Str} (hN:N.Nodup) {i j:Nat} {x:Str} (a:N[i]?=some x) (b:N[j]?=some x):i=j:=by
 obtain ⟨h1,e1⟩:=List.getElem?_eq_some_iff.mp a
 obtain ⟨h2,e2⟩:=List.getElem?_eq_some_iff.mp b
 exact (List.getElem_inj hN).mp (e1.trans e2.symm)
theorem store_ok2 {M:Model} {A:Around} {E:Value->Shared->Prop} {i:Nat} {x:Str} {v:V} {u:Value} {Q:Unit->Shared->Prop} (I:Inv X pins σ H s) (hN:X.N.Nodup) (hi:X.N[i]?=some x) (hx:Loc X.env.scope x) (r:RelV v u)
  (h:∀s',Inv X pins (σ.set i (some v)) H s'->(∃a,Heap.SameBut a s.heap s'.heap/\(a=X.env.locals\/X.env.cells.lookup x=some a))->Q () s') (hf:X.fn x=true\/X.env.scope.names.lookup x=some .local:=by first| exact .inl rfl| exact .inr rfl| assumption):wpAny M A (storeName X.env x u) Q E s:=by
 obtain ⟨m,hn,hl⟩:=id I.loc
 have hcls:(X.env.scope.kind== .class||(X.env.scope.kind== .module&&X.env.locals != X.env.globals))=false:=by rw [I.ok.kind];rfl
 have hiσ:i<σ.length:=by rw [I.len];exact (List.getElem?_eq_some_iff.mp hi).1
 have cne:=I.cne
 have tracked:∀{a:Addr} {h':Heap},(∃o,s.heap.get? a=some o/\H a=none)->Heap.SameBut a s.heap h'->HOk X.prog X.w H h':=fun {a h'} ha hs b ob e=>by
  obtain ⟨_,_,hfree⟩:=ha
  refine (I.hok b ob e).stay (fun c w' hc q=>(hs.2 c ?_).trans q) (fun _ q=>q) fun _ _ q=>q
  rintro rfl
  rcases hc with rfl| hc
  ·rw [hfree] at e;cases e
  ·rw [hfree] at hc;cases hc
 rcases hx with hk| hk
 ·refine wpAny_storeName_local hk hn (fun h' hn' hs=>?_) hcls
  obtain ⟨oL,_,_,hoL,_⟩:=id hn
  refine h _ ⟨I.ok,I.os,I.bare,⟨fun b o e n hb hx=>?_,fun b o e n hb hx=>?_,I.base.free,fun b o e hx=>?_,I.base.tups,I.base.frzs,I.base.tbls⟩,⟨_,hn',fun j y v' e1 e2 e3=>?_⟩,fun y c e=>?_,I.free,I.freeC,fun p hp=>?_,tracked ⟨oL,hoL,I.free⟩ hs,by simpa using I.len⟩ ⟨_,hs,.inl rfl⟩
  ·exact (hs.2 b (Nat.ne_of_lt (Nat.lt_of_lt_of_le (Heap.lt_size e) I.ok.above))).trans (I.base.keep b o e n hb hx)
  ·obtain ⟨sl,e1⟩:=I.base.slot b o e n hb hx
   exact ⟨sl,(hs.2 b (Nat.ne_of_lt (Nat.lt_of_lt_of_le (Heap.lt_size e) I.ok.above))).trans e1⟩
  ·obtain ⟨o',e1⟩:=I.base.there b o e hx
   exact ⟨o',(hs.2 b (Nat.ne_of_lt (Nat.lt_of_lt_of_le (Heap.lt_size e) I.ok.above))).trans e1⟩
  ·by_cases hj:j=i
   ·subst hj
    rw [hi] at e1;cases e1
    rw [List.getElem?_set_self hiσ] at e2
    cases e2
    exact ⟨u,r,.inl ⟨hk,by simp⟩⟩
   ·rw [List.getElem?_set_ne (Ne.symm hj)] at e2
    obtain ⟨u',r',q⟩:=hl j y v' e1 e2 e3
    refine ⟨u',r',?_⟩
    rcases q with ⟨k,e⟩| ⟨k,c,e,z⟩
    ·refine .inl ⟨k,?_⟩
     have:y≠x:=fun e=>hj (nodup_ix hN e1 (e▸hi))
     simp [this,e]
    ·exact .inr ⟨k,c,e,z.sameBut hs (cne y c e)⟩
  ·obtain ⟨w',z⟩:=I.cell y c e
   exact ⟨w',z.sameBut hs (cne y c e)⟩
  ·obtain ⟨e,n,ne,nf,d⟩:=I.pin p hp
   exact ⟨(hs.2 p.1 ne).trans e,n,ne,nf,d⟩
 ·have hfn:X.fn x=true:=by
   rcases hf with z| z
   ·exact z
   ·rw [z] at hk;cases hk
  obtain ⟨c,hc⟩:=I.ok.has x (.inl hk)
  obtain ⟨w',z⟩:=I.cell x c hc
  refine wpAny_storeName_cell I.ok.kind hk hc z (fun h' hc' hs=>?_)
  obtain ⟨oc,hoc,hocd⟩:=id z
  refine h {s with heap:=h'} ⟨I.ok,I.os,I.bare,⟨fun b o e n hb hx=>?_,fun b o e n hb hx=>?_,I.base.free,fun b o e hx=>?_,I.base.tups,I.base.frzs,I.base.tbls⟩,⟨m,hn.sameBut hs (Ne.symm (cne x c hc)),fun j y v' e1 e2 e3=>?_⟩,fun y c' e=>?_,I.free,I.freeC,fun p hp=>?_,tracked ⟨oc,hoc,I.freeC x c hc⟩ hs,by simpa using I.len⟩ ⟨c,hs,.inr hc⟩
  ·exact (hs.2 b (Nat.ne_of_lt (Nat.lt_of_lt_of_le (Heap.lt_size e) (I.ok.cab x c hfn hc)))).trans (I.base.keep b o e n hb hx)
  ·obtain ⟨sl,e1⟩:=I.base.slot b o e n hb hx
   exact ⟨sl,(hs.2 b (Nat.ne_of_lt (Nat.lt_of_lt_of_le (Heap.lt_size e) (I.ok.cab x c hfn hc)))).trans e1⟩
  ·obtain ⟨o',e1⟩:=I.base.there b o e hx
   exact ⟨o',(hs.2 b (Nat.ne_of_lt (Nat.lt_of_lt_of_le (Heap.lt_size e) (I.ok.cab x c hfn hc)))).trans e1⟩
  ·by_cases hj:j=i
   ·subst hj
    rw [hi] at e1;cases e1
    rw [List.getElem?_set_self hiσ] at e2
    cases e2
    exact ⟨u,r,.inr ⟨.inl hk,c,hc,hc'⟩⟩
   ·rw [List.getElem?_set_ne (Ne.symm hj)] at e2
    obtain ⟨u',r',q⟩:=hl j y v' e1 e2 e3
    refine ⟨u',r',?_⟩
    rcases q with q| ⟨k,c',e,z'⟩
    ·exact .inl q
    ·refine .inr ⟨k,c',e,z'.sameBut hs ?_⟩
     rintro rfl
     exact hj (nodup_ix hN e1 (I.ok.inj _ _ _ e hc▸hi))
  ·by_cases hcc:c'=c
   ·subst hcc;exact ⟨_,hc'⟩
   ·obtain ⟨w2,z2⟩:=I.cell y c' e
    exact ⟨w2,z2.sameBut hs hcc⟩
  ·obtain ⟨e,n,ne,nf,d⟩:=I.pin p hp
   refine ⟨(hs.2 p.1 ?_).trans e,n,ne,nf,d⟩
   intro q
   rw [q,hoc] at e
   have q':oc=p.2:=Option.some.inj e
   exact d w' (by rw [<-q'];exact hocd)
theorem store_ok {M:Model} {A:Around} {E:Value->Shared->Prop} {i:Nat} {x:Str} {v:V} {u:Value} {Q:Unit->Shared->Prop} (I:Inv X pins σ H s) (hN:X.N.Nodup) (hi:X.N[i]?=some x) (hx:Loc X.env.scope x) (r:RelV v u)
  (h:∀s',Inv X pins (σ.set i (some v)) H s'->Q () s') (hf:X.fn x=true\/X.env.scope.names.lookup x=some .local:=by first| exact .inl rfl| exact .inr rfl| assumption):wpAny M A (storeName X.env x u) Q E s :=
 store_ok2 I hN hi hx r (fun s' I' _=>h s' I') hf
theorem Inv.call' {s':Shared} {ch:List Addr} (I:Inv X pins σ H s) (ho:s'.os=s.os) (u:Un (frs X.stack) ch H H' s.heap s'.heap) (hok:HOk X.prog X.w H' s'.heap) (hg:AllBare s'.gens)
  (hch:∀b∈ch,(b∈X.ex\/X.s₀.heap.objs.size<=b)/\b≠X.env.locals/\(∀x c,X.env.cells.lookup x=some c->c≠b)/\∀p∈X.pn++pins,p.1≠b):Inv X pins σ H' s':=by
 obtain ⟨h',g',d',t',o'⟩:=s'
 have e:o'=s.os:=ho
 subst e
 exact I.call (g':=g') (t':=t') (d':=d') u hok hg hch
end
abbrev XK:=Value->Option Addr->Hp->Prop
abbrev St:=List (Option V)
abbrev VK:=V->Hp->Prop
abbrev TE:=St->Hp->VK->Prop
abbrev TT:=St->Hp->(Bool->Hp->Prop)->Prop
abbrev TA:=St->Hp->(List V->Hp->Prop)->Prop
structure Ends where
 nx:St->Hp->Prop
 rt:VK
 bk:St->Hp->Prop:=fun _ _=>False
 ct:St->Hp->Prop:=fun _ _=>False
abbrev TS:=Ends->St->Hp->Prop
def EP (X:Cx) (pins:List (Addr×Obj)) (σ:St) (Q:VK) (u:Value) (s':Shared):Prop:=∃v H',Inv X pins σ H' s'/\RelV v u/\Q v H'
def TP (X:Cx) (pins:List (Addr×Obj)) (σ:St) (Q:Bool->Hp->Prop) (b:Bool) (s':Shared):Prop:=∃H',Inv X pins σ H' s'/\Q b H'
def AP (X:Cx) (pins:List (Addr×Obj)) (σ:St) (Q:List V->Hp->Prop) (us:List Value) (s':Shared):Prop:=∃vs H',Inv X pins σ H' s'/\Vals vs us/\Q vs H'
def SP (X:Cx) (pins:List (Addr×Obj)) (D:Ends) (f:Flow) (s':Shared):Prop :=
 match f with
 | .next=>∃σ' H',Inv X pins σ' H' s'/\D.nx σ' H'
 | .brk=>∃σ' H',Inv X pins σ' H' s'/\D.bk σ' H'
 | .cont=>∃σ' H',Inv X pins σ' H' s'/\D.ct σ' H'
 | .ret u=>∃v σ' H',Inv X pins σ' H' s'/\RelV v u/\D.rt v H'
def PE (X:Cx) (e:Expr) (t:TE):Prop :=
 ∀(pins:List (Addr×Obj)) (s:Shared) (σ:St) (H:Hp) (Q:VK),Inv X pins σ H s->t σ H Q->wpAny (model X.prog X.w) X.A (eval e X.env) (EP X pins σ Q) X.xe s
def PT (X:Cx) (e:Expr) (t:TT):Prop :=
 ∀(pins:List (Addr×Obj)) (s:Shared) (σ:St) (H:Hp) (Q:Bool->Hp->Prop),Inv X pins σ H s->t σ H Q->wpAny (model X.prog X.w) X.A (isTrue e X.env (eval e X.env)) (TP X pins σ Q) X.xe s
def PW (X:Cx) (e:Expr) (t:TT):Prop :=
 ∀(whole:Sem Value) (pins:List (Addr×Obj)) (s:Shared) (σ:St) (H:Hp) (Q:Bool->Hp->Prop),Inv X pins σ H s->t σ H Q->wpAny (model X.prog X.w) X.A (isTrue e X.env whole) (TP X pins σ Q) X.xe s
theorem PW.pt {X:Cx} {e:Expr} {t:TT} (h:PW X e t):PT X e t:=h _
def PA (X:Cx) (es:List Expr) (t:TA):Prop :=
 ∀(pos:Pos) (pins:List (Addr×Obj)) (s:Shared) (σ:St) (H:Hp) (Q:List V->Hp->Prop),Inv X pins σ H s->t σ H Q->wpAny (model X.prog X.w) X.A (spliced (backTo pos (starEach es X.env))) (AP X pins σ Q) X.xe s
def PS (X:Cx) (st:Stmt) (t:TS):Prop :=
 ∀(pins:List (Addr×Obj)) (s:Shared) (σ:St) (H:Hp) (D:Ends),Inv X pins σ H s->t D σ H->wpAny (model X.prog X.w) X.A (exec st X.env) (SP X pins D) X.xe s
def PSs (X:Cx) (st:List Stmt) (t:TS):Prop :=
 ∀(pins:List (Addr×Obj)) (s:Shared) (σ:St) (H:Hp) (D:Ends),Inv X pins σ H s->t D σ H->wpAny (model X.prog X.w) X.A (execs st X.env) (SP X pins D) X.xe s
theorem thn {α:Type} {t:Sem α} {Q Q':α->Shared->Prop} {M:Model} {A:Around} {E:Value->Shared->Prop} {s:Shared} (h:wpAny M A t Q E s) (hQ:∀a s,Q a s->Q' a s):wpAny M A t Q' E s:=wpAny_mono h hQ fun _ _ x=>x
section
variable {X:Cx}
def tVar (i:Nat):TE:=fun σ H Q=>∃v,σ[i]?=some (some v)/\Q v H
def tC (v:V):TE:=fun _ H Q=>Q v H
theorem pe_var {i:Nat} {x:Str} {pos:Pos} (hN:X.N[i]?=some x) (hv:Vis X.env.scope x) (hd:(x==("__debug__" : Str))=false:=by decide) (hcd:(x==("__classdict__" : Str))=false:=by decide):PE X (.Name x pos) (tVar i):=by
 intro pins s σ H Q I h
 obtain ⟨v,e,h⟩:=h
 obtain ⟨m,hn,hl⟩:=I.loc
 obtain ⟨u,r,l⟩:=hl i x v hN e hv
 have fin:EP X pins σ Q u s:=⟨v,H,I,r,h⟩
 rcases l with ⟨hk,hm⟩| ⟨hk,c,hc,hcell⟩
 ·exact wpAny_Name (wpAny_loadName_local I.ok.kind hk hn hm fin) hd
 ·rcases hk with hk| hk
  ·exact wpAny_Name (wpAny_loadName_cell I.ok.kind hk hc hcell fin) hd
  ·exact wpAny_Name (wpAny_loadName_free I.ok.kind hk hc hcell fin hcd) hd
theorem zAf {i j pos}:PE X (.Constant (.int i) j pos) (tC (.int i)):=fun _ _ _ H _ I h=>wpAny_Constant_int ⟨.int i,H,I.tok _,⟨_,rfl⟩,h⟩
theorem pe_bl {b j pos}:PE X (.Constant (.bool b) j pos) (tC (.bl b)):=fun _ _ _ H _ I h=>Constant_bool ⟨.bl b,H,I,rfl,h⟩
theorem pe_str {x j pos}:PE X (.Constant (.str x) j pos) (tC (.str x)):=fun _ _ _ H _ I h=>Calls.Constant_str ⟨.str x,H,I.tok _,⟨_,rfl⟩,h⟩
def Gl (X:Cx) (x:Str):Prop:=X.env.kindOf x=some .globalImplicit
theorem ld_glob {E:Value->Shared->Prop} {pins:List (Addr×Obj)} {s:Shared} {σ:St} {H:Hp} {x:Str} {u:Value} {pos:Pos} {Q:Value->Shared->Prop} (I:Inv X pins σ H s) (hg:Gl X x) (hm:X.mg x=some u) (h:Q u s)
  (hd:(x==("__debug__" : Str))=false:=by decide):wpAny (model X.prog X.w) X.A (eval (.Name x pos) X.env) Q E s :=
 Calls.Name_function_global I.ok.kind hg (Calls.loadGlobal_global (by rw [I.ok.glob];exact I.mod.glob.keeps I.bk) hm h) hd
theorem ld_blt {E:Value->Shared->Prop} {pins:List (Addr×Obj)} {s:Shared} {σ:St} {H:Hp} {x:Str} {u:Value} {pos:Pos} {Q:Value->Shared->Prop} (I:Inv X pins σ H s) (hg:Gl X x) (hm:X.mg x=none) (hv:bootBuiltins x=some u) (h:Q u s)
  (hn:x≠ "__name__" := by decide) (hd:(x==("__debug__" : Str))=false:=by decide):wpAny (model X.prog X.w) X.A (eval (.Name x pos) X.env) Q E s:=by
 obtain ⟨mb,h1,h2⟩:=I.mod.blt
 exact Calls.Name_function_global I.ok.kind hg (Calls.loadGlobal_builtin (by rw [I.ok.glob];exact I.mod.glob.keeps I.bk) hm (by rw [I.ok.blt];exact h1.keeps I.bk) ((h2 x hn).trans hv) h) hd
theorem zIf {x:Str} {v:V} {u:Value} {pos:Pos} (hg:Gl X x) (hm:X.mg x=some u) (r:RelV v u) (hd:(x==("__debug__" : Str))=false:=by decide):PE X (.Name x pos) (tC v) :=
 fun _ _ _ H _ I h=>ld_glob I hg hm ⟨v,H,I,r,h⟩ hd
theorem zFb {x:Str} {v:V} {u:Value} {pos:Pos} (hg:Gl X x) (hm:X.mg x=none) (hv:bootBuiltins x=some u) (r:RelV v u) (hn:x≠ "__name__" := by decide) (hd:(x==("__debug__" : Str))=false:=by decide):PE X (.Name x pos) (tC v) :=
 fun _ _ _ H _ I h=>ld_blt I hg hm hv ⟨v,H,I,r,h⟩ hn hd
variable {a b:Expr} {ta tb:TE} {pos:Pos}
def PC (X:Cx) (op:CmpOp) (a b:Expr) (t:TE):Prop :=
 ∀(pins:List (Addr×Obj)) (s:Shared) (σ:St) (H:Hp) (Q:VK),Inv X pins σ H s->t σ H Q ->
  wpAny (model X.prog X.w) X.A (eval a X.env) (fun v s₁=>wpAny (model X.prog X.w) X.A (eval b X.env) (fun u s₂=>wpAny (model X.prog X.w) X.A (compareOp op v u) (EP X pins σ Q) X.xe s₂) X.xe s₁) X.xe s
def tB (t:TE):TT:=fun σ H Q=>t σ H fun x H1=>∃c,x= .bl c/\Q c H1
theorem pe_cmp {op:CmpOp} {t:TE} (h:PC X op a b t) (h1:behindInMarks op b=false:=by first| exact nobehind _ (by decide) (by decide)| rfl):PE X (.Compare a [op] [b] pos) t:=fun pins s σ H Q I hw=>wpAny_Compare1 (h pins s σ H Q I hw) h1
theorem zFo {op:CmpOp} {t:TE} (h:PC X op a b t) (h1:behindInMarks op b=false:=by first| exact nobehind _ (by decide) (by decide)| rfl):PT X (.Compare a [op] [b] pos) (tB t):=by
 intro pins s σ H Q I hw
 refine wpAny_isTrue_Compare1 (thn (h pins s σ H _ I hw) fun v s1 h1=>thn h1 fun u s2 h2=>thn h2 fun c s3 ⟨x,H1,I1,r1,q1⟩=>?_) h1
 obtain ⟨d,rfl,q⟩:=q1
 cases r1
 exact wpAny_truthy_bool ⟨H1,I1,q⟩
theorem zD4 {e:Expr} {t:TE} (h:PE X e t) (he:∀whole,isTrue e X.env whole=(do let v<-whole;standAt e.pos;holding [v] (truthy v)):=by intro _;rfl):PT X e (tB t):=by
 intro pins s σ H Q I hw
 refine isTrue_plain (thn (h pins s σ H _ I hw) fun v s1 ⟨x,H1,I1,r1,q1⟩=>?_) (he _)
 obtain ⟨d,rfl,q⟩:=q1
 cases r1
 exact wpAny_truthy_bool ⟨H1,I1,q⟩
variable {tA tB':TT} {rest:List Expr}
def tAnd (t u:TT):TT:=fun σ H Q=>t σ H fun c H1=>if c=true then u σ H1 Q else Q false H1
def tOr (t u:TT):TT:=fun σ H Q=>t σ H fun c H1=>if c=true then Q true H1 else u σ H1 Q
def tNot (t:TT):TT:=fun σ H Q=>t σ H fun c H1=>Q (!c) H1
theorem zEd (ha:PT X a tA):PW X (.BoolOp .And [a] pos) tA:=by
 intro wh pins s σ H Q I h
 refine isTrue_and (thn (ha pins s σ H Q I h) fun c s1 e=>?_)
 cases c with
 | true=>exact isTrue_and_nil e
 | false=>exact e
theorem zHn (ha:PT X a tA):PW X (.BoolOp .Or [a] pos) tA:=by
 intro wh pins s σ H Q I h
 refine isTrue_or (thn (ha pins s σ H Q I h) fun c s1 e=>?_)
 cases c with
 | false=>exact isTrue_or_nil e
 | true=>exact e
theorem zFn (ha:PT X a tA) (hb:PW X (.BoolOp .And (b::rest) pos) tB'):PW X (.BoolOp .And (a::b::rest) pos) (tAnd tA tB'):=by
 intro wh pins s σ H Q I h
 refine isTrue_and (thn (ha pins s σ H _ I h) fun c s1 ⟨H1,I1,q1⟩=>?_)
 cases c with
 | true=>exact hb wh pins s1 σ H1 Q I1 q1
 | false=>exact ⟨H1,I1,q1⟩
theorem pw_or (ha:PT X a tA) (hb:PW X (.BoolOp .Or (b::rest) pos) tB'):PW X (.BoolOp .Or (a::b::rest) pos) (tOr tA tB'):=by
 intro wh pins s σ H Q I h
 refine isTrue_or (thn (ha pins s σ H _ I h) fun c s1 ⟨H1,I1,q1⟩=>?_)
 cases c with
 | true=>exact ⟨H1,I1,q1⟩
 | false=>exact hb wh pins s1 σ H1 Q I1 q1
theorem zD5 (ha:PT X a tA):PT X (.UnaryOp .Not a pos) (tNot tA):=by
 intro pins s σ H Q I h
 exact isTrue_not (ha pins s σ H (fun c H1=>Q (!c) H1) I h)
def tAndV (ta tb:TE):TE:=fun σ H Q=>ta σ H fun x H1=>∃c,x= .bl c/\if c=true then tb σ H1 Q else Q (.bl false) H1
def tOrV (ta tb:TE):TE:=fun σ H Q=>ta σ H fun x H1=>∃c,x= .bl c/\if c=true then Q (.bl true) H1 else tb σ H1 Q
def tNotV (ta:TE):TE:=fun σ H Q=>ta σ H fun x H1=>∃c,x= .bl c/\Q (.bl (!c)) H1
theorem pe_one {op} {t:TE} (h:PE X a t):PE X (.BoolOp op [a] pos) t:=fun pins s σ H Q I hw=>BoolOp_one (h pins s σ H Q I hw)
theorem pe_and (ha:PE X a ta) (hb:PE X (.BoolOp .And (b::rest) pos) tb):PE X (.BoolOp .And (a::b::rest) pos) (tAndV ta tb):=by
 intro pins s σ H Q I h
 refine BoolOp_and (thn (ha pins s σ H _ I h) fun v s1 ⟨x,H1,I1,r1,q1⟩=>?_)
 obtain ⟨c,rfl,q1⟩:=q1
 cases r1
 refine wpAny_truthy_bool ?_
 cases c with
 | true=>exact hb pins s1 σ H1 Q I1 q1
 | false=>exact ⟨.bl false,H1,I1,rfl,q1⟩
theorem pe_or (ha:PE X a ta) (hb:PE X (.BoolOp .Or (b::rest) pos) tb):PE X (.BoolOp .Or (a::b::rest) pos) (tOrV ta tb):=by
 intro pins s σ H Q I h
 refine BoolOp_or (thn (ha pins s σ H _ I h) fun v s1 ⟨x,H1,I1,r1,q1⟩=>?_)
 obtain ⟨c,rfl,q1⟩:=q1
 cases r1
 refine wpAny_truthy_bool ?_
 cases c with
 | false=>exact hb pins s1 σ H1 Q I1 q1
 | true=>exact ⟨.bl true,H1,I1,rfl,q1⟩
theorem pe_not (ha:PE X a ta):PE X (.UnaryOp .Not a pos) (tNotV ta):=by
 intro pins s σ H Q I h
 refine UnaryOp_ (thn (ha pins s σ H _ I h) fun v s1 ⟨x,H1,I1,r1,q1⟩=>?_)
 obtain ⟨c,rfl,q1⟩:=q1
 cases r1
 exact not_of (wpAny_truthy_bool ⟨.bl (!c),H1,I1,rfl,q1⟩)
def tIf (t:TT) (ta tb:TE):TE:=fun σ H Q=>t σ H fun c H1=>if c=true then ta σ H1 Q else tb σ H1 Q
theorem pe_ifExp {c:Expr} (hc:PT X c tA) (ha:PE X a ta) (hb:PE X b tb):PE X (.IfExp c a b pos) (tIf tA ta tb):=by
 intro pins s σ H Q I h
 refine wpAny_IfExp (thn (hc pins s σ H _ I h) fun d s1 ⟨H1,I1,q1⟩=>?_)
 cases d with
 | true=>exact ha pins s1 σ H1 Q I1 q1
 | false=>exact hb pins s1 σ H1 Q I1 q1
end
def SqL (K:PySem.W.Frag) (H:Hp) (a:Addr) (xs:List V):Prop :=
 Rd H a (.lst xs) \/
  ∃(o:Obj) (its:Array Value) (n:Nat),K.lookup a=some o/\o.cls= .type "list" /\o.dict=none/\o.data= .seq its n/\its.size<=sizeLine/\Vals xs its.toList
def SqT (K:PySem.W.Frag) (H:Hp) (a:Addr) (xs:List V):Prop :=
 Rd H a (.tup xs) \/
  ∃(o:Obj) (its:Array Value) (n:Nat),K.lookup a=some o/\o.cls= .type "tuple" /\o.data= .seq its n/\its.size<=sizeLine/\Vals xs its.toList
def absV:Value->Option V
 | .none=>some .non
 | .bool b=>some (.bl b)
 | .int i _=>some (.int i)
 | .str x _=>some (.str x)
 | .bytes b _=>some (.byt b)
 | .float b _=>some (.flt b)
 | .ref a=>some (.ref a)
 | .type n=>some (.ty n)
 | _=>none
theorem RelV.abs {x:V} {u:Value} (r:RelV x u):absV u=some x:=by
 cases x with
 | non=>cases r;rfl
 | bl _=>cases r;rfl
 | int _=>obtain ⟨t,rfl⟩:=r;rfl
 | str _=>obtain ⟨t,rfl⟩:=r;rfl
 | byt _=>obtain ⟨t,rfl⟩:=r;rfl
 | flt _=>obtain ⟨t,rfl⟩:=r;rfl
 | ref _=>cases r;rfl
 | ty _=>cases r;rfl
theorem RelV.inj {x y:V} {u:Value} (r:RelV x u) (q:RelV y u):x=y:=Option.some.inj (r.abs.symm.trans q.abs)
theorem Vals.inj:∀{xs ys:List V} {us:List Value},Vals xs us->Vals ys us->xs=ys
 | _,_,_,.nil,.nil=>rfl
 | _,_,_,.cons r t,.cons r' t'=>by rw [r.inj r',Vals.inj t t']
section
variable {X:Cx} {pins:List (Addr×Obj)} {σ:St} {H:Hp} {s:Shared} {a:Addr} {xs ys:List V}
theorem SqL.of {K:PySem.W.Frag} (h:H a=some (.lst xs)):SqL K H a xs:=.inl (.inl h)
theorem SqT.of {K:PySem.W.Frag} (h:H a=some (.tup xs)):SqT K H a xs:=.inl (.inl h)
theorem Inv.list (I:Inv X pins σ H s) (h:SqL X.K H a xs):∃its:List Value,Vals xs its/\PlainL s.heap a its.toArray/\xs.length<=sizeLine:=by
 rcases h with h| ⟨o,its,n,hk,hc,hd,hs,hz,r⟩
 ·obtain ⟨z,its,n,r,e⟩:=h.ok I.hok
  exact ⟨its,r,⟨_,n,e,rfl,rfl,rfl⟩,z⟩
 ·refine ⟨its.toList,r,⟨o,n,I.kIn a o hk,hc,hd,by simpa using hs⟩,?_⟩
  have e:=r.length
  simp only [Array.length_toList] at e
  omega
theorem Inv.tuple (I:Inv X pins σ H s) (h:SqT X.K H a xs):∃its:List Value,Vals xs its/\IsTup s.heap a its.toArray/\xs.length<=sizeLine:=by
 rcases h with h| ⟨o,its,n,hk,hc,hs,hz,r⟩
 ·obtain ⟨z,its,r,p⟩:=h.ok I.hok
  exact ⟨its,r,p,z⟩
 ·refine ⟨its.toList,r,⟨o,I.kIn a o hk,hc,n,by simpa using hs⟩,?_⟩
  have e:=r.length
  simp only [Array.length_toList] at e
  omega
theorem Inv.list_inj (I:Inv X pins σ H s) (h:SqL X.K H a xs) (h':SqL X.K H a ys):xs=ys:=by
 obtain ⟨its,r,⟨o,n,e,_,_,d⟩,_⟩:=I.list h
 obtain ⟨its',r',⟨o',n',e',_,_,d'⟩,_⟩:=I.list h'
 rw [e] at e';cases e'
 rw [d] at d'
 injection d' with d1 _
 have:its=its':=by simpa using congrArg Array.toList d1
 subst this
 exact r.inj r'
theorem Inv.tuple_inj (I:Inv X pins σ H s) (h:SqT X.K H a xs) (h':SqT X.K H a ys):xs=ys:=by
 obtain ⟨its,r,⟨o,e,_,n,d⟩,_⟩:=I.tuple h
 obtain ⟨its',r',⟨o',e',_,n',d'⟩,_⟩:=I.tuple h'
 rw [e] at e';cases e'
 rw [d] at d'
 injection d' with d1 _
 have:its=its':=by simpa using congrArg Array.toList d1
 subst this
 exact r.inj r'
end
abbrev Cx.wish (X:Cx) (E:Value->Shared->Prop):Cx:={X with xe:=E}
abbrev Cx.nox (X:Cx):Cx:=X.wish fun _ _=>False
theorem Cx.Ok.wish {X:Cx} (ok:X.Ok) (E:Value->Shared->Prop):(X.wish E).Ok :=
 ⟨ok.mod,ok.kind,ok.glob,ok.blt,ok.above,ok.inj,ok.has,ok.cab,ok.hd,ok.frames,ok.stk,ok.exf,ok.bs,ok.bsz,ok.noex,ok.exfs,ok.funs,ok.frf⟩
theorem Cx.Ok.unwish {X:Cx} {E:Value->Shared->Prop} (ok:(X.wish E).Ok):X.Ok :=
 ⟨ok.mod,ok.kind,ok.glob,ok.blt,ok.above,ok.inj,ok.has,ok.cab,ok.hd,ok.frames,ok.stk,ok.exf,ok.bs,ok.bsz,ok.noex,ok.exfs,ok.funs,ok.frf⟩
section
variable {X:Cx} {pins:List (Addr×Obj)} {σ:St} {H:Hp} {s:Shared} {E:Value->Shared->Prop}
theorem Inv.wish (I:Inv X pins σ H s) (E:Value->Shared->Prop):Inv (X.wish E) pins σ H s:=⟨I.ok.wish E,I.os,I.bare,I.base,I.loc,I.cell,I.free,I.freeC,I.pin,I.hok,I.len⟩
theorem Inv.unwish (I:Inv (X.wish E) pins σ H s):Inv X pins σ H s:=⟨I.ok.unwish,I.os,I.bare,I.base,I.loc,I.cell,I.free,I.freeC,I.pin,I.hok,I.len⟩
theorem SP.unwish {D:Ends} {f:Flow} {s':Shared} (h:SP (X.wish E) pins D f s'):SP X pins D f s':=by
 cases f with
 | next=>obtain ⟨σ',H',I,q⟩:=h;exact ⟨σ',H',I.unwish,q⟩
 | brk=>obtain ⟨σ',H',I,q⟩:=h;exact ⟨σ',H',I.unwish,q⟩
 | cont=>obtain ⟨σ',H',I,q⟩:=h;exact ⟨σ',H',I.unwish,q⟩
 | ret u=>obtain ⟨v,σ',H',I,r,q⟩:=h;exact ⟨v,σ',H',I.unwish,r,q⟩
theorem PSs.nox {st:List Stmt} {t:TS} (h:PSs X.nox st t):PSs X st t:=fun pins s σ H D I hw =>
 wpAny_mono (h pins s σ H D (I.wish _) hw) (fun _ _ q=>q.unwish) fun _ _ z=>False.elim z
end
section
variable {X:Cx} {st:Stmt} {rest:List Stmt} {t u:TS} {e:Expr} {te:TE} {pos:Pos}
def tNext:TS:=fun D σ H=>D.nx σ H
def tSeq (t u:TS):TS:=fun D σ H=>t {D with nx:=u D} σ H
theorem zAw:PSs X [] tNext:=fun _ _ σ H _ I h=>wpAny_execs_nil ⟨σ,H,I,h⟩
theorem zAb (h1:PS X st t) (h2:PSs X rest u):PSs X (st::rest) (tSeq t u):=by
 intro pins s σ H D I h
 refine wpAny_execs_cons (thn (h1 pins s σ H {D with nx:=u D} I h) fun f s1 q=>?_)
 cases f with
 | next =>
  obtain ⟨σ',H',I',q⟩:=q
  exact h2 pins s1 σ' H' D I' q
 | ret v=>exact q
 | brk=>exact q
 | cont=>exact q
theorem zAd (h1:PS X st t):PSs X [st] t:=by
 intro pins s σ H D I h
 refine wpAny_execs_cons (thn (h1 pins s σ H D I h) fun f s1 q=>?_)
 cases f with
 | next=>exact wpAny_execs_nil q
 | ret v=>exact q
 | brk=>exact q
 | cont=>exact q
theorem Inv.quiet {pins:List (Addr×Obj)} {σ:St} {H:Hp} {s:Shared} (I:Inv X pins σ H s):interactive X.env=false:=by simp [interactive,I.ok.kind]
def tDrop (te:TE):TS:=fun D σ H=>te σ H fun _ H1=>D.nx σ H1
theorem zA4 (he:PE X e te) (hs:swapsWith e none pos.line X.env=pure false:=by rfl):PS X (.Expr e pos) (tDrop te):=by
 intro pins s σ H D I h
 exact wpAny_Expr_any (thn (he pins s σ H _ I h) fun v s1 ⟨x,H1,I1,r1,q1⟩=>⟨σ,H1,I1,q1⟩) I.quiet hs
def tRet (te:TE):TS:=fun D σ H=>te σ H D.rt
theorem zAs (he:PE X e te):PS X (.Return (some e) pos) (tRet te):=by
 intro pins s σ H D I h
 exact wpAny_Return_some (thn (he pins s σ H _ I h) fun v s1 ⟨x,H1,I1,r1,q1⟩=>⟨x,σ,H1,I1,r1,q1⟩)
def tIfS (c:TT) (t u:TS):TS:=fun D σ H=>c σ H fun b H1=>if b=true then t D σ H1 else u D σ H1
theorem zCb {c:Expr} {a b:List Stmt} {tc:TT} (hc:PT X c tc) (ha:PSs X a t) (hb:PSs X b u):PS X (.If c a b pos) (tIfS tc t u):=by
 intro pins s σ H D I h
 refine wpAny_If (thn (hc pins s σ H _ I h) fun d s1 ⟨H1,I1,q1⟩=>?_)
 cases d with
 | true=>exact ha pins s1 σ H1 D I1 q1
 | false=>exact hb pins s1 σ H1 D I1 q1
def tNever:TS:=fun _ _ _=>False
theorem zBp:PS X st tNever:=fun _ _ _ _ _ _ h=>h.elim
end
abbrev TG:=V->St->Hp->(St->Hp->Prop)->Prop
abbrev TGs:=List V->St->Hp->(St->Hp->Prop)->Prop
def PG (X:Cx) (target:Expr) (t:TG):Prop :=
 ∀(pins:List (Addr×Obj)) (s:Shared) (σ:St) (H:Hp) (v:V) (u:Value) (Q:St->Hp->Prop),Inv X pins σ H s->RelV v u->t v σ H Q ->
  wpAny (model X.prog X.w) X.A (assign target X.env u) (fun _ s'=>∃σ' H',Inv X pins σ' H' s'/\Q σ' H') X.xe s
def PGs (X:Cx) (ts:List Expr) (t:TGs):Prop :=
 ∀(pins:List (Addr×Obj)) (s:Shared) (σ:St) (H:Hp) (vs:List V) (us:List Value) (Q:St->Hp->Prop),Inv X pins σ H s->Vals vs us->t vs σ H Q ->
  wpAny (model X.prog X.w) X.A (assignInOrder ((assignEach ts X.env).map (·.2)) us) (fun _ s'=>∃σ' H',Inv X pins σ' H' s'/\Q σ' H') X.xe s
abbrev TSet:=V->V->V->Hp->(Hp->Prop)->Prop
def PSet (X:Cx) (t:TSet):Prop :=
 ∀(pins:List (Addr×Obj)) (s:Shared) (σ:St) (H:Hp) (o i v:V) (ov iv u:Value) (Q:Hp->Prop),Inv X pins σ H s->RelV o ov->RelV i iv->RelV v u->t o i v H Q ->
  wpAny (model X.prog X.w) X.A (setItem ov iv u) (fun _ s'=>∃H',Inv X pins σ H' s'/\Q H') X.xe s
section
variable {X:Cx} {pos:Pos}
def gName (i:Nat):TG:=fun v σ H Q=>Q (σ.set i (some v)) H
theorem zAh {i:Nat} {x:Str} (hN:X.N.Nodup) (hi:X.N[i]?=some x) (hx:Loc X.env.scope x) (hf:X.fn x=true\/X.env.scope.names.lookup x=some .local:=by first| exact .inl rfl| exact .inr rfl| assumption):PG X (.Name x pos) (gName i):=by
 intro pins s σ H v u Q I r h
 exact wpAny_assign_Name (store_ok I hN hi hx r (fun s' I'=>⟨_,H,I',h⟩) hf)
def gNil:TGs:=fun vs σ H Q=>vs=[]/\Q σ H
def gCons (t:TG) (u:TGs):TGs:=fun vs σ H Q=>∃v r,vs=v::r/\t v σ H fun σ' H'=>u r σ' H' Q
theorem zC9:PGs X [] gNil:=by
 intro pins s σ H vs us Q I r h
 obtain ⟨e,h⟩:=h
 subst e
 cases r
 exact assignInOrder_nil ⟨σ,H,I,h⟩
theorem zAt {e:Expr} {es:List Expr} {t:TG} {u:TGs} (h1:PG X e t) (h2:PGs X es u)
  (hs:(assignEach (e::es) X.env).map (·.2)=assign e X.env::(assignEach es X.env).map (·.2):=by rfl):PGs X (e::es) (gCons t u):=by
 intro pins s σ H vs us Q I r h
 obtain ⟨v,vr,e1,h⟩:=h
 subst e1
 cases r with
 | cons r rr =>
  rw [hs]
  refine assignInOrder_cons (thn (h1 pins s σ H _ _ _ I r h) fun _ s1 ⟨σ1,H1,I1,q1⟩=>?_)
  exact h2 pins s1 σ1 H1 _ _ Q I1 rr q1
def gTup (K:PySem.W.Frag) (n:Nat) (t:TGs):TG:=fun v σ H Q=>∃a xs,v= .ref a/\SqT K H a xs/\xs.length=n/\t xs σ H Q
theorem zHo {es:List Expr} {k:Nat} {t:TGs} {n:Nat} (hc:X.calm=true) (h:PGs X es t)
  (hn:(assignEach es X.env).length=n:=by rfl) (hst:(assignEach es X.env).findIdx? (·.1)=none:=by rfl):PG X (.Tuple es k pos) (gTup X.K n t):=by
 intro pins s σ H v u Q I r hw
 obtain ⟨a,xs,e1,hq,hl,hw⟩:=hw
 subst e1
 cases r
 obtain ⟨its,rv,ht,hz⟩:=I.tuple hq
 refine assign_Tuple_tuple (I.ok.hd hc) ht (by simp [hn,<-hl,rv.length]) hst fun h' hx=>?_
 have I1:Inv X pins σ H {s with heap:=h'}:=I.kept (t':=s.toks) fun b o e=>hx b o (Nat.ne_of_lt (Heap.lt_size e)) e
 exact h pins _ σ H xs _ Q I1 (by simpa using rv) hw
def gSub (to ti:TE) (t:TSet):TG:=fun v σ H Q=>to σ H fun o H1=>ti σ H1 fun i H2=>t o i v H2 fun H3=>Q σ H3
theorem pg_sub {o i:Expr} {to ti:TE} {t:TSet} (ho:PE X o to) (hi:PE X i ti) (hs:PSet X t)
  (ha:∀v,assign (.Subscript o i pos) X.env v=(do
   let ov<-holding [v] (eval o X.env)
   let iv<-holding [v,ov] (eval i X.env)
   standAt pos
   holding [v,ov,iv] (setItem ov iv v)
   release [v,ov,iv] []):=by intro _;rfl):PG X (.Subscript o i pos) (gSub to ti t):=by
 intro pins s σ H v u Q I r h
 rw [ha]
 refine wpAny_bind (wpAny_holding (thn (ho pins s σ H _ I h) fun ov s1 ⟨x,H1,I1,r1,q1⟩=>?_))
 refine wpAny_bind (wpAny_holding (thn (hi pins s1 σ H1 _ I1 q1) fun iv s2 ⟨y,H2,I2,r2,q2⟩=>?_))
 refine wpAny_bind (wpAny_standAt (wpAny_bind (wpAny_holding (thn (hs pins s2 σ H2 x y v ov iv u _ I2 r1 r2 r q2) fun _ s3 ⟨H3,I3,q3⟩=>?_))))
 exact wpAny_release ⟨σ,H3,I3,q3⟩
def tAsg (te:TE) (g:TG):TS:=fun D σ H=>te σ H fun x H1=>g x σ H1 D.nx
theorem ps_asg {tg e:Expr} {te:TE} {g:TG} (he:PE X e te) (hg:PG X tg g) (hs:swapsWithSole [tg] e pos.line X.env=pure false:=by rfl) (hw:swappedStores [tg] e X.env=pure none:=by rfl)
  (h1:(assignEach [tg] X.env).map (·.2)=[assign tg X.env]:=by rfl):PS X (.Assign [tg] e pos) (tAsg te g):=by
 intro pins s σ H D I h
 refine wpAny_Assign_stores (thn (he pins s σ H _ I h) fun v s1 ⟨x,H1,I1,r1,q1⟩=>?_) hs hw
 rw [h1]
 exact thn (hg pins s1 σ H1 x v _ I1 r1 q1) fun _ s2 q=>q
theorem zAj {i:Nat} {x:Str} {e:Expr} {te:TE} {pos':Pos} (hN:X.N.Nodup) (hi:X.N[i]?=some x) (hx:Loc X.env.scope x) (he:PE X e te) (hs:swapsWith e (some (.Name x pos')) pos.line X.env=pure false:=by rfl) (hf:X.fn x=true\/X.env.scope.names.lookup x=some .local:=by first| exact .inl rfl| exact .inr rfl| assumption) :
  PS X (.Assign [.Name x pos'] e pos) (tAsg te (gName i)):=by
 intro pins s σ H D I h
 refine wpAny_Assign_Name (thn (he pins s σ H _ I h) fun v s1 ⟨y,H1,I1,r1,q1⟩=>?_) hs
 exact store_ok I1 hN hi hx r1 (fun s2 I2=>⟨_,H1,I2,q1⟩) hf
end
section
variable {X:Cx} {pos:Pos}
def tWhile (c:TT) (tb:TS):TS:=fun D σ H=>∃W:Nat->St->Hp->Prop,(∃m,W m σ H)/\∀m σ H,W m σ H ->
 c σ H fun b H1=>if b=true then∃N:St->Hp->Prop,(∀σ' H',N σ' H'->∃m',m'<m/\W m' σ' H')/\tb {D with nx:=N,ct:=N,bk:=D.nx} σ H1 else D.nx σ H1
theorem zIb {c:Expr} {body:List Stmt} {tc:TT} {tb:TS} (hp:PassesOwn (model X.prog X.w) X.A X.env X.xe) (hc:PT X c tc) (hb:PSs X body tb):PS X (.While c body [] pos) (tWhile tc tb):=by
 intro pins s σ H D I h
 obtain ⟨W,⟨m0,w0⟩,turn⟩:=h
 refine wpAny_While (codeAny_whileLoop (fun n s'=>∃σ' H',Inv X pins σ' H' s'/\W n σ' H') ?_ m0 ⟨σ,H,I,w0⟩)
 rintro n s1 ⟨σ1,H1,I1,w1⟩
 refine wpAny_passesOwn hp (thn (hc pins s1 σ1 H1 _ I1 (turn n σ1 H1 w1)) fun b s2 ⟨H2,I2,q2⟩=>?_)
 cases b with
 | true =>
  obtain ⟨N,hN,q2⟩:=q2
  rw [if_pos rfl]
  refine wpAny_passesOwn hp (thn (hb pins s2 σ1 H2 _ I2 q2) fun f s3 q3=>?_)
  cases f with
  | next =>
   obtain ⟨σ3,H3,I3,n3⟩:=q3
   obtain ⟨m',hm,w3⟩:=hN σ3 H3 n3
   exact ⟨m',hm,σ3,H3,I3,w3⟩
  | cont =>
   obtain ⟨σ3,H3,I3,n3⟩:=q3
   obtain ⟨m',hm,w3⟩:=hN σ3 H3 n3
   exact ⟨m',hm,σ3,H3,I3,w3⟩
  | brk=>exact q3
  | ret v=>exact q3
 | false =>
  rw [if_neg Bool.false_ne_true]
  exact wpAny_execs_nil ⟨σ1,H2,I2,q2⟩
end
structure It where
 go:Nat->Hp->Prop
 yld:Nat->Hp->V->Hp->Prop
 stop:Nat->Hp->Prop
def FpOk (X:Cx) (pins:List (Addr×Obj)) (H:Hp) (b:Addr):Prop :=
 H b=none/\b≠X.env.locals/\b∉X.fs/\(b∈X.ex\/X.s₀.heap.objs.size<=b)/\(∀x c,X.env.cells.lookup x=some c->c≠b)/\∀p∈X.pn++pins,p.1≠b
theorem Inv.fpOk {X:Cx} {pins:List (Addr×Obj)} {σ:St} {H H':Hp} {s:Shared} {b:Addr} (I:Inv X pins σ H s) (hb:s.heap.objs.size<=b) (hn:H' b=none):FpOk X pins H' b:=by
 refine ⟨hn,Nat.ne_of_gt (Nat.lt_of_lt_of_le I.lt hb),I.nofs hb,.inr (Nat.le_trans I.sz hb),fun x c e z=>?_,fun p hp z=>?_⟩
 ·obtain ⟨v,q⟩:=I.cell x c e
  exact absurd (Nat.lt_of_lt_of_le q.lt (by rw [z];exact hb)) (Nat.lt_irrefl _)
 ·exact absurd (Nat.lt_of_lt_of_le (Heap.lt_size (I.pin p hp).1) (by rw [z];exact hb)) (Nat.lt_irrefl _)
structure Turn (P:Program) (w:World) (K:PySem.W.Frag) (tg:Expr) (J:It) (fp:List Addr) (it:Addr) (tn:Nat->Heap->Prop):Prop where
 mem:it∈fp
 obj:∀i h,tn i h->∀b∈fp,∃o,h.get? b=some o/\∀v,o.data≠.cell v
 keep:∀i h h',tn i h->(∀b∈fp,∀o,h.get? b=some o->h'.get? b=some o)->tn i h'
 item:∀(X:Cx),X.prog=P->X.w=w->X.K=K->X.calm=true->∀(i:Nat) (pins:List (Addr×Obj)) (s:Shared) (σ:St) (H:Hp) (E:Value->Shared->Prop),Inv X pins σ H s->(∀b∈fp,FpOk X pins H b)->tn i s.heap->J.go i H ->
  wpAny (model P w) X.A (pyNext (.ref it)) (fun r s1=>∃u,r=some u /\
   wpAny (model P w) X.A (letOwnedTupleGo tg (.ref it) u) (fun _ s2=>∃x H',Inv X pins σ H' s2/\RelV x u/\J.yld i H x H'/\tn (i+1) s2.heap/\∀b∈fp,H' b=none) E s1) E s
 done:∀(X:Cx),X.prog=P->X.w=w->X.K=K->X.calm=true->∀(i:Nat) (pins:List (Addr×Obj)) (s:Shared) (σ:St) (H:Hp) (E:Value->Shared->Prop),Inv X pins σ H s->(∀b∈fp,FpOk X pins H b)->tn i s.heap->J.stop i H ->
  wpAny (model P w) X.A (pyNext (.ref it)) (fun r s1=>r=none/\Inv X pins σ H s1) E s
 self:∀(A:Around) (i:Nat) (s:Shared) (Q:Value->Shared->Prop) (E:Value->Shared->Prop),tn i s.heap->Q (.ref it) s->wpAny (model P w) A (pyIter (.ref it)) Q E s
abbrev TI:=St->Hp->(It->Hp->Prop)->Prop
def PIE (X:Cx) (pins:List (Addr×Obj)) (σ:St) (tg:Expr) (R:It->Hp->Prop) (itv:Value) (s2:Shared):Prop :=
 ∃(it:Addr) (fp:List Addr) (tn:Nat->Heap->Prop) (J:It) (H':Hp),itv= .ref it/\Inv X pins σ H' s2/\Turn X.prog X.w X.K tg J fp it tn/\tn 0 s2.heap/\(∀b∈fp,FpOk X pins H' b)/\R J H'
def PI (X:Cx) (tg iter:Expr) (wi:TI):Prop :=
 ∀(pins:List (Addr×Obj)) (s:Shared) (σ:St) (H:Hp) (R:It->Hp->Prop),Inv X pins σ H s->wi σ H R ->
  wpAny (model X.prog X.w) X.A (eval iter X.env) (fun v s1=>wpAny (model X.prog X.w) X.A (pyIter v) (PIE X pins σ tg R) X.xe s1) X.xe s
theorem go_of {M:Model} {A:Around} {E:Value->Shared->Prop} {s:Shared} {tg:Expr} {it:Addr} {u:Value} {o:Obj} {n:String} {vs:Array Value} {Q:Unit->Shared->Prop} (ho:s.heap.get? it=some o) (hc:o.cls= .type n) (hd:o.data= .fields vs)
  (hn:["enumerate", "zip", "dict_itemiterator", "dict_reverseitemiterator", "odict_iterator", "itertools.zip_longest", "itertools.pairwise"].contains n=false) (hQ:Q () s):wpAny M A (letOwnedTupleGo tg (.ref it) u) Q E s:=by
 unfold letOwnedTupleGo
 cases tg<;>first
  | exact wpAny_pure hQ
  | (cases u<;>first
    | exact wpAny_pure hQ
    | (refine wpAny_bind (wpAny_load ho ?_)
       rw [hc,hd]
       show wpAny M A (if (["enumerate", "zip", "dict_itemiterator", "dict_reverseitemiterator", "odict_iterator", "itertools.zip_longest", "itertools.pairwise"].contains n&&vs[0]?==some (rawInt _))=true then _ else _) Q E s
       rw [if_neg (by intro h;rw [hn,Bool.false_and] at h;cases h)]
       exact wpAny_pure hQ))
def Itl (K:PySem.W.Frag) (a:Addr):It :=
 ⟨fun i H=>∃xs x,SqL K H a xs/\xs[i]?=some x,fun i H x H'=>H'=H/\∀xs,SqL K H a xs->xs[i]?=some x,fun i H=>∃xs,SqL K H a xs/\xs.length<=i⟩
def Itt (K:PySem.W.Frag) (a:Addr):It :=
 ⟨fun i H=>∃xs x,SqT K H a xs/\xs[i]?=some x,fun i H x H'=>H'=H/\∀xs,SqT K H a xs->xs[i]?=some x,fun i H=>∃xs,SqT K H a xs/\xs.length<=i⟩
def Itr (lo:Int) (n:Nat):It:=⟨fun i _=>i<n,fun i H x H'=>H'=H/\x= .int (lo+i),fun i _=>n<=i⟩
theorem turn_list {P:Program} {w:World} {K:PySem.W.Frag} {tg:Expr} (a it:Addr):Turn P w K tg (Itl K a) [it] it (fun i h=>h.IsListIter it a i) where
 mem:=by simp
 obj:=fun i h st b hb=>by
  have e:b=it:=by simpa using hb
  subst e
  obtain ⟨o,e,c,d⟩:=st
  exact ⟨o,e,fun v z=>by rw [d] at z;cases z⟩
 keep:=fun i h h' st k=>st.at fun o e=>k it (by simp) o e
 item:=by
  intro X hP hw hK hc i pins s σ H E I hf st hg
  subst hP hw hK
  obtain ⟨xs,x,hq,hx⟩:=hg
  obtain ⟨its,rv,p,hz⟩:=I.list hq
  obtain ⟨u,hu,ru⟩:=rv.get hx
  obtain ⟨f0,f1,f2,f3,f4,f5⟩:=hf it (by simp)
  refine wpAny_pyNext_list_item st p.isList (x:=u) (by simpa using hu) fun h' st' sb=>?_
  have I1:Inv X pins σ H {s with heap:=h'}:=I.turned (t':=s.toks) (fun b o hb e=>(sb.2 b hb).trans e) f0 f1 f3 f4 f5
  obtain ⟨o,e,c,d⟩:=id st'
  exact ⟨u,rfl,go_of (s:={s with heap:=h'}) e c d (by decide) ⟨x,H,I1,ru,⟨rfl,fun ys hy=>by rw [I.list_inj hy hq];exact hx⟩,st',fun b hb=>(hf b hb).1⟩⟩
 done:=by
  intro X hP hw hK hc i pins s σ H E I hf st hg
  subst hP hw hK
  obtain ⟨xs,hq,hx⟩:=hg
  obtain ⟨its,rv,p,hz⟩:=I.list hq
  obtain ⟨f0,f1,f2,f3,f4,f5⟩:=hf it (by simp)
  have hl:=rv.length
  exact wpAny_pyNext_list_end (I.ok.hd hc) st p.isList (by simp;omega) fun h' eb=>⟨rfl,I.turned (t':=s.toks) (fun b o hb e=>eb b o hb e) f0 f1 f3 f4 f5⟩
 self:=fun _ _ _ _ _ st h=>wpAny_pyIter_listiter st h
theorem turn_tuple {P:Program} {w:World} {K:PySem.W.Frag} {tg:Expr} (a it:Addr):Turn P w K tg (Itt K a) [it] it (fun i h=>h.IsTupleIter it a i) where
 mem:=by simp
 obj:=fun i h st b hb=>by
  have e:b=it:=by simpa using hb
  subst e
  obtain ⟨o,e,c,d⟩:=st
  exact ⟨o,e,fun v z=>by rw [d] at z;cases z⟩
 keep:=fun i h h' st k=>st.at fun o e=>k it (by simp) o e
 item:=by
  intro X hP hw hK hc i pins s σ H E I hf st hg
  subst hP hw hK
  obtain ⟨xs,x,hq,hx⟩:=hg
  obtain ⟨its,rv,p,hz⟩:=I.tuple hq
  obtain ⟨u,hu,ru⟩:=rv.get hx
  obtain ⟨f0,f1,f2,f3,f4,f5⟩:=hf it (by simp)
  refine wpAny_pyNext_tuple_item st (show s.heap.IsTuple a its.toArray from p) (x:=u) (by simpa using hu) fun h' st' sb=>?_
  have I1:Inv X pins σ H {s with heap:=h'}:=I.turned (t':=s.toks) (fun b o hb e=>(sb.2 b hb).trans e) f0 f1 f3 f4 f5
  obtain ⟨o,e,c,d⟩:=id st'
  exact ⟨u,rfl,go_of (s:={s with heap:=h'}) e c d (by decide) ⟨x,H,I1,ru,⟨rfl,fun ys hy=>by rw [I.tuple_inj hy hq];exact hx⟩,st',fun b hb=>(hf b hb).1⟩⟩
 done:=by
  intro X hP hw hK hc i pins s σ H E I hf st hg
  subst hP hw hK
  obtain ⟨xs,hq,hx⟩:=hg
  obtain ⟨its,rv,p,hz⟩:=I.tuple hq
  obtain ⟨f0,f1,f2,f3,f4,f5⟩:=hf it (by simp)
  have hl:=rv.length
  exact wpAny_pyNext_tuple_end (I.ok.hd hc) st (show s.heap.IsTuple a its.toArray from p) (by simp;omega) fun h' eb=>⟨rfl,I.turned (t':=s.toks) (fun b o hb e=>eb b o hb e) f0 f1 f3 f4 f5⟩
 self:=fun _ _ _ _ _ st h=>wpAny_pyIter_tupleiter st h
theorem turn_range {P:Program} {w:World} {K:PySem.W.Frag} {tg:Expr} (it:Addr) (lo:Int) (n:Nat):Turn P w K tg (Itr lo n) [it] it (fun i h=>IsRangeIter h it (lo+(i:Nat)*1) ((n:Int) - (i:Nat)) 1) where
 mem:=by simp
 obj:=fun i h st b hb=>by
  have e:b=it:=by simpa using hb
  subst e
  exact ⟨_,st,fun v z=>by
   have z':Data.fields _=Data.cell v:=z
   cases z'⟩
 keep:=fun i h h' st k=>k it (by simp) _ st
 item:=by
  intro X hP hw hK hc i pins s σ H E I hf st hg
  subst hP hw hK
  obtain ⟨f0,f1,f2,f3,f4,f5⟩:=hf it (by simp)
  have W:=Walks.range (prog:=X.prog) (w:=X.w) (I.ok.hd hc) it lo 1 n
  refine W.item i s _ _ hg st fun v h' tk hv st' kk=>?_
  obtain ⟨t,rfl⟩:=hv
  have I1:Inv X pins σ H {s with heap:=h',toks:=tk}:=I.turned (fun b o hb e=>kk b o (by simpa using hb) e) f0 f1 f3 f4 f5
  refine ⟨_,rfl,go_of (s:={s with heap:=h',toks:=tk}) (n:= "range_iterator") st' rfl rfl (by decide) ⟨.int (lo+i),H,I1,⟨t,?_⟩,⟨rfl,rfl⟩,st',fun b hb=>(hf b hb).1⟩⟩
  rw [Int.mul_one]
 done:=by
  intro X hP hw hK hc i pins s σ H E I hf st hg
  subst hP hw hK
  obtain ⟨f0,f1,f2,f3,f4,f5⟩:=hf it (by simp)
  exact wpAny_pyNext_range_end (I.ok.hd hc) st (by have:n<=i:=hg;omega) fun h' eb=>⟨rfl,I.turned (t':=s.toks) (fun b o hb e=>eb b o hb e) f0 f1 f3 f4 f5⟩
 self:=fun _ _ _ _ _ st h=>wpAny_pyIter_rangeiter st h
section
variable {X:Cx} {tg:Expr}
def iList (K:PySem.W.Frag) (tl:TE):TI:=fun σ H R=>tl σ H fun x H1=>∃a,x= .ref a/\(∃xs,SqL K H1 a xs)/\R (Itl K a) H1
def iTup (K:PySem.W.Frag) (tl:TE):TI:=fun σ H R=>tl σ H fun x H1=>∃a,x= .ref a/\(∃xs,SqT K H1 a xs)/\R (Itt K a) H1
theorem zAm {l:Expr} {tl:TE} (hl:PE X l tl):PI X tg l (iList X.K tl):=by
 intro pins s σ H R I h
 refine thn (hl pins s σ H _ I h) fun v s1 ⟨x,H1,I1,r1,q1⟩=>?_
 obtain ⟨a,e,⟨xs,hq⟩,q⟩:=q1
 subst e
 cases r1
 obtain ⟨its,rv,p,hz⟩:=I1.list hq
 refine wpAny_pyIter_list p.isList ?_
 refine ⟨s1.heap.objs.size,[s1.heap.objs.size],_,_,H1,rfl,I1.kept (t':=s1.toks) fun b o e=>Heap.get?_push_of_some _ e,turn_list a _,⟨_,Heap.get?_push_size _ rfl,rfl,rfl⟩,fun b hb=>?_,q⟩
 have e:b=s1.heap.objs.size:=by simpa using hb
 subst e
 exact I1.fpOk (Nat.le_refl _) (I1.hok.fresh (Nat.le_refl _))
theorem pi_tup {l:Expr} {tl:TE} (hl:PE X l tl):PI X tg l (iTup X.K tl):=by
 intro pins s σ H R I h
 refine thn (hl pins s σ H _ I h) fun v s1 ⟨x,H1,I1,r1,q1⟩=>?_
 obtain ⟨a,e,⟨xs,hq⟩,q⟩:=q1
 subst e
 cases r1
 obtain ⟨its,rv,p,hz⟩:=I1.tuple hq
 refine wpAny_pyIter_tuple (show s1.heap.IsTuple a its.toArray from p) ?_
 refine ⟨s1.heap.objs.size,[s1.heap.objs.size],_,_,H1,rfl,I1.kept (t':=s1.toks) fun b o e=>Heap.get?_push_of_some _ e,turn_tuple a _,⟨_,Heap.get?_push_size _ rfl,rfl,rfl⟩,fun b hb=>?_,q⟩
 have e:b=s1.heap.objs.size:=by simpa using hb
 subst e
 exact I1.fpOk (Nat.le_refl _) (I1.hok.fresh (Nat.le_refl _))
theorem range_it {pins:List (Addr×Obj)} {σ:St} {H:Hp} {s:Shared} {R:It->Hp->Prop} {E:Value->Shared->Prop} {lo hi:Int} {t u v:Tok} {tk:Nat} (I:Inv X pins σ H s) (h1:-(2^62)<=lo) (h2:lo<2^62) (h3:-(2^62)<=hi) (h4:hi<2^62)
  (q:R (Itr lo (hi - lo).toNat) H):wpAny (model X.prog X.w) X.A (pyIter (.ref s.heap.objs.size)) (PIE X pins σ tg R) E {s with heap:=s.heap.push {cls:=.type "range",data:=.fields #[.int lo t,.int hi u,.int 1 v]},toks:=tk}:=by
 refine wpAny_pyIter_range (IsRange.new ..) (small_one h1 h2 h3 h4) ?_
 have I1:Inv X pins σ H {s with heap:=s.heap.push {cls:=.type "range",data:=.fields #[.int lo t,.int hi u,.int 1 v]},toks:=tk}:=I.kept fun b o e=>Heap.get?_push_of_some _ e
 refine ⟨(s.heap.push {cls:=.type "range",data:=.fields #[.int lo t,.int hi u,.int 1 v]}).objs.size,[(s.heap.push {cls:=.type "range",data:=.fields #[.int lo t,.int hi u,.int 1 v]}).objs.size],_,_,H,rfl,
  I1.kept (t':=tk) fun b o e=>Heap.get?_push_of_some _ e,turn_range _ lo (hi - lo).toNat,?_,fun b hb=>?_,q⟩
 ·have e1:lo+((0:Nat):Int)*1=lo:=by simp
  have e2:(((hi - lo).toNat:Nat):Int) - ((0:Nat):Int)=Builtin.Range.rangeSize lo hi 1:=by rw [rangeSize_one];split<;>omega
  show IsRangeIter _ _ (lo+((0:Nat):Int)*1) ((((hi - lo).toNat:Nat):Int) - ((0:Nat):Int)) 1
  rw [e1,e2]
  exact Heap.get?_push_size _ rfl
 ·have e:b=(s.heap.push {cls:=.type "range",data:=.fields #[.int lo t,.int hi u,.int 1 v]}).objs.size:=by simpa using hb
  subst e
  exact I1.fpOk (Nat.le_refl _) (I1.hok.fresh (Nat.le_refl _))
def iRng1 (ta:TA):TI:=fun σ H R=>ta σ H fun vs H1=>∃j:Int,vs=[.int j]/\-(2^62)<=j/\j<2^62/\R (Itr 0 j.toNat) H1
def iRng2 (ta:TA):TI:=fun σ H R=>ta σ H fun vs H1=>∃i j:Int,vs=[.int i,.int j]/\(-(2^62)<=i/\i<2^62/\-(2^62)<=j/\j<2^62)/\R (Itr i (j - i).toNat) H1
theorem zB4 {a:Expr} {ta:TA} {p pos:Pos} (hg:Gl X "range") (hm:X.mg "range" = none) (ha:PA X [a] ta) (hs:starEach [a] X.env=[(false,eval a X.env)]:=by rfl):PI X tg (.Call (.Name "range" p) [a] [] pos) (iRng1 ta):=by
 intro pins s σ H R I h
 refine Call_ (ld_blt I hg hm boot_range (PyProof.Rows.callWith_type1 (thn (ha pos pins s σ H _ I h) fun us s1 ⟨vs,H1,I1,r1,q1⟩=>?_) hs rfl))
 obtain ⟨j,e,q1,q2,q⟩:=q1
 subst e
 cases r1 with
 | cons r rr =>
  cases rr
  obtain ⟨t,rfl⟩:=r
  exact call_range_1 (range_it I1 (by omega) (by omega) q1 q2 (by simpa using q))
theorem pi_range2 {a b:Expr} {ta:TA} {p pos:Pos} (hg:Gl X "range") (hm:X.mg "range" = none) (ha:PA X [a,b] ta) (hs:starEach [a,b] X.env=[(false,eval a X.env),(false,eval b X.env)]:=by rfl) (hs2:starEach [b] X.env=[(false,eval b X.env)]:=by rfl) :
  PI X tg (.Call (.Name "range" p) [a,b] [] pos) (iRng2 ta):=by
 intro pins s σ H R I h
 refine Call_ (ld_blt I hg hm boot_range (PyProof.Rows.callWith_type1 (thn (ha pos pins s σ H _ I h) fun us s1 ⟨vs,H1,I1,r1,q1⟩=>?_) (by rw [hs,hs2]) (by rw [hs2];rfl)))
 obtain ⟨i,j,e,⟨q1,q2,q3,q4⟩,q⟩:=q1
 subst e
 cases r1 with
 | cons r rr =>
  cases rr with
  | cons r' rr =>
   cases rr
   obtain ⟨t,rfl⟩:=r
   obtain ⟨t',rfl⟩:=r'
   exact call_range_2 (range_it I1 q1 q2 q3 q4 q)
def tFor (wi:TI) (g:TG) (tb:TS):TS:=fun D σ H=>wi σ H fun J H1=>∃W:Nat->Nat->St->Hp->Prop,(∃m,W 0 m σ H1)/\∀i m σ H,W i m σ H ->
 (J.stop i H/\D.nx σ H)\/(J.go i H/\∃N:St->Hp->Prop,(∀σ' H',N σ' H'->∃m',m'<m/\W (i+1) m' σ' H')/\∀x H',J.yld i H x H'->g x σ H' fun σ2 H2=>tb {D with nx:=N,ct:=N,bk:=D.nx} σ2 H2)
def pinsAt (fp:List Addr) (h:Heap):List (Addr×Obj):=fp.filterMap fun b=>(h.get? b).map fun o=>(b,o)
theorem zDz {fp:List Addr} {h:Heap} {b:Addr} {o:Obj} (hb:b∈fp) (e:h.get? b=some o):(b,o)∈pinsAt fp h:=List.mem_filterMap.mpr ⟨b,hb,by rw [e];rfl⟩
theorem of_pinsAt {fp:List Addr} {h:Heap} {p:Addr×Obj} (hp:p∈pinsAt fp h):p.1∈fp/\h.get? p.1=some p.2:=by
 obtain ⟨b,hb,e⟩:=List.mem_filterMap.mp hp
 cases q:h.get? b with
 | none=>rw [q] at e;cases e
 | some o =>
  rw [q] at e
  have e':(b,o)=p:=Option.some.inj e
  subst e'
  exact ⟨hb,q⟩
theorem Inv.pinned {pins:List (Addr×Obj)} {σ:St} {H:Hp} {s:Shared} {fp:List Addr} (I:Inv X pins σ H s) (hf:∀b∈fp,FpOk X pins H b) (ho:∀b∈fp,∃o,s.heap.get? b=some o/\∀v,o.data≠.cell v):Inv X (pins++pinsAt fp s.heap) σ H s :=
 I.pins_of fun p hp=>(List.mem_append.mp hp).elim (fun z=>I.pin p (List.mem_append_right _ z)) fun z=>by
  obtain ⟨hb,e⟩:=of_pinsAt z
  obtain ⟨f0,f1,f2,_⟩:=hf p.1 hb
  obtain ⟨o,e',d⟩:=ho p.1 hb
  rw [e] at e';cases e'
  exact ⟨e,f0,f1,f2,d⟩
theorem Inv.unpinned {pins pl:List (Addr×Obj)} {σ:St} {H:Hp} {s:Shared} (I:Inv X (pins++pl) σ H s):Inv X pins σ H s:=I.pins_of fun p hp=>I.pin p (List.mem_append_right _ (List.mem_append_left _ hp))
theorem zAx {iter:Expr} {body:List Stmt} {wi:TI} {g:TG} {tb:TS} {pos:Pos} (hp:PassesOwn (model X.prog X.w) X.A X.env X.xe) (hc:X.calm=true) (hi:PI X tg iter wi) (hg:PG X tg g) (hb:PSs X body tb)
  (hs:∀x,foldedSetIterable iter X.env x=pure x:=by intro _;rfl):PS X (.For tg iter body [] pos) (tFor wi g tb):=by
 intro pins s σ H D I h
 refine wpAny_For (thn (hi pins s σ H _ I h) fun v s1 h1=>thn h1 fun itv s2 h2=>?_) hs
 obtain ⟨it,fp,tn,J,H2,e,I2,T,st2,f2,W,⟨m0,w0⟩,turn⟩:=h2
 subst e
 have stat:∀{H':Hp},(∀b∈fp,H' b=none)->∀b∈fp,FpOk X pins H' b:=fun hn b hb=>⟨hn b hb,(f2 b hb).2⟩
 refine codeAny_forLoop_any (fun n s'=>∃i σ' H',Inv X pins σ' H' s'/\tn i s'.heap/\(∀b∈fp,H' b=none)/\W i n σ' H') ?_ m0 ⟨0,σ,H2,I2,st2,fun b hb=>(f2 b hb).1,w0⟩
 rintro n s3 ⟨i,σ3,H3,I3,st3,fr3,w3⟩
 rcases turn i n σ3 H3 w3 with ⟨stop,qn⟩| ⟨go,N,hN,step⟩
 ·refine wpAny_passesOwn hp (thn (T.done X rfl rfl rfl hc i pins s3 σ3 H3 X.xe I3 (stat fr3) st3 stop) fun r s4 ⟨hr,I4⟩=>?_)
  subst hr
  exact wpAny_execs_nil ⟨σ3,H3,I4,qn⟩
 ·refine wpAny_passesOwn hp (thn (T.item X rfl rfl rfl hc i pins s3 σ3 H3 X.xe I3 (stat fr3) st3 go) fun r s4 ⟨u,hr,h4⟩=>?_)
  subst hr
  refine wpAny_passesOwn hp (thn h4 fun _ s5 ⟨x,H5,I5,r5,y5,st5,fr5⟩=>?_)
  have I5':=I5.pinned (stat fr5) (T.obj _ _ st5)
  refine wpAny_passesOwn hp (thn (hg _ s5 σ3 H5 x u _ I5' r5 (step x H5 y5)) fun _ s6 ⟨σ6,H6,I6,q6⟩=>?_)
  refine wpAny_passesOwn hp (thn (hb _ s6 σ6 H6 _ I6 q6) fun f s7 q7=>?_)
  have again:∀{σ7:St} {H7:Hp},Inv X (pins++pinsAt fp s5.heap) σ7 H7 s7->N σ7 H7->∃m,m<n/\∃i σ' H',Inv X pins σ' H' s7/\tn i s7.heap/\(∀b∈fp,H' b=none)/\W i m σ' H':=fun {σ7 H7} I7 n7=>by
   obtain ⟨m',hm,w7⟩:=hN σ7 H7 n7
   refine ⟨m',hm,i+1,σ7,H7,I7.unpinned,T.keep _ _ _ st5 fun b hb o e=>(I7.pin (b,o) (List.mem_append_right _ (List.mem_append_right _ (zDz hb e)))).1,fun b hb=>?_,w7⟩
   obtain ⟨o,e,d⟩:=T.obj _ _ st5 b hb
   exact (I7.pin (b,o) (List.mem_append_right _ (List.mem_append_right _ (zDz hb e)))).2.1
  cases f with
  | next=>obtain ⟨σ7,H7,I7,n7⟩:=q7;exact again I7 n7
  | cont=>obtain ⟨σ7,H7,I7,n7⟩:=q7;exact again I7 n7
  | brk=>obtain ⟨σ7,H7,I7,q7⟩:=q7;exact ⟨σ7,H7,I7.unpinned,q7⟩
  | ret v=>obtain ⟨x7,σ7,H7,I7,r7,q7⟩:=q7;exact ⟨x7,σ7,H7,I7.unpinned,r7,q7⟩
end
theorem zAy {K:PySem.W.Frag} {a:Addr} {xs:List V} {g:TG} {tb:TS} {D:Ends} {σ:St} {H:Hp} (Pv:Nat->St->Hp->Prop) (h0:Pv 0 σ H) (hl:∀i σ H,i<=xs.length->Pv i σ H->SqL K H a xs)
  (hs:∀i x σ H,xs[i]?=some x->Pv i σ H->g x σ H fun σ2 H2=>tb {D with nx:=Pv (i+1),ct:=Pv (i+1),bk:=D.nx} σ2 H2) (hd:∀σ H,Pv xs.length σ H->D.nx σ H) :
  ∃W:Nat->Nat->St->Hp->Prop,(∃m,W 0 m σ H)/\∀i m σ H,W i m σ H ->
   ((Itl K a).stop i H/\D.nx σ H)\/((Itl K a).go i H/\∃N:St->Hp->Prop,(∀σ' H',N σ' H'->∃m',m'<m/\W (i+1) m' σ' H')/\∀x H',(Itl K a).yld i H x H'->g x σ H' fun σ2 H2=>tb {D with nx:=N,ct:=N,bk:=D.nx} σ2 H2):=by
 refine ⟨fun i m σ H=>m=xs.length - i/\i<=xs.length/\Pv i σ H,⟨xs.length,by simp,Nat.zero_le _,h0⟩,?_⟩
 rintro i m σ H ⟨rfl,hi,p⟩
 have q:=hl i σ H hi p
 by_cases hlt:i<xs.length
 ·refine .inr ⟨⟨xs,xs[i],q,by simp [hlt]⟩,Pv (i+1),fun σ' H' p'=>⟨xs.length - (i+1),by omega,rfl,hlt,p'⟩,fun x H' y=>?_⟩
  obtain ⟨e,y⟩:=y
  subst e
  exact hs i x σ _ (y xs q) p
 ·have e:i=xs.length:=by omega
  subst e
  exact .inl ⟨⟨xs,q,Nat.le_refl _⟩,hd σ H p⟩
theorem for_tup {K:PySem.W.Frag} {a:Addr} {xs:List V} {g:TG} {tb:TS} {D:Ends} {σ:St} {H:Hp} (Pv:Nat->St->Hp->Prop) (h0:Pv 0 σ H) (hl:∀i σ H,i<=xs.length->Pv i σ H->SqT K H a xs)
  (hs:∀i x σ H,xs[i]?=some x->Pv i σ H->g x σ H fun σ2 H2=>tb {D with nx:=Pv (i+1),ct:=Pv (i+1),bk:=D.nx} σ2 H2) (hd:∀σ H,Pv xs.length σ H->D.nx σ H) :
  ∃W:Nat->Nat->St->Hp->Prop,(∃m,W 0 m σ H)/\∀i m σ H,W i m σ H ->
   ((Itt K a).stop i H/\D.nx σ H)\/((Itt K a).go i H/\∃N:St->Hp->Prop,(∀σ' H',N σ' H'->∃m',m'<m/\W (i+1) m' σ' H')/\∀x H',(Itt K a).yld i H x H'->g x σ H' fun σ2 H2=>tb {D with nx:=N,ct:=N,bk:=D.nx} σ2 H2):=by
 refine ⟨fun i m σ H=>m=xs.length - i/\i<=xs.length/\Pv i σ H,⟨xs.length,by simp,Nat.zero_le _,h0⟩,?_⟩
 rintro i m σ H ⟨rfl,hi,p⟩
 have q:=hl i σ H hi p
 by_cases hlt:i<xs.length
 ·refine .inr ⟨⟨xs,xs[i],q,by simp [hlt]⟩,Pv (i+1),fun σ' H' p'=>⟨xs.length - (i+1),by omega,rfl,hlt,p'⟩,fun x H' y=>?_⟩
  obtain ⟨e,y⟩:=y
  subst e
  exact hs i x σ _ (y xs q) p
 ·have e:i=xs.length:=by omega
  subst e
  exact .inl ⟨⟨xs,q,Nat.le_refl _⟩,hd σ H p⟩
theorem zBo {lo:Int} {n:Nat} {g:TG} {tb:TS} {D:Ends} {σ:St} {H:Hp} (Pv:Nat->St->Hp->Prop) (h0:Pv 0 σ H)
  (hs:∀i σ H,i<n->Pv i σ H->g (.int (lo+i)) σ H fun σ2 H2=>tb {D with nx:=Pv (i+1),ct:=Pv (i+1),bk:=D.nx} σ2 H2) (hd:∀σ H,Pv n σ H->D.nx σ H) :
  ∃W:Nat->Nat->St->Hp->Prop,(∃m,W 0 m σ H)/\∀i m σ H,W i m σ H ->
   ((Itr lo n).stop i H/\D.nx σ H)\/((Itr lo n).go i H/\∃N:St->Hp->Prop,(∀σ' H',N σ' H'->∃m',m'<m/\W (i+1) m' σ' H')/\∀x H',(Itr lo n).yld i H x H'->g x σ H' fun σ2 H2=>tb {D with nx:=N,ct:=N,bk:=D.nx} σ2 H2):=by
 refine ⟨fun i m σ H=>m=n - i/\i<=n/\Pv i σ H,⟨n,by simp,Nat.zero_le _,h0⟩,?_⟩
 rintro i m σ H ⟨rfl,hi,p⟩
 by_cases hlt:i<n
 ·refine .inr ⟨hlt,Pv (i+1),fun σ' H' p'=>⟨n - (i+1),by omega,rfl,hlt,p'⟩,fun x H' y=>?_⟩
  obtain ⟨e,y⟩:=y
  subst e y
  exact hs i σ _ hlt p
 ·have e:i=n:=by omega
  subst e
  exact .inl ⟨Nat.le_refl _,hd σ H p⟩
theorem zHy {c:TT} {tb:TS} {D:Ends} {σ:St} {H:Hp} (Pv:St->Hp->Prop) (μ:St->Hp->Nat) (h0:Pv σ H)
  (hs:∀σ H,Pv σ H->c σ H fun b H1=>if b=true then tb {D with nx:=fun σ' H'=>Pv σ' H'/\μ σ' H'<μ σ H,ct:=fun σ' H'=>Pv σ' H'/\μ σ' H'<μ σ H,bk:=D.nx} σ H1 else D.nx σ H1)
  (mono:∀σ H Q Q',(∀b H1,Q b H1->Q' b H1)->c σ H Q->c σ H Q'):tWhile c tb D σ H:=by
 refine ⟨fun m σ H=>m=μ σ H/\Pv σ H,⟨_,rfl,h0⟩,?_⟩
 rintro m σ H ⟨rfl,p⟩
 refine mono σ H _ _ (fun b H1 q=>?_) (hs σ H p)
 cases b with
 | true=>exact ⟨_,fun σ' H' ⟨p',l⟩=>⟨_,l,rfl,p'⟩,q⟩
 | false=>exact q
abbrev R2:=V->V->Hp->VK->Prop
def OpR (X:Cx) (f:Value->Value->Sem Value) (r:R2):Prop :=
 ∀(pins:List (Addr×Obj)) (s:Shared) (σ:St) (H:Hp) (x y:V) (v u:Value) (Q:VK),Inv X pins σ H s->RelV x v->RelV y u->r x y H Q ->
  wpAny (model X.prog X.w) X.A (f v u) (EP X pins σ Q) X.xe s
def zDe (X:Cx) (f:Value) (r:List V->Hp->VK->Prop):Prop :=
 ∀(pins:List (Addr×Obj)) (s:Shared) (σ:St) (H:Hp) (xs:List V) (us:List Value) (Q:VK),Inv X pins σ H s->Vals xs us->r xs H Q ->
  wpAny (model X.prog X.w) X.A (call f us) (EP X pins σ Q) X.xe s
def TruR (X:Cx) (r:V->Hp->(Bool->Hp->Prop)->Prop):Prop :=
 ∀(pins:List (Addr×Obj)) (s:Shared) (σ:St) (H:Hp) (x:V) (v:Value) (Q:Bool->Hp->Prop),Inv X pins σ H s->RelV x v->r x H Q ->
  wpAny (model X.prog X.w) X.A (truthy v) (TP X pins σ Q) X.xe s
def tOp (r:R2) (ta tb:TE):TE:=fun σ H Q=>ta σ H fun x H1=>tb σ H1 fun y H2=>r x y H2 Q
def rI (C:Int->Int->Prop) (g:Int->Int->V):R2:=fun x y H Q=>∃i j,x= .int i/\y= .int j/\C i j/\Q (g i j) H
def rI0 (g:Int->Int->V):R2:=fun x y H Q=>∃i j,x= .int i/\y= .int j/\Q (g i j) H
section
variable {X:Cx} {a b c:Expr} {ta tb tc:TE} {pos:Pos}
theorem binT (ha:PE X a ta) (hb:PE X b tb) {pins:List (Addr×Obj)} {s:Shared} {σ:St} {H:Hp} {R:V->V->Hp->Prop} (I:Inv X pins σ H s)
  (h:ta σ H fun x H1=>tb σ H1 fun y H2=>R x y H2) {Q:Value->Shared->Prop} {f:Value->Value->Sem Value}
  (hf:∀v u s2 x y H2,Inv X pins σ H2 s2->RelV x v->RelV y u->R x y H2->wpAny (model X.prog X.w) X.A (f v u) Q X.xe s2) :
  wpAny (model X.prog X.w) X.A (eval a X.env) (fun v s₁=>wpAny (model X.prog X.w) X.A (eval b X.env) (fun u s₂=>wpAny (model X.prog X.w) X.A (f v u) Q X.xe s₂) X.xe s₁) X.xe s:=by
 refine thn (ha pins s σ H _ I h) fun v s1 ⟨x,H1,I1,r1,q1⟩=>?_
 refine thn (hb pins s1 σ H1 _ I1 q1) fun u s2 ⟨y,H2,I2,r2,q2⟩=>?_
 exact hf v u s2 x y H2 I2 r1 r2 q2
theorem zAp {op:Operator} {r:R2} (ho:OpR X (binaryOp op) r) (ha:PE X a ta) (hb:PE X b tb):PE X (.BinOp a op b pos) (tOp r ta tb):=by
 intro pins s σ H Q I h
 exact wpAny_BinOp (binT ha hb I h fun v u s2 x y H2 I2 rx ry q=>ho pins s2 σ H2 x y v u Q I2 rx ry q)
theorem opI {f:Value->Value->Sem Value} {C:Int->Int->Prop} {g:Int->Int->Int}
  (rule:∀(i j:Int) (t u:Tok) (s:Shared) (Q:Value->Shared->Prop) (E:Value->Shared->Prop),C i j->Q (.int (g i j) s.toks) {s with toks:=s.toks+1}->wpAny (model X.prog X.w) X.A (f (.int i t) (.int j u)) Q E s) :
  OpR X f (rI C fun i j=>.int (g i j)):=by
 intro pins s σ H x y v u Q I rx ry h
 obtain ⟨i,j,rfl,rfl,hc,q⟩:=h
 obtain ⟨t,rfl⟩:=rx
 obtain ⟨t',rfl⟩:=ry
 exact rule i j t t' s _ _ hc ⟨.int (g i j),H,I.tok _,⟨_,rfl⟩,q⟩
theorem opI0 {f:Value->Value->Sem Value} {g:Int->Int->Int}
  (rule:∀(i j:Int) (t u:Tok) (s:Shared) (Q:Value->Shared->Prop) (E:Value->Shared->Prop),Q (.int (g i j) s.toks) {s with toks:=s.toks+1}->wpAny (model X.prog X.w) X.A (f (.int i t) (.int j u)) Q E s) :
  OpR X f (rI0 fun i j=>.int (g i j)):=by
 intro pins s σ H x y v u Q I rx ry h
 obtain ⟨i,j,rfl,rfl,q⟩:=h
 obtain ⟨t,rfl⟩:=rx
 obtain ⟨t',rfl⟩:=ry
 exact rule i j t t' s _ _ ⟨.int (g i j),H,I.tok _,⟨_,rfl⟩,q⟩
theorem opB0 {f:Value->Value->Sem Value} {g:Int->Int->Bool}
  (rule:∀(i j:Int) (t u:Tok) (s:Shared) (Q:Value->Shared->Prop) (E:Value->Shared->Prop),Q (.bool (g i j)) s->wpAny (model X.prog X.w) X.A (f (.int i t) (.int j u)) Q E s) :
  OpR X f (rI0 fun i j=>.bl (g i j)):=by
 intro pins s σ H x y v u Q I rx ry h
 obtain ⟨i,j,rfl,rfl,q⟩:=h
 obtain ⟨t,rfl⟩:=rx
 obtain ⟨t',rfl⟩:=ry
 exact rule i j t t' s _ _ ⟨.bl (g i j),H,I,rfl,q⟩
def CDiv (i j:Int):Prop:=0<j/\j<1073741824
def CPow (i j:Int):Prop:=0<=j/\j<=1000000/\i.natAbs<2^64
def CMul (i j:Int):Prop:=(-(2^64)<i/\i<2^64)\/(-(2^64)<j/\j<2^64)
theorem CMul.ok {i j:Int} (h:CMul i j):IntMulOk i j:=by
 rcases h with ⟨h1,h2⟩| ⟨h1,h2⟩
 ·exact .of_left (intBits_le_64 h1 h2)
 ·exact .of_right (intBits_le_64 h1 h2)
theorem zCa:OpR X (binaryOp .Add) (rI0 fun i j=>.int (i+j)):=opI0 fun _ _ _ _ _ _ _ q=>add_int q
theorem zGq:OpR X (binaryOp .Sub) (rI0 fun i j=>.int (i - j)):=opI0 fun _ _ _ _ _ _ _ q=>sub_int q
theorem zEr:OpR X (binaryOp .Mult) (rI CMul fun i j=>.int (i*j)):=opI fun _ _ _ _ _ _ _ hc q=>mul_int q hc.ok
theorem zIh:OpR X (binaryOp .FloorDiv) (rI CDiv fun i j=>.int (i / j)):=opI fun i j _ _ _ _ _ hc q=>by
 have h1:(0:Int)<j:=hc.1
 have h2:j<1073741824:=hc.2
 exact floordiv_int (by omega) (by rw [Int.fdiv_eq_ediv_of_nonneg i (by omega)];exact q) (.inl (PyProof.noPylong_small (by omega)))
theorem zD6:OpR X (binaryOp .Mod) (rI (fun _ j=>0<j) fun i j=>.int (i % j)):=opI fun i j _ _ _ _ _ hc q=>by
 have h1:(0:Int)<j:=hc
 exact mod_int' (by omega) (by rw [Int.fmod_eq_emod_of_nonneg i (by omega)];exact q)
theorem op_pow:OpR X (binaryOp .Pow) (rI CPow fun i j=>.int (i^j.toNat)):=opI fun _ _ _ _ _ _ _ hc q=>pow_int_small hc.1 hc.2.1 hc.2.2 q
end
def scal:V->V->Bool
 | .non,.non=>true| .non,.int _=>true| .int _,.non=>true| .non,.bl _=>true| .bl _,.non=>true| .non,.str _=>true| .str _,.non=>true
 | .int _,.int _=>true| .bl _,.bl _=>true| .str _,.str _=>true| .byt _,.byt _=>true
 | .int _,.str _=>true| .str _,.int _=>true| .bl _,.str _=>true| .str _,.bl _=>true
 | _,_=>false
def rEq:R2:=fun x y H Q=>scal x y=true/\Q (.bl (decide (x=y))) H
def rNe:R2:=fun x y H Q=>scal x y=true/\Q (.bl (!decide (x=y))) H
theorem dec_int {i j:Int}:decide (V.int i=V.int j)=(i==j):=by
 rw [Bool.eq_iff_iff]
 simp
theorem dec_bl {i j:Bool}:decide (V.bl i=V.bl j)=(i==j):=by
 rw [Bool.eq_iff_iff]
 simp
theorem dec_str {i j:Str}:decide (V.str i=V.str j)=(i==j):=by
 rw [Bool.eq_iff_iff]
 simp
theorem dec_byt {i j:Array UInt8}:decide (V.byt i=V.byt j)=(i.toList==j.toList):=by
 rw [Bool.eq_iff_iff]
 cases i
 cases j
 simp
section
variable {X:Cx} {a b c:Expr} {ta tb tc:TE} {pos:Pos}
theorem zA1 {pins:List (Addr×Obj)} {σ:St} {H:Hp} {s:Shared} {Q:VK} {k k':Bool} (I:Inv X pins σ H s) (q:Q (.bl k) H) (e:k=k'):EP X pins σ Q (.bool k') s:=by
 subst e
 exact ⟨.bl k,H,I,rfl,q⟩
theorem op_eq:OpR X (compareOp .Eq) rEq:=by
 intro pins s σ H x y v u Q I rx ry h
 obtain ⟨hs,q⟩:=h
 cases x with
 | non =>
  cases rx
  cases y with
  | non=>cases ry;exact PySem.EqNone.eq_none_none (zA1 I q (by simp))
  | bl j=>cases ry;exact PySem.EqNone.eq_none_bool (zA1 I q (by simp))
  | int j=>obtain ⟨t',rfl⟩:=ry;exact PySem.EqNone.eq_none_int (zA1 I q (by simp))
  | str j=>obtain ⟨t',rfl⟩:=ry;exact PySem.EqNone.eq_none_str (zA1 I q (by simp))
  | _=>exact absurd (show false=true from hs) Bool.false_ne_true
 | bl i =>
  cases rx
  cases y with
  | non=>cases ry;exact PySem.EqNone.eq_bool_none (zA1 I q (by simp))
  | bl j=>cases ry;exact eq_bool (zA1 I q dec_bl)
  | str j=>obtain ⟨t',rfl⟩:=ry;exact PySem.EqMixed.eq_bool_str (zA1 I q (by simp))
  | _=>exact absurd (show false=true from hs) Bool.false_ne_true
 | int i =>
  obtain ⟨t,rfl⟩:=rx
  cases y with
  | non=>cases ry;exact PySem.EqNone.eq_int_none (zA1 I q (by simp))
  | int j=>obtain ⟨t',rfl⟩:=ry;exact eq_int (zA1 I q dec_int)
  | str j=>obtain ⟨t',rfl⟩:=ry;exact PySem.EqMixed.eq_int_str (zA1 I q (by simp))
  | _=>exact absurd (show false=true from hs) Bool.false_ne_true
 | str i =>
  obtain ⟨t,rfl⟩:=rx
  cases y with
  | non=>cases ry;exact PySem.EqNone.eq_str_none (zA1 I q (by simp))
  | bl j=>cases ry;exact PySem.EqMixed.eq_str_bool (zA1 I q (by simp))
  | int j=>obtain ⟨t',rfl⟩:=ry;exact PySem.EqMixed.eq_str_int (zA1 I q (by simp))
  | str j=>obtain ⟨t',rfl⟩:=ry;exact eq_str (zA1 I q dec_str)
  | _=>exact absurd (show false=true from hs) Bool.false_ne_true
 | byt i =>
  obtain ⟨t,rfl⟩:=rx
  cases y with
  | byt j=>obtain ⟨t',rfl⟩:=ry;exact PySem.W.eq_bytes (zA1 I q dec_byt)
  | _=>exact absurd (show false=true from hs) Bool.false_ne_true
 | _=>cases y<;>exact absurd (show false=true from hs) Bool.false_ne_true
theorem op_ne:OpR X (compareOp .NotEq) rNe:=by
 intro pins s σ H x y v u Q I rx ry h
 obtain ⟨hs,q⟩:=h
 cases x with
 | non =>
  cases rx
  cases y with
  | non=>cases ry;exact PySem.EqNone.ne_none_none (zA1 I q (by simp))
  | bl j=>cases ry;exact PySem.EqNone.ne_none_bool (zA1 I q (by simp))
  | int j=>obtain ⟨t',rfl⟩:=ry;exact PySem.EqNone.ne_none_int (zA1 I q (by simp))
  | str j=>obtain ⟨t',rfl⟩:=ry;exact PySem.EqNone.ne_none_str (zA1 I q (by simp))
  | _=>exact absurd (show false=true from hs) Bool.false_ne_true
 | bl i =>
  cases rx
  cases y with
  | non=>cases ry;exact PySem.EqNone.ne_bool_none (zA1 I q (by simp))
  | bl j=>cases ry;exact ne_bool (zA1 I q (congrArg not dec_bl))
  | str j=>obtain ⟨t',rfl⟩:=ry;exact PySem.EqMixed.ne_bool_str (zA1 I q (by simp))
  | _=>exact absurd (show false=true from hs) Bool.false_ne_true
 | int i =>
  obtain ⟨t,rfl⟩:=rx
  cases y with
  | non=>cases ry;exact PySem.EqNone.ne_int_none (zA1 I q (by simp))
  | int j=>obtain ⟨t',rfl⟩:=ry;exact ne_int (zA1 I q (congrArg not dec_int))
  | str j=>obtain ⟨t',rfl⟩:=ry;exact PySem.EqMixed.ne_int_str (zA1 I q (by simp))
  | _=>exact absurd (show false=true from hs) Bool.false_ne_true
 | str i =>
  obtain ⟨t,rfl⟩:=rx
  cases y with
  | non=>cases ry;exact PySem.EqNone.ne_str_none (zA1 I q (by simp))
  | bl j=>cases ry;exact PySem.EqMixed.ne_str_bool (zA1 I q (by simp))
  | int j=>obtain ⟨t',rfl⟩:=ry;exact PySem.EqMixed.ne_str_int (zA1 I q (by simp))
  | str j=>obtain ⟨t',rfl⟩:=ry;exact ne_str (zA1 I q (congrArg not dec_str))
  | _=>exact absurd (show false=true from hs) Bool.false_ne_true
 | byt i =>
  obtain ⟨t,rfl⟩:=rx
  cases y with
  | byt j=>obtain ⟨t',rfl⟩:=ry;exact PySem.W.ne_bytes (zA1 I q (congrArg not dec_byt))
  | _=>exact absurd (show false=true from hs) Bool.false_ne_true
 | _=>cases y<;>exact absurd (show false=true from hs) Bool.false_ne_true
theorem op_lt:OpR X (compareOp .Lt) (rI0 fun i j=>.bl (decide (i<j))):=opB0 fun _ _ _ _ _ _ _ q=>lt_int q
theorem op_le:OpR X (compareOp .LtE) (rI0 fun i j=>.bl (decide (i<=j))):=opB0 fun _ _ _ _ _ _ _ q=>le_int q
theorem op_gt:OpR X (compareOp .Gt) (rI0 fun i j=>.bl (decide (j<i))):=opB0 fun _ _ _ _ _ _ _ q=>gt_int q
theorem op_ge:OpR X (compareOp .GtE) (rI0 fun i j=>.bl (decide (j<=i))):=opB0 fun _ _ _ _ _ _ _ q=>ge_int q
theorem zAv (b:Expr) {op:CmpOp} (h:op≠.In:=by decide) (h2:op≠.NotIn:=by decide):behindInMarks op b=false:=by
 have e1:(op==CmpOp.In)=false:=by cases op<;>first| rfl| exact absurd rfl h
 have e2:(op==CmpOp.NotIn)=false:=by cases op<;>first| rfl| exact absurd rfl h2
 cases b<;>simp [behindInMarks,e1,e2]
theorem zCh {op:CmpOp} {r:R2} (ho:OpR X (compareOp op) r) (ha:PE X a ta) (hb:PE X b tb) (hm:behindInMarks op b=false):PE X (.Compare a [op] [b] pos) (tOp r ta tb):=by
 intro pins s σ H Q I h
 exact wpAny_Compare1 (binT ha hb I h fun v u s2 x y H2 I2 rx ry q=>ho pins s2 σ H2 x y v u Q I2 rx ry q) hm
def tTest (t:TE):TT:=fun σ H Q=>t σ H fun x H'=>∃k,x= .bl k/\Q k H'
theorem zAn {op:CmpOp} {r:R2} (ho:OpR X (compareOp op) r) (ha:PE X a ta) (hb:PE X b tb) (hm:behindInMarks op b=false):PT X (.Compare a [op] [b] pos) (tTest (tOp r ta tb)):=by
 intro pins s σ H Q I h
 refine wpAny_isTrue_Compare1 (thn (ha pins s σ H _ I h) fun v s1 ⟨x,H1,I1,r1,q1⟩=>thn (hb pins s1 σ H1 _ I1 q1) fun u s2 ⟨y,H2,I2,r2,q2⟩ =>
  thn (ho pins s2 σ H2 x y v u _ I2 r1 r2 q2) fun c s3 ⟨z,H3,I3,r3,k,e,q3⟩=>?_) hm
 subst e
 cases r3
 exact wpAny_truthy_bool ⟨H3,I3,q3⟩
def tChain (r r':R2) (ta tb tc:TE):TE:=fun σ H Q=>ta σ H fun x H1=>tb σ H1 fun y H2=>r x y H2 fun z H3=>∃k,z= .bl k /\
 (if k=true then tc σ H3 fun w' H4=>r' y w' H4 Q else Q (.bl false) H3)
theorem pe_chain {op op':CmpOp} {r r':R2} (ho:OpR X (compareOp op) r) (ho':OpR X (compareOp op') r') (ha:PE X a ta) (hb:PE X b tb) (hc:PE X c tc)
  (hm:lastMarks [op,op'] [b,c]=false:=by with_unfolding_all rfl):PE X (.Compare a [op,op'] [b,c] pos) (tChain r r' ta tb tc):=by
 intro pins s σ H Q I h
 refine Compare_chain (thn (ha pins s σ H _ I h) fun v s1 ⟨x,H1,I1,r1,q1⟩=>chain_link (thn (hb pins s1 σ H1 _ I1 q1) fun u s2 ⟨y,H2,I2,r2,q2⟩ =>
  thn (ho pins s2 σ H2 x y v u _ I2 r1 r2 q2) fun d s3 ⟨z,H3,I3,r3,k,e,q3⟩=>?_)) hm
 subst e
 cases r3
 refine wpAny_truthy_bool ?_
 cases k with
 | false=>exact ite_ff ⟨.bl false,H3,I3,rfl,q3⟩
 | true=>exact ite_tt (chain_last (thn (hc pins s3 σ H3 _ I3 q3) fun w' s4 ⟨z',H4,I4,r4,q4⟩=>ho' pins s4 σ H4 y z' u w' Q I4 r2 r4 q4))
theorem pt_chain {op op':CmpOp} {r r':R2} (ho:OpR X (compareOp op) r) (ho':OpR X (compareOp op') r') (ha:PE X a ta) (hb:PE X b tb) (hc:PE X c tc)
  (hm:lastMarks [op,op'] [b,c]=false:=by with_unfolding_all rfl):PT X (.Compare a [op,op'] [b,c] pos) (tTest (tChain r r' ta tb tc)):=by
 intro pins s σ H Q I h
 refine isTrue_chain (thn (ha pins s σ H _ I h) fun v s1 ⟨x,H1,I1,r1,q1⟩=>test_link (thn (hb pins s1 σ H1 _ I1 q1) fun u s2 ⟨y,H2,I2,r2,q2⟩ =>
  thn (ho pins s2 σ H2 x y v u _ I2 r1 r2 q2) fun d s3 ⟨z,H3,I3,r3,k,e,q3⟩=>?_)) hm
 subst e
 cases r3
 refine wpAny_truthy_bool ?_
 cases k with
 | false =>
  obtain ⟨k',e',q'⟩:=q3
  cases e'
  exact ite_ff ⟨H3,I3,q'⟩
 | true =>
  refine ite_tt (test_last (thn (hc pins s3 σ H3 _ I3 q3) fun w' s4 ⟨z',H4,I4,r4,q4⟩=>thn (ho' pins s4 σ H4 y z' u w' _ I4 r2 r4 q4) fun d' s5 ⟨z2,H5,I5,r5,k2,e2,q5⟩=>?_))
  subst e2
  cases r5
  exact wpAny_truthy_bool ⟨H5,I5,q5⟩
def TruV (K:PySem.W.Frag) (x:V) (H:Hp) (k:Bool):Prop :=
 match x with
 | .non=>k=false
 | .bl b=>k=b
 | .int i=>k=(i != 0)
 | .str y=>y.length<=sizeLine/\k=((y.length:Int) != 0)
 | .byt y=>y.size<=sizeLine/\k=((y.size:Int) != 0)
 | .ref p=>(∃xs,SqL K H p xs/\k= !xs.isEmpty)\/(∃xs,SqT K H p xs/\k= !xs.isEmpty)\/∃kvs,H p=some (.dK kvs)/\k= !kvs.isEmpty
 | _=>False
theorem isEmpty_kv {κ:Type} {kvs:List (κ×V)} {vs:List (κ×Value)} (r:KV kvs vs):(!vs.isEmpty)= !kvs.isEmpty:=by
 cases r<;>rfl
theorem zHv {xs:List V} {its:List Value} (r:Vals xs its):(!its.toArray.isEmpty)= !xs.isEmpty:=by
 cases r<;>simp
theorem zHt:(sizeLine:Nat)<2^63:=by rw [sizeLine_eq];decide
theorem tru_ok:TruR X (fun x H Q=>∃k,TruV X.K x H k/\Q k H):=by
 intro pins s σ H x v Q I rx h
 obtain ⟨k,e,q⟩:=h
 have hl:=zHt
 have hs:sizeLine=16777216:=sizeLine_eq
 cases x with
 | non =>
  cases rx
  have e':k=false:=e
  subst e'
  exact truthy_none ⟨H,I,q⟩
 | bl b =>
  cases rx
  have e':k=b:=e
  subst e'
  exact wpAny_truthy_bool ⟨H,I,q⟩
 | int i =>
  obtain ⟨t,rfl⟩:=rx
  have e':k=(i != 0):=e
  subst e'
  exact PySem.P.truthy_int ⟨H,I,q⟩
 | str y =>
  obtain ⟨t,rfl⟩:=rx
  obtain ⟨hy,e'⟩:y.length<=sizeLine/\k=((y.length:Int) != 0):=e
  subst e'
  exact PySem.P.truthy_str (by omega) ⟨H,I.tok _,q⟩
 | byt y =>
  obtain ⟨t,rfl⟩:=rx
  obtain ⟨hy,e'⟩:y.size<=sizeLine/\k=((y.size:Int) != 0):=e
  subst e'
  exact PySem.W.truthy_bytes (by omega) ⟨H,I.tok _,q⟩
 | ref p =>
  cases rx
  have e':(∃xs,SqL X.K H p xs/\k= !xs.isEmpty)\/(∃xs,SqT X.K H p xs/\k= !xs.isEmpty)\/∃kvs,H p=some (.dK kvs)/\k= !kvs.isEmpty:=e
  rcases e' with ⟨xs,hx,e'⟩| ⟨xs,hx,e'⟩| ⟨kvs,hx,e'⟩
  ·subst e'
   obtain ⟨its,r,pl,hz⟩:=I.list hx
   have hlen:=r.length
   exact wpAny_truthy_list pl.isList (by simp only [List.size_toArray];omega) ⟨H,I.tok _,by rw [zHv r];exact q⟩
  ·subst e'
   obtain ⟨its,r,pl,hz⟩:=I.tuple hx
   have hlen:=r.length
   exact truthy_tuple pl (by simp only [List.size_toArray];omega) ⟨H,I.tok _,by rw [zHv r];exact q⟩
  ·subst e'
   obtain ⟨hz,hS,vs,r,m⟩:kvs.length<=sizeLine/\(p==sysModules)=false/\∃vs,KV kvs vs/\s.heap.DictOf (zA2 X.prog X.w) p vs:=I.hok p _ hx
   have hlen:kvs.length=vs.length:=Paired.length r
   exact wpAny_truthy_dict hS m (by omega) ⟨H,I.tok _,by rw [isEmpty_kv r];exact q⟩
 | _=>exact (show False from e).elim
theorem zIa (ha:PE X a ta) (he:∀whole,isTrue a X.env whole=(do let v<-whole;standAt a.pos;holding [v] (truthy v))) :
  PT X a (fun σ H Q=>ta σ H fun x H'=>∃k,TruV X.K x H' k/\Q k H'):=by
 intro pins s σ H Q I h
 exact isTrue_plain (thn (ha pins s σ H _ I h) fun v s1 ⟨x,H1,I1,r1,q1⟩=>tru_ok pins s1 σ H1 x v Q I1 r1 q1) (he _)
theorem op_add_str:OpR X (binaryOp .Add) (fun x y H Q=>∃i j,x= .str i/\y= .str j/\i.length+j.length<=sizeLine/\Q (.str (i++j)) H):=by
 intro pins s σ H x y v u Q I rx ry h
 obtain ⟨i,j,rfl,rfl,hz,q⟩:=h
 obtain ⟨t,rfl⟩:=rx
 obtain ⟨t',rfl⟩:=ry
 exact add_str (fun t' tk=>⟨.str (i++j),H,I.tok _,⟨_,rfl⟩,q⟩) hz
theorem vals1 {x:V} {us:List Value} (r:Vals [x] us):∃u,us=[u]/\RelV x u:=by
 cases r with
 | cons r1 r2=>cases r2;exact ⟨_,rfl,r1⟩
theorem vals2 {x y:V} {us:List Value} (r:Vals [x,y] us):∃u w',us=[u,w']/\RelV x u/\RelV y w':=by
 cases r with
 | cons r1 r2 =>
  cases r2 with
  | cons r3 r4=>cases r4;exact ⟨_,_,rfl,r1,r3⟩
theorem zG5 (hc:X.calm=true):zDe X (.builtin "max") (fun xs H Q=>∃i j,xs=[.int i,.int j]/\Q (.int (if j>i then j else i)) H):=by
 intro pins s σ H xs us Q I r h
 obtain ⟨i,j,rfl,q⟩:=h
 obtain ⟨u,w',rfl,⟨t,rfl⟩,⟨t',rfl⟩⟩:=vals2 r
 refine max_two_ints (I.ok.hd hc) fun h' tk k=>⟨_,H,I.kept k,?_,q⟩
 by_cases hj:j>i
 ·rw [if_pos hj,if_pos hj];exact ⟨_,rfl⟩
 ·rw [if_neg hj,if_neg hj];exact ⟨_,rfl⟩
theorem zG4 (hc:X.calm=true):zDe X (.builtin "min") (fun xs H Q=>∃i j,xs=[.int i,.int j]/\Q (.int (if j<i then j else i)) H):=by
 intro pins s σ H xs us Q I r h
 obtain ⟨i,j,rfl,q⟩:=h
 obtain ⟨u,w',rfl,⟨t,rfl⟩,⟨t',rfl⟩⟩:=vals2 r
 refine min_two_ints (I.ok.hd hc) fun h' tk k=>⟨_,H,I.kept k,?_,q⟩
 by_cases hj:j<i
 ·rw [if_pos hj,if_pos hj];exact ⟨_,rfl⟩
 ·rw [if_neg hj,if_neg hj];exact ⟨_,rfl⟩
theorem zDs:zDe X (.type "int") (fun xs H Q=>(∃i,xs=[.int i]/\Q (.int i) H)\/∃k,xs=[.bl k]/\Q (.int (if k then 1 else 0)) H):=by
 intro pins s σ H xs us Q I r h
 rcases h with ⟨i,rfl,q⟩| ⟨k,rfl,q⟩
 ·obtain ⟨u,rfl,t,rfl⟩:=vals1 r
  exact call_int_int ⟨.int i,H,I,⟨_,rfl⟩,q⟩
 ·obtain ⟨u,rfl,r1⟩:=vals1 r
  cases r1
  exact call_int_bool ⟨.int (if k then 1 else 0),H,I.tok _,⟨_,rfl⟩,q⟩
end
structure ObjM (h:Heap) (x dx C:Addr) (mA:Str->Option Value):Prop where
 obj:h.get? x=some (PySem.W.instObj C dx)
 ns:h.Ns1 dx mA
 ne:dx≠x
theorem lookIn_ns {h:Heap} {dx:Addr} {mA:Str->Option Value} (n:h.Ns1 dx mA):∃od,h.get? dx=some od/\∀name,PySem.W.lookIn name od=some (mA name):=by
 obtain ⟨o,es,ep,ho,hd,hk,_,hm⟩:=n
 refine ⟨o,ho,fun name=>?_⟩
 have e:=hm name
 unfold nsFind findBy at e
 rw [<-Array.find?_toList] at e
 unfold PySem.W.lookIn
 rw [hd]
 dsimp only
 split
 ·rename_i y q
  rw [q] at e
  exact congrArg some e
 ·rename_i q
  rw [q] at e
  have a:es.toList.any (·.refKey)=false:=by
   rw [List.any_eq_false]
   intro y hy
   obtain ⟨z,t,hkey⟩:=hk y (Array.mem_toList_iff.mp hy)
   simp [DictEntry.refKey,hkey]
  have a':¬es.toList.any (·.refKey)=true:=by rw [a];exact Bool.false_ne_true
  rw [if_neg a']
  exact congrArg some e
theorem ObjM.look {h:Heap} {x dx C:Addr} {mA:Str->Option Value} (I:ObjM h x dx C mA):∃od,PySem.W.InstAt h x (PySem.W.instObj C dx) C (some od)/\∀name,PySem.W.lookIn name od=some (mA name) :=
 let ⟨od,ho,hl⟩:=lookIn_ns I.ns
 ⟨od,⟨I.obj,rfl,rfl,ho⟩,hl⟩
section
variable {prog:Program} {w:World} {A:Around} {E:Value->Shared->Prop} {s:Shared} {K:PySem.W.Frag} {x dx C f:Addr} {mA:Str->Option Value} {name:Str} {v:Value}
theorem get_map {expr:Bool} {Q:Value->Shared->Prop} (X:K.In s.heap) (I:ObjM s.heap x dx C mA) (hg:PySem.W.plainGet K C name=true) (hh:PySem.W.hasDictIn K C=true)
  (ha:PySem.W.findIn K (.ref C) name=some none) (hv:mA name=some v) (hv':PySem.W.handedIn v=true) (h:Q v {s with toks:=s.toks+1}) :
  wpAny (model prog w) A (getAttr (.ref x) name expr) Q E s:=by
 obtain ⟨od,J,hl⟩:=I.look
 exact PySem.W.get_value X J (PySem.W.plainGet_of hg).1 (PySem.W.findObj_own hh ha rfl (by rw [hl,hv])) hv' h
theorem get_meth {pl:Sem Bool} {Q:Value×List Value->Shared->Prop} (X:K.In s.heap) (I:ObjM s.heap x dx C mA) (hg:PySem.W.plainGet K C name=true)
  (hf:PySem.W.findIn K (.ref C) name=some (some (.ref f))) (ht:PySem.W.isFn K (.ref f)=true) (hv:mA name=none) (h:Q (.ref f,[.ref x]) s) :
  wpAny (model prog w) A (getMethod (.ref x) name pl) Q E s:=by
 obtain ⟨od,J,hl⟩:=I.look
 exact PySem.W.method_fn X J (PySem.W.plainGet_of hg).1 (PySem.W.plainGet_of hg).2 hf (beq_iff_eq.mp ht) (by show (PySem.W.lookIn name od).map (·.isSome)=some false;rw [hl,hv];rfl) h
theorem set_map {ns:List Str} {Q:Unit->Shared->Prop} (X:K.In s.heap) (I:ObjM s.heap x dx C mA)
  (hs:PySem.W.findIn K (.ref C) "__setattr__" = some (some (.builtin "object.__setattr__"))) (hp:PySem.W.plainOver K C=true) (ht:PySem.W.takerIn K C name=some none) (hh:PySem.W.hasDictIn K C=true)
  (hw:PySem.Within mA ns) (hsz:ns.length<=sizeLine)
  (h:∀h',ObjM h' x dx C (fun y=>if y=name then some v else mA y)->Heap.SameBut dx s.heap h'->Q () {s with heap:=h',toks:=s.toks+2}) :
  wpAny (model prog w) A (setAttr (.ref x) name v) Q E s:=by
 obtain ⟨od,J,hl⟩:=I.look
 refine PySem.W.set_plain X J hs (PySem.W.osa_open (s:={s with toks:=s.toks+1}) (r:=none) X J hp ht fun b=>?_)
 obtain ⟨cd,hc,hd'⟩:=PySem.W.any_some hh
 have hx:s.heap.get? x=some ⟨.ref C,some dx,.plain,#[]⟩:=I.obj
 refine wpAny_bind (wpAny_pure (wpAny_bind (wpAny_bind (wpAny_loadPart hx (wpAny_bind (PySem.W.Looks.here (s:={s with toks:=s.toks+1}) (PySem.W.looks_clsIn X hc) ?_))))))
 rw [hd']
 refine wpAny_pure (a:=some dx) (wpAny_bind (wpAny_pure (wpAny_bind ?_)))
 refine wpAny_nsSet1 (s:={s with toks:=s.toks+1}) I.ns fun h' hn2 hs2=>?_
 obtain ⟨oD,esD,epD,hoD,hdD,hcD⟩:=hn2.count (PySem.Within.cons name v hw)
 refine wpAny_bind (wpAny_lookBehind hoD (by rw [hdD];exact pastItsLine_dict (Nat.le_trans hcD (by rw [List.length_cons];omega))) ?_)
 exact wpAny_pure (h _ ⟨(hs2.2 _ (Ne.symm I.ne)).trans I.obj,hn2,I.ne⟩ hs2)
theorem make_map {R:Result->Shared->Prop} {vs:List Value} {kw:List (Str×Value)} (X:K.In s.heap) (hm:PySem.W.makesIn K C=true)
  (hi:PySem.W.findIn K (.ref C) "__init__" = some (some (.ref f))) (hf:PySem.W.typeIn K (.ref f)=some (.type "function"))
  (h:codeAny (model prog w) (A.under (.builtin "type.__call__" ⟨.ref C::vs,kw⟩)) (.call (.ref f) ⟨.ref (s.heap.objs.size+1)::vs,kw⟩) (PySem.W.InitBack (s.heap.objs.size+1) R)
   {s with heap:=(s.heap.push PySem.W.emptyDict).push (PySem.W.instObj C s.heap.objs.size)}) :
  codeAny (model prog w) A (.call (.ref C) ⟨vs,kw⟩) R s:=by
 obtain ⟨hh,g,d,t,os⟩:=s
 exact PySem.W.make_core (PySem.W.makes_of X hm) (PySem.W.looks_findIn X hi) (fun self=>PySem.W.bind_fn X self hf) (.inl rfl) h
end
def putF (f:Str) (v:V):List (Str×V)->List (Str×V)
 | []=>[(f,v)]
 | (g,x)::r=>if g=f then (g,v)::r else (g,x)::putF f v r
theorem zAu (f g:Str) (v:V):∀fs:List (Str×V),(putF f v fs).lookup g=if g=f then some v else fs.lookup g
 | []=>by
  show List.lookup g [(f,v)]=_
  by_cases h:g=f
  ·have hb:(g==f)=true:=beq_iff_eq.mpr h
   simp only [List.lookup,hb,if_pos h]
  ·have hb:(g==f)=false:=beq_eq_false_iff_ne.mpr h
   simp only [List.lookup,hb,if_neg h]
 | (k,x)::r=>by
  have ih:=zAu f g v r
  rw [show putF f v ((k,x)::r)=(if k=f then (k,v)::r else (k,x)::putF f v r) from rfl]
  by_cases hk:k=f
  ·rw [if_pos hk]
   by_cases h:g=k
   ·have hb:(g==k)=true:=beq_iff_eq.mpr h
    simp only [List.lookup,hb,if_pos (h.trans hk)]
   ·have hb:(g==k)=false:=beq_eq_false_iff_ne.mpr h
    simp only [List.lookup,hb,if_neg (fun e:g=f=>h (e.trans hk.symm))]
  ·rw [if_neg hk]
   by_cases h:g=k
   ·have hb:(g==k)=true:=beq_iff_eq.mpr h
    simp only [List.lookup,hb,if_neg (fun e:g=f=>hk (h.symm.trans e))]
   ·have hb:(g==k)=false:=beq_eq_false_iff_ne.mpr h
    simp only [List.lookup,hb]
    exact ih
theorem zGw (f:Str) (v:V):∀fs:List (Str×V),f∈(putF f v fs).map (·.1)/\∀g,g∈fs.map (·.1)->g∈(putF f v fs).map (·.1)
 | []=>⟨by simp [putF],fun g h=>by simp at h⟩
 | (k,x)::r=>by
  obtain ⟨i1,i2⟩:=zGw f v r
  rw [show putF f v ((k,x)::r)=(if k=f then (k,v)::r else (k,x)::putF f v r) from rfl]
  by_cases hk:k=f
  ·rw [if_pos hk]
   subst hk
   exact ⟨by simp,fun g h=>by simpa using h⟩
  ·rw [if_neg hk]
   refine ⟨?_,fun g h=>?_⟩
   ·rw [List.map_cons]
    exact List.mem_cons_of_mem _ i1
   ·rw [List.map_cons] at h ⊢
    rcases List.mem_cons.mp h with e| e
    ·exact List.mem_cons.mpr (.inl e)
    ·exact List.mem_cons_of_mem _ (i2 g e)
theorem zGv (f:Str) (v:V):∀fs:List (Str×V),(putF f v fs).length<=fs.length+1
 | []=>by simp [putF]
 | (k,x)::r=>by
  have ih:=zGv f v r
  rw [show putF f v ((k,x)::r)=(if k=f then (k,v)::r else (k,x)::putF f v r) from rfl]
  by_cases hk:k=f
  ·rw [if_pos hk,List.length_cons,List.length_cons];omega
  ·rw [if_neg hk,List.length_cons,List.length_cons];omega
theorem RelO.some_of {v:V} {o:Option Value} (r:RelO (some v) o):∃u,o=some u/\RelV v u:=by
 cases o with
 | none=>exact (show False from r).elim
 | some u=>exact ⟨u,rfl,r⟩
theorem RelO.none_of {o:Option Value} (r:RelO none o):o=none:=by
 cases o with
 | none=>rfl
 | some u=>exact (show False from r).elim
theorem handed_of {v:V} {u:Value} (r:RelV v u):PySem.W.handedIn u=true:=by
 cases v with
 | non=>cases (show u=Value.none from r);rfl
 | bl b=>cases (show u=Value.bool b from r);rfl
 | int i=>obtain ⟨t,e⟩:=(show∃t,u=Value.int i t from r);cases e;rfl
 | str x=>obtain ⟨t,e⟩:=(show∃t,u=Value.str x t from r);cases e;rfl
 | byt b=>obtain ⟨t,e⟩:=(show∃t,u=Value.bytes b t from r);cases e;rfl
 | flt b=>obtain ⟨t,e⟩:=(show∃t,u=Value.float b t from r);cases e;rfl
 | ref a=>cases (show u=Value.ref a from r);rfl
 | ty n=>cases (show u=Value.type n from r);rfl
section
variable {P:Program} {w:World} {H H':Hp} {h h':Heap} {a C dx:Addr} {fs fs':List (Str×V)}
theorem zFe (hok:HOk P w H h) (e:H a=some (.ins C dx fs)):∃mA,ObjM h a dx C mA/\(∀f,RelO (fs.lookup f) (mA f))/\PySem.Within mA (fs.map (·.1))/\fs.length<=1000/\H dx=some (.own a):=by
 obtain ⟨d,z,ne,ob,mA,n,r,q⟩:=(show zA8 P w H h a (.ins C dx fs) from hok a _ e)
 exact ⟨mA,⟨ob,n,ne⟩,r,q,z,d⟩
end
structure Cls (K:PySem.W.Frag) (C:Addr):Prop where
 pg:PySem.W.plainGet K C Str.empty=true
 hd:PySem.W.hasDictIn K C=true
 po:PySem.W.plainOver K C=true
 sa:PySem.W.findIn K (.ref C) "__setattr__" = some (some (.builtin "object.__setattr__"))
theorem Cls.get {K:PySem.W.Frag} {C:Addr} (c:Cls K C) (f:Str):PySem.W.plainGet K C f=true:=c.pg
def zE4 (K:PySem.W.Frag) (C:Addr) (f:Str):Prop:=PySem.W.findIn K (.ref C) f=some none
theorem zE4.taker {K:PySem.W.Frag} {C:Addr} {f:Str} (n:zE4 K C f):PySem.W.takerIn K C f=some none:=by
 unfold PySem.W.takerIn
 rw [show PySem.W.findIn K (.ref C) f=some none from n]
 rfl
structure Meth (K:PySem.W.Frag) (C:Addr) (m:Str) (f:Addr):Prop where
 at_:PySem.W.findIn K (.ref C) m=some (some (.ref f))
 fn:PySem.W.isFn K (.ref f)=true
 kp:PySem.W.keepIn K (.ref f)=true
section
variable {X:Cx} {pins:List (Addr×Obj)} {σ:St} {H:Hp} {s:Shared} {a C dx:Addr} {fs:List (Str×V)} {f:Str} {v:V} {A:Around} {E:Value->Shared->Prop}
theorem getattr_ok {b:Bool} {Q:Value->Shared->Prop} (I:Inv X pins σ H s) (e:H a=some (.ins C dx fs)) (c:Cls X.K C) (n:zE4 X.K C f) (l:fs.lookup f=some v)
  (h:∀u s',Inv X pins σ H s'->RelV v u->Q u s'):wpAny (model X.prog X.w) A (getAttr (.ref a) f b) Q E s:=by
 obtain ⟨mA,O,r,_,_,_⟩:=zFe I.hok e
 obtain ⟨u,hu,ru⟩:=RelO.some_of (v:=v) (o:=mA f) (by rw [<-l];exact r f)
 exact get_map I.kIn O (c.get f) c.hd n hu (handed_of ru) (h u _ (I.tok _) ru)
theorem zHw {m:Str} {g:Addr} {pl:Sem Bool} {Q:Value×List Value->Shared->Prop} (I:Inv X pins σ H s) (e:H a=some (.ins C dx fs)) (c:Cls X.K C) (k:Meth X.K C m g) (l:fs.lookup m=none)
  (h:Q (.ref g,[.ref a]) s):wpAny (model X.prog X.w) A (getMethod (.ref a) m pl) Q E s:=by
 obtain ⟨mA,O,r,_,_,_⟩:=zFe I.hok e
 have hn:mA m=none:=RelO.none_of (by rw [<-l];exact r m)
 exact get_meth I.kIn O (c.get m) k.at_ k.fn hn h
theorem setattr_ok {y:V} {u:Value} {Q:Unit->Shared->Prop} (I:Inv X pins σ H s) (e:H a=some (.ins C dx fs)) (c:Cls X.K C) (n:zE4 X.K C f) (hl:fs.length<1000) (ry:RelV y u)
  (h:∀s',Inv X pins σ (upd H a (.ins C dx (putF f y fs))) s'->Q () s'):wpAny (model X.prog X.w) A (setAttr (.ref a) f u) Q E s:=by
 obtain ⟨mA,O,r,wi,_,ho⟩:=zFe I.hok e
 have hz:(fs.map (·.1)).length<=sizeLine:=by rw [List.length_map,sizeLine_eq];omega
 refine set_map I.kIn O c.sa c.po n.taker c.hd wi hz fun h' O' sb=>h _ ?_
 have hd:∃o,h'.get? dx=some o:=let ⟨o,_,_,e',_⟩:=O'.ns;⟨o,e'⟩
 refine I.write (x:=a) (e:=dx) (by rw [e];exact True.intro) (.inr ho) (fun b q hb z=>(sb.2 b hb).trans z) hd ?_
 refine ⟨by rw [upd_ne O.ne];exact ho,?_,O.ne,O'.obj,_,O'.ns,fun g=>?_,fun g hg=>?_⟩
 ·have:=zGv f y fs;omega
 ·show RelO ((putF f y fs).lookup g) (if g=f then some u else mA g)
  rw [zAu]
  by_cases q:g=f
  ·rw [if_pos q,if_pos q];exact ry
  ·rw [if_neg q,if_neg q];exact r g
 ·by_cases q:g=f
  ·rw [q];exact (zGw f y fs).1
  ·refine (zGw f y fs).2 g (wi g fun z=>hg ?_)
   show (if g=f then some u else mA g)=none
   rw [if_neg q];exact z
theorem Inv.made (I:Inv X pins σ H s):Inv X pins σ (upd (upd H s.heap.objs.size (.own (s.heap.objs.size+1))) (s.heap.objs.size+1) (.ins C s.heap.objs.size []))
  {s with heap:=(s.heap.push PySem.W.emptyDict).push (PySem.W.instObj C s.heap.objs.size)}:=by
 have e1:(s.heap.push PySem.W.emptyDict).get? s.heap.objs.size=some PySem.W.emptyDict:=Heap.get?_push_size s.heap rfl
 have e2:((s.heap.push PySem.W.emptyDict).push (PySem.W.instObj C s.heap.objs.size)).get? (s.heap.objs.size+1)=some (PySem.W.instObj C s.heap.objs.size):=by
  have:=Heap.get?_push_size (s.heap.push PySem.W.emptyDict) (o:=PySem.W.instObj C s.heap.objs.size) rfl
  rwa [Heap.size_push] at this
 have e3:(s.heap.push PySem.W.emptyDict).Ns s.heap.objs.size (fun _=>none):=⟨PySem.W.emptyDict,#[],_,e1,rfl,(fun e he=>absurd he (by simp)),fun _=>rfl⟩
 have I1:=I.laid (a:=s.heap.objs.size) (o:=.own (s.heap.objs.size+1)) (h':=s.heap.push PySem.W.emptyDict) (t':=s.toks) (fun b u q=>Heap.get?_push_of_some _ q) (Nat.le_refl _) ⟨_,e1⟩
 refine I1.laid (a:=s.heap.objs.size+1) (o:=.ins C s.heap.objs.size []) (t':=s.toks) (fun b u q=>Heap.get?_push_of_some _ q) (Nat.le_of_eq (Heap.size_push _ _)) ?_
 have ne:s.heap.objs.size≠s.heap.objs.size+1:=Nat.ne_of_lt (Nat.lt_succ_self _)
 refine ⟨by rw [upd_ne ne,upd_same],Nat.zero_le _,ne,e2,fun _=>none,(Heap.Ns1.of_empty e3).at fun o q=>Heap.get?_push_of_some _ q,fun _=>True.intro,fun y hy=>absurd rfl hy⟩
theorem attr_of {prog:Program} {w:World} {env:Env} {e:Expr} {f:Str} {pos:Pos} {s:Shared} {Q:Value->Shared->Prop} (hb:attributeBase e f env (eval e env)=eval e env)
  (h:wpAny (model prog w) A (eval e env) (fun o s₁=>wpAny (model prog w) A (getAttr o f true) Q E s₁) E s):wpAny (model prog w) A (eval (.Attribute e f pos) env) Q E s :=
 Attribute_any_ h (by rw [arm_eval_Attribute,hb])
end
def tFld (K:PySem.W.Frag) (ta:TE) (f:Str):TE:=fun σ H Q=>ta σ H fun x H1=>∃a C dx fs v,x= .ref a/\H1 a=some (.ins C dx fs)/\Cls K C/\zE4 K C f/\fs.lookup f=some v/\Q v H1
def sFld (K:PySem.W.Frag) (ta tv:TE) (f:Str):TS:=fun D σ H=>tv σ H fun y H1=>ta σ H1 fun x H2=>∃a C dx fs,x= .ref a/\H2 a=some (.ins C dx fs)/\Cls K C/\zE4 K C f/\fs.length<1000 /\
 D.nx σ (upd H2 a (.ins C dx (putF f y fs)))
section
variable {X:Cx} {o e value:Expr} {f:Str} {pos pos' tpos:Pos} {ta tv:TE}
theorem zGn (he:PE X e ta) (hb:attributeBase e f X.env (eval e X.env)=eval e X.env):PE X (.Attribute e f pos) (tFld X.K ta f):=by
 intro pins s σ H Q I h
 refine attr_of hb (thn (he pins s σ H _ I h) fun u s1 ⟨x,H1,I1,rx,a,C,dx,fs,v,ex,ea,c,n,l,q⟩=>?_)
 subst ex
 obtain rfl:u=Value.ref a:=rx
 exact getattr_ok I1 ea c n l fun u' s2 I2 ru=>⟨v,H1,I2,ru,q⟩
theorem ps_fld (ha:PE X o ta) (hv:PE X value tv) (hs:swapsWith value (some (.Attribute o f pos')) pos.line X.env=pure false):PS X (.Assign [.Attribute o f pos'] value pos) (sFld X.K ta tv f):=by
 intro pins s σ H D I h
 refine plainObj_wpAny_Assign_Attribute (thn (hv pins s σ H _ I h) fun u s1 ⟨y,H1,I1,ry,q⟩=>thn (ha pins s1 σ H1 _ I1 q) fun ov s2 ⟨x,H2,I2,rx,a,C,dx,fs,ex,ea,c,n,l,q2⟩=>?_) hs
 subst ex
 obtain rfl:ov=Value.ref a:=rx
 exact setattr_ok I2 ea c n l ry fun s3 I3=>⟨σ,_,I3,q2⟩
end
section
variable {X:Cx} {pins:List (Addr×Obj)} {σ:St} {H:Hp} {s:Shared} {A:Around} {E:Value->Shared->Prop} {Q:Value->Shared->Prop} {c:Value} {b:Bool}
inductive TyOf (K:PySem.W.Frag) (H:Hp):V->Value->Prop where
 | non:TyOf K H .non (.type "NoneType")
 | bl (x:Bool):TyOf K H (.bl x) (.type "bool")
 | int (i:Int):TyOf K H (.int i) (.type "int")
 | str (x:Str):TyOf K H (.str x) (.type "str")
 | flt (x:UInt64):TyOf K H (.flt x) (.type "float")
 | lst {a:Addr} {xs:List V} (e:H a=some (.lst xs)):TyOf K H (.ref a) (.type "list")
 | frz {a:Addr} {o:Obj} {xs:List V} (e:H a=some (.frz o (.lst xs))):TyOf K H (.ref a) (.type "list")
 | tup {a:Addr} {xs:List V} (e:H a=some (.tup xs)):TyOf K H (.ref a) (.type "tuple")
 | dK {a:Addr} {kvs:List (Key×V)} (e:H a=some (.dK kvs)):TyOf K H (.ref a) (.type "dict")
 | dT {a:Addr} {kvs:List (List Key×V)} (e:H a=some (.dT kvs)):TyOf K H (.ref a) (.type "dict")
 | ins {a C dx:Addr} {fs:List (Str×V)} (e:H a=some (.ins C dx fs)) (cl:Cls K C) (ha:PySem.W.findIn K (.ref C) "__class__" = some (some (.builtin "object.__class__")))
   (hn:PySem.W.specialIn K (.builtin "object.__class__") "__get__" = some (some (.builtin "getset_descriptor.__get__"))) (htk:PySem.W.takesIn K (.builtin "object.__class__")=some true)
   (hm:PySem.W.mroIn K C (.type "object")=some true):TyOf K H (.ref a) (.ref C)
theorem isinst_ok {x:V} {u t:Value} (I:Inv X pins σ H s) (rx:RelV x u) (ty:TyOf X.K H x t) (e:PySem.W.kitOne X.K t c=some b) (h:∀tk,Q (.bool b) {s with toks:=tk}) :
  wpAny (model X.prog X.w) A (call (.builtin "isinstance") [u,c]) Q E s:=by
 cases ty with
 | non=>cases (show u=Value.none from rx);exact PySem.W.kia_one PySem.W.kitx_none I.kIn True.intro e (fun z=>nomatch z) h
 | bl y=>cases (show u=Value.bool y from rx);exact PySem.W.kia_one PySem.W.kitx_bool I.kIn True.intro e (fun z=>nomatch z) h
 | int i=>obtain ⟨t,q⟩:=(show∃t,u=Value.int i t from rx);cases q;exact PySem.W.kia_one PySem.W.kitx_int I.kIn True.intro e (fun z=>nomatch z) h
 | str y=>obtain ⟨t,q⟩:=(show∃t,u=Value.str y t from rx);cases q;exact PySem.W.kia_one PySem.W.kitx_str I.kIn True.intro e (fun z=>nomatch z) h
 | flt y=>obtain ⟨t,q⟩:=(show∃t,u=Value.float y t from rx);cases q;exact PySem.W.kia_one PySem.W.kitx_float I.kIn True.intro e (fun z=>nomatch z) h
 | @lst a xs ea =>
  cases (show u=Value.ref a from rx)
  obtain ⟨_,_,n,_,h1⟩:=(show zA8 X.prog X.w H s.heap a (.lst xs) from I.hok a _ ea)
  exact PySem.W.kia_one PySem.W.kitx_list I.kIn ⟨_,h1,rfl⟩ e (fun z=>nomatch z) h
 | @frz a ob xs ea =>
  cases (show u=Value.ref a from rx)
  obtain ⟨_,_,_,n,_,h1⟩:=(show zA8 X.prog X.w H s.heap a (.frz ob (.lst xs)) from I.hok a _ ea)
  exact PySem.W.kia_one PySem.W.kitx_list I.kIn ⟨_,h1,rfl⟩ e (fun z=>nomatch z) h
 | @tup a xs ea =>
  cases (show u=Value.ref a from rx)
  obtain ⟨_,_,_,p⟩:=(show zA8 X.prog X.w H s.heap a (.tup xs) from I.hok a _ ea)
  obtain ⟨o,h1,h2,_⟩:=p
  exact PySem.W.kia_one PySem.W.kitx_tuple I.kIn ⟨o,h1,h2⟩ e (fun z=>nomatch z) h
 | @dK a kvs ea =>
  cases (show u=Value.ref a from rx)
  obtain ⟨_,_,vs,_,p⟩:=(show zA8 X.prog X.w H s.heap a (.dK kvs) from I.hok a _ ea)
  obtain ⟨o,es,ep,h1,h2,_⟩:=p
  exact PySem.W.kia_one PySem.W.kitx_dict I.kIn ⟨o,h1,h2.1⟩ e (fun z=>nomatch z) h
 | @dT a kvs ea =>
  cases (show u=Value.ref a from rx)
  obtain ⟨_,_,xs,_,o,es,ep,h1,h2,_⟩:=(show zA8 X.prog X.w H s.heap a (.dT kvs) from I.hok a _ ea)
  exact PySem.W.kia_one PySem.W.kitx_dict I.kIn ⟨o,h1,h2.1⟩ e (fun z=>nomatch z) h
 | @ins a C dx fs ea cl ha hn htk hm =>
  cases (show u=Value.ref a from rx)
  obtain ⟨mA,O,_⟩:=zFe I.hok ea
  obtain ⟨od,J,_⟩:=O.look
  exact PySem.W.kia_one (PySem.W.kitx_own (cl.get _) cl.hd ha hn htk hm) I.kIn J e (fun z=>nomatch z) h
end
structure Room (k:Nat) (A:Around):Prop where
 hd:A.handled=none
 dp:A.depth+3*k+5<recursionLimit
 un:A.units+16*k+200<cLine
 gd:A.guards=some []
theorem Room.mono {j k:Nat} {A:Around} (r:Room k A) (h:j<=k):Room j A:=⟨r.hd,by have:=r.dp;omega,by have:=r.un;omega,r.gd⟩
theorem Room.deeper {k:Nat} {A:Around} (r:Room (k+1) A) (env:Env):Room k (A.deeper env) :=
 ⟨r.hd,by have:=r.dp;show A.depth+1+3*k+5<_;omega,by have:=r.un;show A.units+3+16*k+200<_;omega,r.gd⟩
theorem make_depth {A:Around} {C:Addr} {us:List Value} {kw:List (Str×Value)}:(A.under (.builtin "type.__call__" ⟨.ref C::us,kw⟩)).depth=A.depth+1:=by
 first| rfl| simp [Around.under,Code.weight,Code.isCreation,Code.isGuard,Code.isCaller,Code.frames,Code.isFrame,guardIds]
theorem make_units {A:Around} {C:Addr} {us:List Value} {kw:List (Str×Value)}:(A.under (.builtin "type.__call__" ⟨.ref C::us,kw⟩)).units=A.units+1:=by
 first| rfl| simp [Around.under,Code.cUnits,Code.frames,Code.isFrame]
theorem Room.make {k:Nat} {A:Around} (r:Room (k+1) A) (C:Addr) (us:List Value) (kw:List (Str×Value)):Room k (A.under (.builtin "type.__call__" ⟨.ref C::us,kw⟩)) :=
 ⟨r.hd,by have:=r.dp;rw [make_depth];omega,by have:=r.un;rw [make_units];omega,(by unfold Around.under;dsimp only;rw [r.gd];rfl)⟩
theorem Room.depth {k:Nat} {A:Around} (r:Room k A):A.depth<recursionLimit:=by have:=r.dp;omega
theorem Room.units {k:Nat} {A:Around} (r:Room k A):A.units+64<cLine:=by have:=r.un;omega
def tNil:TA:=fun _ H Q=>Q [] H
def tCons (ta:TE) (tr:TA):TA:=fun σ H Q=>ta σ H fun x H1=>tr σ H1 fun xs H2=>Q (x::xs) H2
section
variable {X:Cx} {e:Expr} {es:List Expr} {te:TE} {t:TA} {pos:Pos}
theorem zAc:PA X [] tNil:=fun _ _ _ _ H Q I h=>Calls.spliced_nil ⟨[],H,I,.nil,h⟩
theorem zAa (ha:PE X e te) (hr:PA X es t) (hs:starEach (e::es) X.env=(false,eval e X.env)::starEach es X.env:=by rfl):PA X (e::es) (tCons te t):=by
 intro pos pins s σ H Q I h
 rw [hs]
 show wpAny _ _ (spliced ((false,eval e X.env)::backTo pos (starEach es X.env))) _ _ s
 refine Calls.spliced_cons (thn (ha pins s σ H _ I h) fun u s1 ⟨x,H1,I1,r1,q1⟩=>?_)
 exact thn (hr pos pins s1 σ H1 _ I1 q1) fun us s2 ⟨xs,H2,I2,r2,q2⟩=>⟨x::xs,H2,I2,.cons r1 r2,q2⟩
def tTup (t:TA):TE:=fun σ H Q=>t σ H fun xs H1=>xs.length<=sizeLine/\∀p,H1 p=none->Q (.ref p) (upd H1 p (.tup xs))
def tLst (t:TA):TE:=fun σ H Q=>t σ H fun xs H1=>xs.length<=sizeLine/\∀p,H1 p=none->Q (.ref p) (upd H1 p (.lst xs))
theorem zDl {x1} (h:PA X es t):PE X (.Tuple es x1 pos) (tTup t):=by
 intro pins s σ H Q I hq
 refine wpAny_Tuple_spliced (thn (h pos pins s σ H _ I hq) fun us s1 ⟨xs,H1,I1,r,z,q⟩=>⟨by rw [<-r.length];exact z,?_⟩)
 have hf:H1 s1.heap.objs.size=none:=I1.hok.fresh (Nat.le_refl _)
 refine ⟨.ref s1.heap.objs.size,upd H1 s1.heap.objs.size (.tup xs),I1.laid (t':=s1.toks) (fun b u e=>Heap.get?_push_of_some _ e) (Nat.le_refl _) ?_,rfl,q _ hf⟩
 exact ⟨z,us,r,⟨_,Heap.get?_push_size _ rfl,rfl,_,rfl⟩⟩
theorem zA0 (h:PA X es t):PE X (.List es pos) (tLst t):=by
 intro pins s σ H Q I hq
 refine wpAny_List_spliced (thn (h pos pins s σ H _ I hq) fun us s1 ⟨xs,H1,I1,r,z,q⟩=>⟨by rw [<-r.length];exact z,?_⟩)
 have hf:H1 s1.heap.objs.size=none:=I1.hok.fresh (Nat.le_refl _)
 refine ⟨.ref s1.heap.objs.size,upd H1 s1.heap.objs.size (.lst xs),I1.laid (t':=s1.toks) (fun b u e=>Heap.get?_push_of_some _ e) (Nat.le_refl _) ?_,rfl,q _ hf⟩
 exact ⟨z,us,0,r,Heap.get?_push_size _ rfl⟩
end
abbrev Sp:=List V->Hp->VK->XK->Prop
abbrev CXT:=List Env->Hp->Shared->XK->Value->Shared->Prop
structure Env0 (P:Program) (w:World) (K:PySem.W.Frag) (mg:Str->Option Value) (base:Heap) (A:Around) (outer:List Env) (s:Shared) (H:Hp):Prop where
 frames:A.frames=some outer
 mod:Mod K mg base
 bs:∀b o,base.get? b=some o->s.heap.get? b=some o/\H b=none
 bsz:base.objs.size<=s.heap.objs.size
 funs:s.heap.FunFrames base outer
 frf:∀b∈frs outer,H b=none
 hok:HOk P w H s.heap
 bare:AllBare s.gens
def CE (outer:List Env) (P:Program) (w:World) (H:Hp) (s:Shared) (Q:VK) (u:Value) (s':Shared):Prop :=
 ∃v H',s'.os=s.os/\AllBare s'.gens/\Un (frs outer) [] H H' s.heap s'.heap/\HOk P w H' s'.heap/\RelV v u/\Q v H'
def CR (CX:CXT) (outer:List Env) (P:Program) (w:World) (H:Hp) (s:Shared) (Q:VK) (E:XK) (r:Result) (s':Shared):Prop :=
 match r with
 | .ok (.ret u)=>CE outer P w H s Q u s'
 | .ok _=>False
 | .error e=>CX outer H s E e s'
structure FnOk (P:Program) (w:World) (K:PySem.W.Frag) (mg:Str->Option Value) (base:Heap) (CX:CXT) (k:Nat) (f:Addr) (fd:FuncData) (ps:List Str) (sp:Sp):Prop where
 len:∀vs H Q E,sp vs H Q E->vs.length=ps.length
 run:∀(A:Around) (outer:List Env) (s:Shared) (H:Hp) (args:Args) (us:List Value) (vs:List V) (Q:VK) (E:XK),Room k A->Env0 P w K mg base A outer s H->BindsTo s fd args (ps.zip us)->Vals vs us->sp vs H Q E ->
  codeAny (model P w) A (.call (.ref f) args) (CR CX outer P w H s Q E) s
theorem Env0.make {P:Program} {w:World} {K:PySem.W.Frag} {mg:Str->Option Value} {base:Heap} {A:Around} {outer:List Env} {s:Shared} {H:Hp} (e:Env0 P w K mg base A outer s H) (C:Addr) (us:List Value) (kw:List (Str×Value)) :
  Env0 P w K mg base (A.under (.builtin "type.__call__" ⟨.ref C::us,kw⟩)) outer s H:=⟨by first| exact e.frames| (simpa [Around.under,Code.envs,Code.isFrame,pushEnvs] using e.frames),e.mod,e.bs,e.bsz,e.funs,e.frf,e.hok,e.bare⟩
section
variable {X:Cx} {pins:List (Addr×Obj)} {σ:St} {H:Hp} {s s':Shared}
theorem Inv.env0 (I:Inv X pins σ H s):Env0 X.prog X.w X.K X.mg X.base X.A X.stack s H :=
 ⟨I.ok.frames,I.ok.mod,I.bs,Nat.le_trans I.ok.bsz I.sz,I.stack,I.stkFree,I.hok,I.bare⟩
theorem Inv.after {Q:VK} {u:Value} (I:Inv X pins σ H s) (h:CE X.stack X.prog X.w H s Q u s'):EP X pins σ Q u s':=by
 obtain ⟨v,H',os,bare,un,hok,r,q⟩:=h
 obtain ⟨hh,g,d,t,os'⟩:=s'
 obtain rfl:os'=s.os:=os
 exact ⟨v,H',I.call (h':=hh) (g':=g) (d':=d) (t':=t) (ch:=[]) un hok bare (fun b z=>absurd z (by simp)),r,q⟩
end
def tCall (sp:Sp) (dvs:List V) (E:XK) (t:TA):TE:=fun σ H Q=>t σ H fun vs H1=>sp (vs++dvs) H1 Q E
def tMeth (C:Addr) (m:Str) (sp:Sp) (dvs:List V) (E:XK) (ta:TE) (t:TA):TE:=fun σ H Q=>ta σ H fun x H1=>∃a dx fs,x= .ref a/\H1 a=some (.ins C dx fs)/\fs.lookup m=none /\
 t σ H1 fun vs H2=>sp (x::(vs++dvs)) H2 Q E
def tMake (C:Addr) (sp:Sp) (dvs:List V) (E:XK) (t:TA):TE:=fun σ H Q=>t σ H fun vs H1=>∀x dx,H1 x=none->H1 dx=none->dx≠x ->
 sp (.ref x::(vs++dvs)) (upd (upd H1 dx (.own x)) x (.ins C dx [])) (fun v H2=>v= .non/\Q (.ref x) H2) E
def zDf (K:PySem.W.Frag) (fd:FuncData) (ps:List Str) (ds:List Value):Prop :=
 ∀(s:Shared) (us:List Value),K.In s.heap->(us++ds).length=ps.length->BindsTo s fd ⟨us,[]⟩ (ps.zip (us++ds))
theorem zDf.all {K:PySem.W.Frag} {fd:FuncData} {ps:List Str} (h:∀us:List Value,us.length=ps.length->bindArgs fd ⟨us,[]⟩=pure (ps.zip us)):zDf K fd ps []:=fun s us _ hl=>by
 rw [List.append_nil] at hl ⊢
 exact .of_eq (h us hl)
def zG9 (CX:CXT) (X:Cx) (E:XK):Prop:=∀(pins:List (Addr×Obj)) (σ:St) (H:Hp) (s:Shared) (e:Value) (s':Shared),Inv X pins σ H s->CX X.stack H s E e s'->X.xe e s'
section
variable {X:Cx} {CX:CXT} {k:Nat} {f C:Addr} {fd:FuncData} {ps:List Str} {sp:Sp} {dvs:List V} {ds:List Value} {E:XK} {x m:Str} {p pos apos:Pos} {e o:Expr} {es:List Expr} {ta:TE} {t:TA}
theorem run_fn {pins:List (Addr×Obj)} {σ:St} {H:Hp} {s:Shared} {Q:VK} {us:List Value} {vs:List V} (F:FnOk X.prog X.w X.K X.mg X.base CX k f fd ps sp) (hr:Room k X.A) (hb:zDf X.K fd ps ds) (hd:Vals dvs ds) (hx:zG9 CX X E)
  (I:Inv X pins σ H s) (r:Vals vs us) (h:sp (vs++dvs) H Q E):wpAny (model X.prog X.w) X.A (call (.ref f) us) (EP X pins σ Q) X.xe s:=by
 have r2:Vals (vs++dvs) (us++ds):=r.append hd
 have hl:(us++ds).length=ps.length:=by rw [<-r2.length];exact F.len _ _ _ _ h
 refine wpAny_call (codeAny_mono (F.run X.A X.stack s H ⟨us,[]⟩ (us++ds) (vs++dvs) Q E hr I.env0 (hb s us I.kIn hl) r2 h) fun r s' hq=>?_)
 cases r with
 | error e=>exact hx pins σ H s e s' I hq
 | ok fl =>
  cases fl with
  | ret u=>exact I.after hq
  | next=>exact False.elim hq
  | brk=>exact False.elim hq
  | cont=>exact False.elim hq
theorem pe_call (F:FnOk X.prog X.w X.K X.mg X.base CX k f fd ps sp) (hr:Room k X.A) (hg:Gl X x) (hm:X.mg x=some (.ref f)) (hk:PySem.W.keepIn X.K (.ref f)=true) (hb:zDf X.K fd ps ds) (hd:Vals dvs ds) (hx:zG9 CX X E)
  (ha:PA X (e::es) t) (hdb:(x==("__debug__" : Str))=false:=by decide) (he:starEach (e::es) X.env=(false,eval e X.env)::starEach es X.env:=by rfl) (hpl:(backTo pos (starEach es X.env)).any (·.1)=false:=by rfl) :
  PE X (.Call (.Name x p) (e::es) [] pos) (tCall sp dvs E t):=by
 intro pins s σ H Q I h
 refine wpAny_Call_Name_kw (ld_glob I hg hm ?_ hdb)
 refine PySem.W.callWith_K (h₀:=X.base) I.ok.mod.kin hk (thn (ha pos pins s σ H _ I h) fun us s1 ⟨vs,H1,I1,r,q⟩=>⟨I1.kIn,?_⟩) he hpl
 exact run_fn F hr hb hd hx I1 r q
theorem pe_meth {pl:Sem Bool} (he:PE X o ta) (c:Cls X.K C) (hm:Meth X.K C m f) (F:FnOk X.prog X.w X.K X.mg X.base CX k f fd ps sp) (hr:Room k X.A) (hb:zDf X.K fd ps ds) (hd:Vals dvs ds) (hx:zG9 CX X E) (ha:PA X (e::es) t)
  (hst:starEach (e::es) X.env=(false,eval e X.env)::starEach es X.env:=by rfl) (hpl:(backTo pos (starEach es X.env)).any (·.1)=false:=by rfl)
  (ht:eval (.Call (.Attribute o m apos) (e::es) [] pos) X.env=(do
   let ov<-eval o X.env
   standAt apos.atName
   let (f,first)<-holding [ov] (getMethod ov m pl)
   callWith pos f first (backTo pos (starEach (e::es) X.env)) (backToKw pos (keywordEach [] X.env))):=by rfl) :
  PE X (.Call (.Attribute o m apos) (e::es) [] pos) (tMeth C m sp dvs E ta t):=by
 intro pins s σ H Q I h
 refine PySem.W.methodCall_KW (pl:=pl) (thn (he pins s σ H _ I h) fun u s1 ⟨x,H1,I1,rx,a,dx,fs,ex,ea,l,q⟩=>?_) ht
 subst ex
 obtain rfl:u=Value.ref a:=rx
 refine zHw I1 ea c hm l ?_
 refine PySem.W.callWith_K (first:=[.ref a]) (h₀:=X.base) I.ok.mod.kin hm.kp (thn (ha pos pins s1 σ H1 _ I1 q) fun us s2 ⟨vs,H2,I2,r,q2⟩=>⟨I2.kIn,?_⟩) hst hpl
 exact run_fn (us:=.ref a::us) (vs:=.ref a::vs) F hr hb hd hx I2 (.cons rfl r) q2
theorem pe_meth0 {pl:Sem Bool} (he:PE X o ta) (c:Cls X.K C) (hm:Meth X.K C m f) (F:FnOk X.prog X.w X.K X.mg X.base CX k f fd ps sp) (hr:Room k X.A) (hb:zDf X.K fd ps ds) (hd:Vals dvs ds) (hx:zG9 CX X E)
  (ht:eval (.Call (.Attribute o m apos) [] [] pos) X.env=(do
   let ov<-eval o X.env
   standAt apos.atName
   let (f,first)<-holding [ov] (getMethod ov m pl)
   callWith pos f first (backTo pos (starEach [] X.env)) (backToKw pos (keywordEach [] X.env))):=by rfl) :
  PE X (.Call (.Attribute o m apos) [] [] pos) (tMeth C m sp dvs E ta tNil):=by
 intro pins s σ H Q I h
 refine PySem.W.methodCall_KW (pl:=pl) (thn (he pins s σ H _ I h) fun u s1 ⟨x,H1,I1,rx,a,dx,fs,ex,ea,l,q⟩=>?_) ht
 subst ex
 obtain rfl:u=Value.ref a:=rx
 refine zHw I1 ea c hm l ?_
 exact PySem.W.callWith_K0 (first:=[.ref a]) I1.kIn hm.kp (run_fn (us:=[.ref a]) (vs:=[.ref a]) F hr hb hd hx I1 (.cons rfl .nil) q)
structure Mk (K:PySem.W.Frag) (C f:Addr):Prop where
 makes:PySem.W.makesIn K C=true
 init:PySem.W.findIn K (.ref C) "__init__" = some (some (.ref f))
 fn:PySem.W.isFn K (.ref f)=true
 kp:PySem.W.keepIn K (.ref C)=true
theorem run_make {pins:List (Addr×Obj)} {σ:St} {H:Hp} {s:Shared} {Q:VK} {us:List Value} {vs:List V} (M:Mk X.K C f) (F:FnOk X.prog X.w X.K X.mg X.base CX k f fd ps sp) (hr:Room (k+1) X.A) (hb:zDf X.K fd ps ds) (hd:Vals dvs ds)
  (hx:zG9 CX X E) (I:Inv X pins σ H s) (r:Vals vs us)
  (h:∀x dx,H x=none->H dx=none->dx≠x->sp (.ref x::(vs++dvs)) (upd (upd H dx (.own x)) x (.ins C dx [])) (fun v H2=>v= .non/\Q (.ref x) H2) E) :
  wpAny (model X.prog X.w) X.A (call (.ref C) us) (EP X pins σ Q) X.xe s:=by
 have hq:=h (s.heap.objs.size+1) s.heap.objs.size (I.hok.fresh (Nat.le_succ _)) (I.hok.fresh (Nat.le_refl _)) (Nat.ne_of_lt (Nat.lt_succ_self _))
 have I2:=Inv.made (C:=C) I
 have r2:Vals (V.ref (s.heap.objs.size+1)::(vs++dvs)) (Value.ref (s.heap.objs.size+1)::(us++ds)):=.cons rfl (r.append hd)
 have hl:(Value.ref (s.heap.objs.size+1)::us++ds).length=ps.length:=by
  have e:=r2.length
  rw [F.len _ _ _ _ hq] at e
  exact e.symm
 refine wpAny_call (make_map (f:=f) I.kIn M.makes M.init (beq_iff_eq.mp M.fn) (codeAny_mono (F.run _ X.stack _ _ ⟨Value.ref (s.heap.objs.size+1)::us,[]⟩ (Value.ref (s.heap.objs.size+1)::(us++ds)) _ _ E (hr.make C us [])
  (I2.env0.make C us []) (hb _ (Value.ref (s.heap.objs.size+1)::us) I2.kIn hl) r2 hq) fun r s' hq'=>?_))
 cases r with
 | error e=>exact hx pins σ _ _ e s' I2 hq'
 | ok fl =>
  cases fl with
  | ret u =>
   obtain ⟨v,H',I3,rv,ev,q3⟩:=I2.after hq'
   subst ev
   exact ⟨rv,⟨V.ref (s.heap.objs.size+1),H',I3,rfl,q3⟩⟩
  | next=>exact False.elim hq'
  | brk=>exact False.elim hq'
  | cont=>exact False.elim hq'
theorem pe_make (M:Mk X.K C f) (F:FnOk X.prog X.w X.K X.mg X.base CX k f fd ps sp) (hr:Room (k+1) X.A) (hg:Gl X x) (hm:X.mg x=some (.ref C)) (hb:zDf X.K fd ps ds) (hd:Vals dvs ds) (hx:zG9 CX X E)
  (ha:PA X (e::es) t) (hdb:(x==("__debug__" : Str))=false:=by decide) (he:starEach (e::es) X.env=(false,eval e X.env)::starEach es X.env:=by rfl) (hpl:(backTo pos (starEach es X.env)).any (·.1)=false:=by rfl) :
  PE X (.Call (.Name x p) (e::es) [] pos) (tMake C sp dvs E t):=by
 intro pins s σ H Q I h
 refine wpAny_Call_Name_kw (ld_glob I hg hm ?_ hdb)
 refine PySem.W.callWith_K (h₀:=X.base) I.ok.mod.kin M.kp (thn (ha pos pins s σ H _ I h) fun us s1 ⟨vs,H1,I1,r,q⟩=>⟨I1.kIn,?_⟩) he hpl
 exact run_make M F hr hb hd hx I1 r q
end
section
variable {X:Cx} {CX:CXT} {k:Nat} {f C:Addr} {fd:FuncData} {ps ks:List Str} {sp:Sp} {E:XK} {x m:Str} {p pos apos kpos:Pos} {e o:Expr} {es:List Expr} {kws:List Keyword} {te ta:TE} {t tk:TA} {nm:Option Str}
variable {g:List Value->List Value->List Value} {gV:List V->List V->List V}
end
structure FnScope (N P:List Str) (sc:Scope):Prop where
 kind:sc.kind= .function
 co:sc.isCoroutine=false
 gen:sc.isGenerator=false
 nd:N.Nodup
 pre:N.take P.length=P
 par:∀x∈P,sc.names.lookup x=some .local\/sc.names.lookup x=some .cell
 nofree:∀y∈sc.names,y.2≠.free
theorem bindL_out {kindOf:Str->Option NameKind} {x:Str}:∀{binds:List (Str×Value)} {m:Str->Option Value},(∀v,(x,v)∉binds)->bindL kindOf binds m x=m x
 | [],_,_=>rfl
 | (n,v)::r,m,h=>by
  unfold bindL
  rw [bindL_out fun w hw=>h w (List.mem_cons_of_mem _ hw)]
  split
  ·have:x≠n:=by rintro rfl;exact h v List.mem_cons_self
   simp [this]
  ·rfl
theorem bindC_out {kindOf:Str->Option NameKind} {x:Str}:∀{binds:List (Str×Value)} {m:Str->Option Value},(∀v,(x,v)∉binds)->bindC kindOf binds m x=m x
 | [],_,_=>rfl
 | (n,v)::r,m,h=>by
  unfold bindC
  rw [bindC_out fun w hw=>h w (List.mem_cons_of_mem _ hw)]
  split
  ·rfl
  ·have:x≠n:=by rintro rfl;exact h v List.mem_cons_self
   simp [this]
theorem bindL_get {kindOf:Str->Option NameKind} {x:Str} {v:Value}:∀{P:List Str} {vs:List Value} {i:Nat} {m:Str->Option Value},P.Nodup->P[i]?=some x->vs[i]?=some v->kindOf x=some .local ->
  bindL kindOf (P.zip vs) m x=some v
 | [],_,_,_,_,h,_,_=>by simp at h
 | _::_,[],_,_,_,_,h,_=>by simp at h
 | p::P,w::vs,0,m,nd,h1,h2,hk=>by
  simp at h1 h2;subst h1;subst h2
  show bindL kindOf ((p,w)::P.zip vs) m p=_
  unfold bindL
  rw [bindL_out fun v hv=>(List.nodup_cons.mp nd).1 (List.of_mem_zip hv).1,if_pos hk]
  simp
 | p::P,w::vs,i+1,m,nd,h1,h2,hk=>by
  show bindL kindOf ((p,w)::P.zip vs) m x=_
  unfold bindL
  exact bindL_get (i:=i) (List.nodup_cons.mp nd).2 (by simpa using h1) (by simpa using h2) hk
theorem bindC_get {kindOf:Str->Option NameKind} {x:Str} {v:Value}:∀{P:List Str} {vs:List Value} {i:Nat} {m:Str->Option Value},P.Nodup->P[i]?=some x->vs[i]?=some v->kindOf x≠some .local ->
  bindC kindOf (P.zip vs) m x=some v
 | [],_,_,_,_,h,_,_=>by simp at h
 | _::_,[],_,_,_,_,h,_=>by simp at h
 | p::P,w::vs,0,m,nd,h1,h2,hk=>by
  simp at h1 h2;subst h1;subst h2
  show bindC kindOf ((p,w)::P.zip vs) m p=_
  unfold bindC
  rw [bindC_out fun v hv=>(List.nodup_cons.mp nd).1 (List.of_mem_zip hv).1,if_neg hk]
  simp
 | p::P,w::vs,i+1,m,nd,h1,h2,hk=>by
  show bindC kindOf ((p,w)::P.zip vs) m x=_
  unfold bindC
  exact bindC_get (i:=i) (List.nodup_cons.mp nd).2 (by simpa using h1) (by simpa using h2) hk
def start (N:List Str) (vs:List V):St:=vs.map some++List.replicate (N.length - vs.length) none
def cxOf (CX:CXT) (P:Program) (w:World) (K:PySem.W.Frag) (mg:Str->Option Value) (base:Heap) (N:List Str) (qual:Str) (scope:Scope) (f:Addr) (cd:Value) (A:Around) (outer:List Env) (s:Shared) (H:Hp) (E:XK):Cx where
 prog:=P
 w:=w
 K:=K
 mg:=mg
 base:=base
 A:=A.deeper (envOfC qual scope s.heap.objs.size f cd)
 N:=N
 s₀:=s
 H₀:=H
 env:=envOfC qual scope s.heap.objs.size f cd
 outer:=outer
 stack:=envOfC qual scope s.heap.objs.size f cd::outer
 ex:=[]
 calm:=true
 fn:=fun _=>true
 pn:=[]
 xe:=fun e s'=>wpAny (model P w) (A.deeper (envOfC qual scope s.heap.objs.size f cd)) (leaving (envOfC qual scope s.heap.objs.size f cd) e) (fun _ s''=>CX outer H s E e s'') (fun e' s''=>CX outer H s E e' s'') s'
theorem cell_has {sc:Scope} {n:Nat} {x:Str} (h:sc.names.lookup x=some .cell):∃c,(cellsFrom n sc.names []).lookup x=some c:=by
 have q:=PySem.W.cellsFrom_some sc.names n [] (.inl h)
 exact Option.isSome_iff_exists.mp q
theorem inv_start {CX:CXT} {P:Program} {w:World} {K:PySem.W.Frag} {mg:Str->Option Value} {base:Heap} {N ps:List Str} {qual:Str} {scope:Scope} {f:Addr} {cd:Value} {A:Around} {outer:List Env} {s s1:Shared} {H:Hp} {E:XK} {us:List Value} {vs:List V}
  (S:FnScope N ps scope) (hd:A.handled=none) (e0:Env0 P w K mg base A outer s H) (hl:vs.length=ps.length) (r:Vals vs us)
  (x:InCallC s s.heap.objs.size (bindL (envOfC qual scope s.heap.objs.size f cd).kindOf (ps.zip us) fun _=>none) (cellsFrom (s.heap.objs.size+1) scope.names []) (bindC (envOfC qual scope s.heap.objs.size f cd).kindOf (ps.zip us) fun _=>none) s1) :
  Inv (cxOf CX P w K mg base N qual scope f cd A outer s H E) [] (start N vs) H s1:=by
 have hpl:ps.length<=N.length:=by have:=congrArg List.length S.pre;rw [List.length_take] at this;omega
 obtain ⟨h1,tk,rfl,hk⟩:=x.done
 have noA:∀b:Addr,b∉(cxOf CX P w K mg base N qual scope f cd A outer s H E).ex:=fun b z=>absurd (show b∈([]:List Addr) from z) (by simp)
 refine ⟨⟨e0.mod,S.kind,rfl,rfl,Nat.le_refl _,fun y z c h1 h2=>?_,fun y hy=>?_,fun y c _ h=>?_,fun _=>hd,Around.frames_deeper e0.frames,.inr ⟨rfl,rfl⟩,fun b z=>absurd z (noA b),e0.bs,e0.bsz,fun b _ _=>noA b,fun b z=>absurd z (noA b),e0.funs,e0.frf⟩,
  rfl,e0.bare,Un.kept hk,⟨_,x.toInCall.ns,fun i y v h1 h2 h3=>?_⟩,fun y c h=>⟨_,x.cell y c h⟩,e0.hok.fresh (Nat.le_refl _),fun y c h=>?_,fun p hp=>absurd (show p∈([]:List (Addr×Obj)) from hp) (by simp),e0.hok.kept hk,?_⟩
 ·exact name_of_addr x.apart (PySem.mem_of_lookup h1) (PySem.mem_of_lookup h2)
 ·have hy:scope.names.lookup y=some .cell\/scope.names.lookup y=some .free:=hy
  rcases hy with hy| hy
  ·exact cell_has hy
  ·exact absurd rfl (S.nofree _ (PySem.mem_of_lookup hy))
 ·exact Nat.le_of_lt (x.above y c (PySem.mem_of_lookup h))
 ·have hi:i<vs.length:=by
   unfold start at h2
   by_cases hi:i<vs.length
   ·exact hi
   ·rw [List.getElem?_append_right (by simpa using hi)] at h2
    rw [List.getElem?_replicate] at h2
    split at h2<;>cases h2
  have ha:vs[i]?=some v:=by
   unfold start at h2
   rw [List.getElem?_append_left (by simpa using hi),List.getElem?_map] at h2
   cases e:vs[i]? with
   | none=>rw [e] at h2;cases h2
   | some a=>rw [e] at h2;cases h2;rfl
  obtain ⟨u,hu,rv⟩:=r.get ha
  have hp:ps[i]?=some y:=by
   rw [<-S.pre,List.getElem?_take_of_lt (by omega)];exact h1
  have ndP:ps.Nodup:=by rw [<-S.pre];exact S.nd.sublist (List.take_sublist _ _)
  refine ⟨u,rv,?_⟩
  rcases S.par y (List.mem_of_getElem? hp) with k| k
  ·exact .inl ⟨k,bindL_get ndP hp hu k⟩
  ·obtain ⟨c,e⟩:=cell_has (n:=s.heap.objs.size+1) k
   refine .inr ⟨.inl k,c,e,?_⟩
   have q:=x.cell y c e
   rw [bindC_get ndP hp hu (by show scope.names.lookup y≠_;rw [k];decide)] at q
   exact q
 ·exact e0.hok.fresh (Nat.le_of_lt (x.above y c (PySem.mem_of_lookup h)))
 ·unfold start
  show _=N.length
  rw [List.length_append,List.length_map,List.length_replicate]
  omega
theorem fn_of {CX:CXT} {P:Program} {w:World} {K:PySem.W.Frag} {mg:Str->Option Value} {base:Heap} {k:Nat} {f:Addr} {name qual:Str} {params:Arguments} {body:List Stmt} {scope:Scope} {dV kV doc pm cdv ct oc:Value} {an od:Option Addr}
  {osl:Array (Option Value)} {N ps:List Str} {sp:Sp} (lk:K.lookup f=some ⟨oc,od,.func (PySem.W.fnOf name qual params body scope dV kV doc pm an cdv ct),osl⟩) (hcd:PySem.W.codeIn K cdv qual=true) (S:FnScope N ps scope)
  (len:∀vs H Q E,sp vs H Q E->vs.length=ps.length)
  (hbody:∀(A:Around) (outer:List Env) (s:Shared) (H:Hp) (vs:List V) (Q:VK) (E:XK),Room k (A.deeper (envOfC qual scope s.heap.objs.size f cdv))->sp vs H Q E ->
   ∃t,PSs (cxOf CX P w K mg base N qual scope f cdv A outer s H E) body t/\t {nx:=fun _ H'=>Q .non H',rt:=Q} (start N vs) H) :
  FnOk P w K mg base CX (k+1) f (PySem.W.fnOf name qual params body scope dV kV doc pm an cdv ct) ps sp:=by
 refine ⟨len,fun A outer s H args us vs Q E hr e0 hb r hsp=>?_⟩
 have hl:=len _ _ _ _ hsp
 have KX:K.In s.heap:=e0.mod.kin.keeps fun b o e=>(e0.bs b o e).1
 have lim:s.heap.NoLimit:=e0.mod.nolimit.keeps fun b o e=>(e0.bs b o e).1
 have hkind:∀y∈ps.zip us,scope.names.lookup y.1=some .local\/(scope.names.lookup y.1=some .cell/\((cellsFrom (s.heap.objs.size+1) scope.names []).lookup y.1).isSome=true):=fun ⟨n,v⟩ hy=>by
  rcases S.par n (List.of_mem_zip hy).1 with q| q
  ·exact .inl q
  ·exact .inr ⟨q,PySem.W.cellsFrom_some _ _ _ (.inl q)⟩
 refine codeAny_call_function hr.depth (KX _ _ lk) rfl S.co S.gen rfl (PySem.W.codeRec_of KX hcd) (hb _ _ _ _ ?_)
 refine wpAny_newFunctionEnv_cells S.kind hkind fun env he s1 x=>?_
 subst he
 refine ⟨lim.keeps x.toInCall.keep,codeAny_func ?_⟩
 obtain ⟨t,ht,hq⟩:=hbody A outer s H vs Q E (hr.deeper _) hsp
 have I:Inv (cxOf CX P w K mg base N qual scope f cdv A outer s H E) [] (start N vs) H s1:=inv_start S hr.hd e0 hl r x
 refine wpAny_mono (ht [] s1 (start N vs) H _ I hq) (fun fl s' hs=>?_) fun e s' hs=>hs
 have fin:∀{σ':St} {H':Hp} {v:V} {u:Value},Inv (cxOf CX P w K mg base N qual scope f cdv A outer s H E) [] σ' H' s'->RelV v u->Q v H'->CE outer P w H s Q u s' :=
  fun {σ' H' v u} J rv q=>⟨v,H',J.os,J.bare,J.base,J.hok,rv,q⟩
 cases fl with
 | ret u =>
  obtain ⟨v,σ',H',J,rv,q⟩:=hs
  exact fin J rv q
 | next =>
  obtain ⟨σ',H',J,q⟩:=hs
  exact fin (v:=V.non) (u:=Value.none) J rfl q
 | brk =>
  obtain ⟨_,_,_,q⟩:=hs
  exact False.elim q
 | cont =>
  obtain ⟨_,_,_,q⟩:=hs
  exact False.elim q
section
variable {X:Cx} {x:Str} {p pos:Pos} {e:Expr} {es:List Expr} {t:TA} {id T:String} {r:List V->Hp->VK->Prop}
def tCB (r:List V->Hp->VK->Prop) (t:TA):TE:=fun σ H Q=>t σ H fun vs H1=>r vs H1 Q
theorem zAl (hc:zDe X (.builtin id) r) (hg:Gl X x) (hm:X.mg x=none) (hv:bootBuiltins x=some (.builtin id)) (ha:PA X (e::es) t) (hn:x≠ "__name__" := by decide) (hdb:(x==("__debug__" : Str))=false:=by decide)
  (he:starEach (e::es) X.env=(false,eval e X.env)::starEach es X.env:=by rfl) (hpl:(backTo pos (starEach es X.env)).any (·.1)=false:=by rfl):PE X (.Call (.Name x p) (e::es) [] pos) (tCB r t):=by
 intro pins s σ H Q I h
 refine wpAny_Call_Name_kw (ld_blt I hg hm hv ?_ hn hdb)
 exact PyProof.Rows.callWith_builtin1 (thn (ha pos pins s σ H _ I h) fun us s1 ⟨vs,H1,I1,r1,q1⟩=>hc pins s1 σ H1 vs us Q I1 r1 q1) he hpl
theorem zAq (hc:zDe X (.type T) r) (hg:Gl X x) (hm:X.mg x=none) (hv:bootBuiltins x=some (.type T)) (ha:PA X (e::es) t) (hn:x≠ "__name__" := by decide) (hdb:(x==("__debug__" : Str))=false:=by decide)
  (he:starEach (e::es) X.env=(false,eval e X.env)::starEach es X.env:=by rfl) (hpl:(backTo pos (starEach es X.env)).any (·.1)=false:=by rfl):PE X (.Call (.Name x p) (e::es) [] pos) (tCB r t):=by
 intro pins s σ H Q I h
 refine wpAny_Call_Name_kw (ld_blt I hg hm hv ?_ hn hdb)
 exact PyProof.Rows.callWith_type1 (thn (ha pos pins s σ H _ I h) fun us s1 ⟨vs,H1,I1,r1,q1⟩=>hc pins s1 σ H1 vs us Q I1 r1 q1) he hpl
end
end L2
namespace HT
open PySem PyProof.Rows
section
open PySem.SeqAt
open PySem.AutoSeq1 (wpAny_loadPart')
open PySem.MeetsSeq PySem.MeetsSeq2 PySem.MeetsSeq3
end
section
variable {prog:Program} {w:World} {A:Around} {E:Value->Shared->Prop} {s:Shared}
def sIx (n d:Nat):Option Int->Nat
 | none=>d
 | some v=>if v<0 then (v+(n:Int)).toNat else min v.toNat n
theorem sIx_none (n d:Nat):sIx n d none=d:=rfl
theorem sIx_nat (n d k:Nat):sIx n d (some (k:Int))=min k n:=by
 show (if (k:Int)<0 then ((k:Int)+(n:Int)).toNat else min (k:Int).toNat n)=min k n
 rw [if_neg (by omega),Int.toNat_natCast]
end
end HT
namespace L2
open PySem PySem.Spec PyProof.Rows
abbrev TO:=St->Hp->(Option Int->Hp->Prop)->Prop
def PO (X:Cx) (e:Option Expr) (t:TO):Prop :=
 ∀(pins:List (Addr×Obj)) (s:Shared) (σ:St) (H:Hp) (Q:Option Int->Hp->Prop),Inv X pins σ H s->t σ H Q ->
  wpAny (model X.prog X.w) X.A (evalPart e X.env) (fun u s'=>∃o H',Inv X pins σ H' s'/\IsPart u o/\Q o H') X.xe s
def tNoPart:TO:=fun _ H Q=>Q none H
def tPart (t:TE):TO:=fun σ H Q=>t σ H fun x H1=>∃i,x= .int i/\Q (some i) H1
section
variable {X:Cx} {e:Expr} {te:TE} {lo hi:Option Expr} {tl th:TO} {pos p2:Pos}
theorem po_none:PO X none tNoPart:=by
 intro pins s σ H Q I h
 rw [evalPart_none]
 exact wpAny_pure ⟨none,H,I,.none,h⟩
theorem po_some (h:PE X e te):PO X (some e) (tPart te):=by
 intro pins s σ H Q I hw
 rw [evalPart_some]
 refine thn (h pins s σ H _ I hw) fun u s1 ⟨x,H1,I1,r1,q1⟩=>?_
 obtain ⟨i,rfl,q⟩:=q1
 obtain ⟨t,rfl⟩:=r1
 exact ⟨some i,H1,I1,.int i t,q⟩
def SlR (X:Cx) (r:V->Option Int->Option Int->Hp->VK->Prop):Prop :=
 ∀(pins:List (Addr×Obj)) (s:Shared) (σ:St) (H:Hp) (x:V) (v vl vu:Value) (lo hi:Option Int) (sl:Addr) (Q:VK),Inv X pins σ H s->RelV x v->s.heap.IsSliceOf sl vl vu .none->IsPart vl lo->IsPart vu hi->r x lo hi H Q ->
  ∃T id,typeLookup (.type T) "__getitem__" = pure (some (.builtin id))/\s.TypeIs v T/\wpAny (model X.prog X.w) X.A (getItem v (.ref sl)) (EP X pins σ Q) X.xe s
def tSl (r:V->Option Int->Option Int->Hp->VK->Prop) (te:TE) (tl th:TO):TE:=fun σ H Q=>te σ H fun x H1=>tl σ H1 fun l H2=>th σ H2 fun u H3=>r x l u H3 Q
theorem pe_slice {r:V->Option Int->Option Int->Hp->VK->Prop} (hr:SlR X r) (he:PE X e te) (hl:PO X lo tl) (hu:PO X hi th):PE X (.Subscript e (.Slice lo hi none p2) pos) (tSl r te tl th):=by
 intro pins s σ H Q I h
 refine Subscript_ (thn (he pins s σ H _ I h) fun v s1 ⟨x,H1,I1,r1,q1⟩=>?_)
 refine wpAny_Slice (thn (hl pins s1 σ H1 _ I1 q1) fun vl s2 ⟨l,H2,I2,pl,q2⟩=>thn (hu pins s2 σ H2 _ I2 q2) fun vu s3 ⟨u,H3,I3,pu,q3⟩=>?_)
 rw [evalPart_none]
 refine wpAny_pure ?_
 have I4:Inv X pins σ H3 {s3 with heap:=s3.heap.push {cls:=.type "slice",data:=.fields #[vl,vu,.none]}}:=I3.kept (t':=s3.toks) fun b ob q=>Heap.get?_push_of_some _ q
 obtain ⟨T,id,hT,ht,hg⟩:=hr pins {s3 with heap:=s3.heap.push {cls:=.type "slice",data:=.fields #[vl,vu,.none]}} σ H3 x v vl vu l u s3.heap.objs.size Q I4 r1 (Heap.IsSliceOf.new ..) pl pu q3
 show wpAny (model X.prog X.w) X.A (subscriptTail e (.Slice lo hi none p2) v (.ref s3.heap.objs.size)) (EP X pins σ Q) X.xe {s3 with heap:=s3.heap.push {cls:=.type "slice",data:=.fields #[vl,vu,.none]}}
 exact tail_any (ops:=[.ref s3.heap.objs.size,v]) ht hT hg (by with_unfolding_all rfl)
def cutV (xs:List V) (lo hi:Option Int):List V:=(xs.drop (HT.sIx xs.length 0 lo)).take (HT.sIx xs.length xs.length hi - HT.sIx xs.length 0 lo)
theorem cutV_length (xs:List V) (lo hi:Option Int):(cutV xs lo hi).length<=xs.length:=by
 unfold cutV
 rw [List.length_take,List.length_drop]
 omega
end
def ixN (n:Nat) (i:Int):Option Nat:=if 0<=i then (if i<n then some i.toNat else none) else if -(n:Int)<=i then some (i+n).toNat else none
def atI {α:Type} (xs:List α) (i:Int):Option α:=(ixN xs.length i).bind fun j=>xs[j]?
theorem ixN_seq {n:Nat} {i:Int} {j:Nat} (h:ixN n i=some j):seqIndex? i n=some j/\j<n/\-(n:Int)<=i/\i<n:=by
 unfold ixN at h
 by_cases h0:0<=i
 ·rw [if_pos h0] at h
  by_cases h1:i<n
  ·rw [if_pos h1] at h
   have e:i.toNat=j:=Option.some.inj h
   exact ⟨by rw [seqIndex_of h0 h1,e],by omega,by omega,h1⟩
  ·rw [if_neg h1] at h;cases h
 ·rw [if_neg h0] at h
  by_cases h1:-(n:Int)<=i
  ·rw [if_pos h1] at h
   have e:(i+n).toNat=j:=Option.some.inj h
   exact ⟨by rw [seqIndex_neg (by omega) h1,e],by omega,h1,by omega⟩
  ·rw [if_neg h1] at h;cases h
theorem atI_get {α:Type} {xs:List α} {i:Int} {v:α} (h:atI xs i=some v):∃j,seqIndex? i xs.length=some j/\xs[j]?=some v/\j<xs.length/\-(xs.length:Int)<=i/\i<xs.length:=by
 unfold atI at h
 cases e:ixN xs.length i with
 | none=>rw [e] at h;cases h
 | some j =>
  rw [e] at h
  obtain ⟨h1,h2,h3,h4⟩:=ixN_seq e
  exact ⟨j,h1,h,h2,h3,h4⟩
def PlainIx (b:Expr):Prop:=∀o i,subscripted b false o i=operate [o,i] (getItem o i)
def IxR (X:Cx) (r:R2):Prop :=
 ∀(value slice:Expr) (pins:List (Addr×Obj)) (s:Shared) (σ:St) (H:Hp) (x y:V) (v u:Value) (Q:VK),Inv X pins σ H s->RelV x v->RelV y u->r x y H Q ->
  subscripted slice false v u=operate [v,u] (getItem v u)->wpAny (model X.prog X.w) X.A (subscriptTail value slice v u) (EP X pins σ Q) X.xe s
def MtR (X:Cx) (id:String) (r:V->List V->Hp->VK->Prop):Prop :=
 ∀(pins:List (Addr×Obj)) (s:Shared) (σ:St) (H:Hp) (x:V) (xs:List V) (v:Value) (us:List Value) (Q:VK),Inv X pins σ H s->RelV x v->Vals xs us->r x xs H Q ->
  wpAny (model X.prog X.w) X.A (call (.builtin id) (v::us)) (EP X pins σ Q) X.xe s
section
variable {X:Cx} {a b:Expr} {ta tb:TE} {pos:Pos}
theorem zCc {r:R2} (hr:IxR X r) (ha:PE X a ta) (hb:PE X b tb) (hs:PlainIx b):PE X (.Subscript a b pos) (tOp r ta tb):=by
 intro pins s σ H Q I h
 exact Subscript_ (binT ha hb I h fun v u s2 x y H2 I2 rx ry q=>hr a b pins s2 σ H2 x y v u Q I2 rx ry q (hs _ _))
def rIxL (K:PySem.W.Frag):R2:=fun x y H Q=>∃p xs i v,x= .ref p/\y= .int i/\SqL K H p xs/\atI xs i=some v/\Q v H
def rIxS:R2:=fun x y H Q=>∃z i c,x= .str z/\y= .int i/\z.length<=sizeLine/\atI z.cps.toList i=some c/\Q (.str ⟨#[c]⟩) H
theorem zA7:IxR X (rIxL X.K):=by
 intro value slice pins s σ H x y v u Q I rx ry h hs
 obtain ⟨p,xs,i,z,rfl,rfl,hq,he,q⟩:=h
 cases rx
 obtain ⟨t,rfl⟩:=ry
 obtain ⟨its,r,pl,hz⟩:=I.list hq
 obtain ⟨j,h1,h2,h3,h4,h5⟩:=atI_get he
 obtain ⟨w,ew,rw'⟩:=r.get h2
 have hl:=r.length
 have hn:=zHt
 have fin:EP X pins σ Q w s:=⟨z,H,I,rw',q⟩
 by_cases h0:0<=i
 ·have hj:i.toNat=j:=by
   rw [seqIndex_of h0 h5] at h1
   exact Option.some.inj h1
  exact item_listR pl.isList h0 (by omega) (by rw [hj];simpa using ew) fin hs
 ·have hj:(i+(its.toArray.size:Int)).toNat=j:=by
   rw [seqIndex_neg (by omega) h4] at h1
   rw [List.size_toArray,<-hl]
   exact Option.some.inj h1
  exact subscriptTail_builtinR (x:=w) pl.isList.typeIs slot_list_getitem.lookup
   (wpAny_getItem_list_neg (Q:=fun r s'=>r=w/\EP X pins σ Q r s') pl.isList (by omega) (by rw [List.size_toArray]<;>omega) (by omega) (by rw [hj];simpa using ew) ⟨rfl,fin⟩) hs
theorem ix_str:IxR X rIxS:=by
 intro value slice pins s σ H x y v u Q I rx ry h hs
 obtain ⟨z,i,c,rfl,rfl,hz,he,q⟩:=h
 obtain ⟨t,rfl⟩:=rx
 obtain ⟨t',rfl⟩:=ry
 obtain ⟨j,h1,h2,h3,h4,h5⟩:=atI_get he
 have hl:z.cps.toList.length=z.length:=by simp [Str.length]
 rw [hl] at h1 h4 h5
 have hn:=zHt
 exact tail_any (typeIs_str s z t) slot_str_getitem.lookup (getItem_str (c:=c) (by
  have e1:decide (i< -(2^63:Int))=false:=decide_eq_false (by omega)
  have e2:decide (i>=2^63)=false:=decide_eq_false (by omega)
  rw [e1,e2,Bool.or_false]) (by rw [h1];simpa using h2) ⟨.str ⟨#[c]⟩,H,I.tok _,⟨_,rfl⟩,q⟩) hs
theorem mapSeq_set (its:List Value) (n j:Nat) (u:Value):Obj.mapSeq (·.setIfInBounds j u) {cls:=.type "list",data:=.seq its.toArray n}={cls:=.type "list",data:=.seq (its.set j u).toArray n}:=by
 simp [Obj.mapSeq]
theorem Inv.lst {pins:List (Addr×Obj)} {σ:St} {H:Hp} {s:Shared} {p:Addr} {xs:List V} (I:Inv X pins σ H s) (h:H p=some (.lst xs)) :
  ∃(its:List Value) (n:Nat),Vals xs its/\s.heap.get? p=some {cls:=.type "list",data:=.seq its.toArray n}/\xs.length<=sizeLine:=by
 obtain ⟨z,its,n,r,e⟩:=I.hok p _ h
 exact ⟨its,n,r,e,z⟩
theorem Inv.lstUpd {pins:List (Addr×Obj)} {σ:St} {H:Hp} {s:Shared} {p:Addr} {xs ys:List V} {its its':List Value} {n n':Nat} {f:Obj->Obj} (I:Inv X pins σ H s) (h:H p=some (.lst xs))
  (ho:s.heap.get? p=some {cls:=.type "list",data:=.seq its.toArray n}) (hf:f {cls:=.type "list",data:=.seq its.toArray n}={cls:=.type "list",data:=.seq its'.toArray n'}) (r:Vals ys its') (hz:ys.length<=sizeLine) (t:Nat) :
  Inv X pins σ (upd H p (.lst ys)) {s with heap:=s.heap.update p f,toks:=t}:=by
 have e:(s.heap.update p f).get? p=some {cls:=.type "list",data:=.seq its'.toArray n'}:=by
  rw [Heap.get?_update_self f ho (by rw [hf]<;>rfl),hf]
 refine I.write (x:=p) (e:=p) (by rw [h];trivial) (.inl rfl) (fun b u hb q=>(Heap.get?_update_other _ _ (Ne.symm hb)).trans q) ⟨_,e⟩ ?_
 exact ⟨hz,its',n',r,e⟩
def rSetL:V->V->V->Hp->(Hp->Prop)->Prop:=fun o i v H Q=>∃p xs k j,o= .ref p/\i= .int k/\H p=some (.lst xs)/\ixN xs.length k=some j/\Q (upd H p (.lst (xs.set j v)))
theorem set_list:PSet X rSetL:=by
 intro pins s σ H o i v ov iv u Q I ro ri rv h
 obtain ⟨p,xs,k,j,rfl,rfl,hp,hj,q⟩:=h
 cases ro
 obtain ⟨t,rfl⟩:=ri
 obtain ⟨its,n,r,ho,hz⟩:=I.lst hp
 obtain ⟨h1,h2,h3,h4⟩:=ixN_seq hj
 have hl:=r.length
 have hn:=zHt
 have I':Inv X pins σ (upd H p (.lst (xs.set j v))) {s with heap:=s.heap.update p (Obj.mapSeq (·.setIfInBounds j u))} :=
  I.lstUpd hp ho (mapSeq_set its n j u) (r.set rv j) (by rw [List.length_set];exact hz) s.toks
 by_cases h0:0<=k
 ·have hk:k.toNat=j:=by
   rw [seqIndex_of h0 h4] at h1
   exact Option.some.inj h1
  exact PySem.W.ki_setAt ho h0 (by omega) (by rw [List.size_toArray,<-hl];exact h4) (by rw [hk];exact ⟨_,I',q⟩)
 ·have hk:(k+(its.toArray.size:Int)).toNat=j:=by
   rw [seqIndex_neg (by omega) h3] at h1
   rw [List.size_toArray,<-hl]
   exact Option.some.inj h1
  exact PySem.W.ki_setBack ho (by omega) (by rw [List.size_toArray,<-hl];exact h3) (by omega) (by rw [hk];exact ⟨_,I',q⟩)
theorem slice_bounds (lo hi:Option Int) (n:Nat):(sliceBounds lo hi none n).1=((HT.sIx n 0 lo:Nat):Int)/\(sliceBounds lo hi none n).2.1=((HT.sIx n n hi:Nat):Int)/\(sliceBounds lo hi none n).2.2=1:=by
 refine ⟨?_,?_,rfl⟩
 ·cases lo with
  | none=>simp [sliceBounds,HT.sIx]
  | some i =>
   simp only [sliceBounds,HT.sIx,Option.getD_none,show (1:Int)>0 by decide,if_true]
   by_cases h:i<0
   ·simp only [h,if_true]<;>omega
   ·simp only [h,if_false]<;>omega
 ·cases hi with
  | none=>simp [sliceBounds,HT.sIx]
  | some i =>
   simp only [sliceBounds,HT.sIx,Option.getD_none,show (1:Int)>0 by decide,if_true]
   by_cases h:i<0
   ·simp only [h,if_true]<;>omega
   ·simp only [h,if_false]<;>omega
theorem zH4 (its:List Value) (lo hi:Option Int):slicePick its.toArray lo hi none=((its.drop (HT.sIx its.length 0 lo)).take (HT.sIx its.length its.length hi - HT.sIx its.length 0 lo)).toArray:=by
 obtain ⟨h1,h2,h3⟩:=slice_bounds lo hi its.toArray.size
 unfold slicePick
 rw [h1,h2,h3]
 simp only [sliceRange_one,pick_run,List.size_toArray]<;>rfl
def rSlL (K:PySem.W.Frag):V->Option Int->Option Int->Hp->VK->Prop:=fun x lo hi H Q=>∃a xs,x= .ref a/\SqL K H a xs/\∀p,H p=none->Q (.ref p) (upd H p (.lst (cutV xs lo hi)))
theorem sl_list:SlR X (rSlL X.K):=by
 intro pins s σ H x v vl vu lo hi sl Q I rx hs pl pu h
 obtain ⟨a,xs,rfl,hx,q⟩:=h
 cases rx
 obtain ⟨its,r,ht,hz⟩:=I.list hx
 have hlen:=r.length
 refine ⟨"list",_,slot_list_getitem.lookup,ht.isList.typeIs,?_⟩
 refine wpAny_getItem_list_slice ht.isList hs pl pu .none (by simp) ?_ (by rw [List.size_toArray]<;>omega)
 rw [zH4,<-hlen]
 refine ⟨.ref s.heap.objs.size,_,I.laid (t':=s.toks) (o:=.lst (cutV xs lo hi)) (fun b ob q=>Heap.get?_push_of_some _ q) (Nat.le_refl _) ?_,rfl,q _ (I.hok.fresh (Nat.le_refl _))⟩
 exact ⟨Nat.le_trans (cutV_length xs lo hi) hz,_,0,(r.drop (HT.sIx xs.length 0 lo)).take (HT.sIx xs.length xs.length hi - HT.sIx xs.length 0 lo),Heap.get?_push_size _ rfl⟩
def zFh:V->Bool
 | .non=>true
 | .bl _=>true
 | .int _=>true
 | .str _=>true
 | _=>false
def eqV:V->V->Bool
 | .non,.non=>true
 | .bl a,.bl b=>a==b
 | .bl a,.int b=>(if a then 1 else 0)==b
 | .int a,.bl b=>a==(if b then 1 else 0)
 | .int a,.int b=>a==b
 | .str a,.str b=>a==b
 | _,_=>false
theorem eqAt_V {A:Around} {s:Shared} {y x:V} {u v:Value} (ry:RelV y u) (rx:RelV x v) (fy:zFh y=true) (fx:zFh x=true):SeqAt.EqAt A s u v (eqV y x):=by
 cases y with
 | non =>
  cases ry
  cases x with
  | non=>cases rx;exact SeqAt.EqAt.same _
  | bl b=>cases rx;exact SeqAt.EqAt.none_bool b
  | int b=>obtain ⟨t,rfl⟩:=rx;exact SeqAt.EqAt.none_int b t
  | str b=>obtain ⟨t,rfl⟩:=rx;exact SeqAt.EqAt.none_str b t
  | _=>exact absurd (show false=true from fx) Bool.false_ne_true
 | bl a =>
  cases ry
  cases x with
  | non=>cases rx;exact SeqAt.EqAt.bool_none a
  | bl b=>cases rx;exact SeqAt.EqAt.bool_bool a b
  | int b=>obtain ⟨t,rfl⟩:=rx;exact SeqAt.EqAt.bool_int a b t
  | str b=>obtain ⟨t,rfl⟩:=rx;exact SeqAt.EqAt.bool_str a b t
  | _=>exact absurd (show false=true from fx) Bool.false_ne_true
 | int a =>
  obtain ⟨t',rfl⟩:=ry
  cases x with
  | non=>cases rx;exact SeqAt.EqAt.int_none a t'
  | bl b=>cases rx;exact SeqAt.EqAt.int_bool a t' b
  | int b=>obtain ⟨t,rfl⟩:=rx;exact SeqAt.EqAt.int_int a t' b t
  | str b=>obtain ⟨t,rfl⟩:=rx;exact SeqAt.EqAt.int_str a t' b t
  | _=>exact absurd (show false=true from fx) Bool.false_ne_true
 | str a =>
  obtain ⟨t',rfl⟩:=ry
  cases x with
  | non=>cases rx;exact SeqAt.EqAt.str_none a t'
  | bl b=>cases rx;exact SeqAt.EqAt.str_bool a t' b
  | int b=>obtain ⟨t,rfl⟩:=rx;exact SeqAt.EqAt.str_int a t' b t
  | str b=>obtain ⟨t,rfl⟩:=rx;exact SeqAt.EqAt.str_str a t' b t
  | _=>exact absurd (show false=true from fx) Bool.false_ne_true
 | _=>exact absurd (show false=true from fy) Bool.false_ne_true
def eqU (x:V) (u:Value):Bool:=match u with
 | .none=>eqV .non x
 | .bool b=>eqV (.bl b) x
 | .int i _=>eqV (.int i) x
 | .str z _=>eqV (.str z) x
 | _=>false
theorem eqU_of {x y:V} {u:Value} (r:RelV y u) (f:zFh y=true):eqU x u=eqV y x:=by
 cases y with
 | non=>cases r;rfl
 | bl b=>cases r;rfl
 | int i=>obtain ⟨t,rfl⟩:=r;rfl
 | str z=>obtain ⟨t,rfl⟩:=r;rfl
 | _=>exact absurd (show false=true from f) Bool.false_ne_true
theorem zG7 {x:V}:∀{xs:List V} {us:List Value},Vals xs us->xs.all zFh=true->us.any (eqU x)=xs.any fun y=>eqV y x
 | _,_,.nil,_=>rfl
 | y::xs,u::us,.cons r t,f=>by
  rw [List.all_cons,Bool.and_eq_true] at f
  rw [List.any_cons,List.any_cons,eqU_of r f.1,zG7 t f.2]
theorem zEx {A:Around} {s:Shared} {x:V} {v:Value} (rx:RelV x v) (fx:zFh x=true):∀{xs:List V} {us:List Value},Vals xs us->xs.all zFh=true->∀u∈us,SeqAt.EqAt A s u v (eqU x u)
 | _,_,.nil,_=>fun u hu=>by cases hu
 | y::xs,u::us,.cons r t,f=>fun u' hu=>by
  rw [List.all_cons,Bool.and_eq_true] at f
  rcases List.mem_cons.mp hu with rfl| hu
  ·rw [eqU_of r f.1];exact eqAt_V r rx f.1 fx
  ·exact zEx rx fx t f.2 u' hu
def inV (x:V) (xs:List V):Bool:=xs.any fun y=>eqV y x
def rIn (K:PySem.W.Frag) (neg:Bool):R2:=fun x y H Q=>∃p xs,y= .ref p/\(SqL K H p xs\/SqT K H p xs)/\zFh x=true/\xs.all zFh=true/\Q (.bl (if neg then !inV x xs else inV x xs)) H
theorem zGr:OpR X (compareOp .In) (rIn X.K false):=by
 intro pins s σ H x y v u Q I rx ry h
 obtain ⟨p,xs,rfl,hq,fx,fs,q⟩:=h
 cases ry
 rcases hq with hq| hq
 ·obtain ⟨its,r,pl,hz⟩:=I.list hq
  refine SeqAt.in_listAt (eqU x) pl.isList (fun w hw=>zEx rx fx r fs w (by simpa using hw)) ⟨.bl _,H,I,rfl,?_⟩
  rw [show its.toArray.any (eqU x)=its.any (eqU x) by simp,zG7 r fs]
  exact q
 ·obtain ⟨its,r,pl,hz⟩:=I.tuple hq
  refine SeqAt.in_tupleAt (eqU x) pl (fun w hw=>zEx rx fx r fs w (by simpa using hw)) ⟨.bl _,H,I,rfl,?_⟩
  rw [show its.toArray.any (eqU x)=its.any (eqU x) by simp,zG7 r fs]
  exact q
theorem zDm:OpR X (compareOp .NotIn) (rIn X.K true):=by
 intro pins s σ H x y v u Q I rx ry h
 obtain ⟨p,xs,rfl,hq,fx,fs,q⟩:=h
 cases ry
 rcases hq with hq| hq
 ·obtain ⟨its,r,pl,hz⟩:=I.list hq
  refine SeqAt.notIn_listAt (eqU x) pl.isList (fun w hw=>zEx rx fx r fs w (by simpa using hw)) ⟨.bl _,H,I,rfl,?_⟩
  rw [show its.toArray.any (eqU x)=its.any (eqU x) by simp,zG7 r fs]
  exact q
 ·obtain ⟨its,r,pl,hz⟩:=I.tuple hq
  refine SeqAt.notIn_tupleAt (eqU x) pl (fun w hw=>zEx rx fx r fs w (by simpa using hw)) ⟨.bl _,H,I,rfl,?_⟩
  rw [show its.toArray.any (eqU x)=its.any (eqU x) by simp,zG7 r fs]
  exact q
theorem zAo:zDe X (.builtin "len") (fun xs H Q=>∃p ys,xs=[.ref p]/\(SqL X.K H p ys\/SqT X.K H p ys)/\Q (.int ys.length) H):=by
 intro pins s σ H xs us Q I r h
 obtain ⟨p,ys,rfl,hq,q⟩:=h
 obtain ⟨u,rfl,rx⟩:=vals1 r
 cases rx
 have hn:=zHt
 rcases hq with hq| hq
 ·obtain ⟨its,r',pl,hz⟩:=I.list hq
  have hlen:=r'.length
  exact Calls.call_len_list pl.isList (by simp only [List.size_toArray]<;>omega) ⟨.int ys.length,H,I.tok _,⟨s.toks+1,by rw [List.size_toArray,hlen]⟩,q⟩
 ·obtain ⟨its,r',pl,hz⟩:=I.tuple hq
  have hlen:=r'.length
  exact len_tuple pl (by simp only [List.size_toArray]<;>omega) ⟨.int ys.length,H,I.tok _,⟨s.toks+1,by rw [List.size_toArray,hlen]⟩,q⟩
theorem call_len_str:zDe X (.builtin "len") (fun xs H Q=>∃z,xs=[.str z]/\z.length<=sizeLine/\Q (.int z.length) H):=by
 intro pins s σ H xs us Q I r h
 obtain ⟨z,rfl,hz,q⟩:=h
 obtain ⟨u,rfl,t,rfl⟩:=vals1 r
 have hn:=zHt
 exact len_str (by omega) ⟨.int z.length,H,I.tok _,⟨_,rfl⟩,q⟩
theorem zB7:zDe X (.type "list") (fun xs H Q=>∃p ys,xs=[.ref p]/\(SqL X.K H p ys\/SqT X.K H p ys)/\∀l,H l=none->Q (.ref l) (upd H l (.lst ys))):=by
 intro pins s σ H xs us Q I r h
 obtain ⟨p,ys,rfl,hq,q⟩:=h
 obtain ⟨u,rfl,rx⟩:=vals1 r
 cases rx
 have fin:∀(its:List Value),Vals ys its->ys.length<=sizeLine->∀(h':Heap) (c':Nat),(∀b o',s.heap.get? b=some o'->h'.get? b=some o') ->
   h'.get? s.heap.objs.size=some {cls:=.type "list",dict:=none,data:=.seq its.toArray c',slots:=#[]}->EP X pins σ Q (.ref s.heap.objs.size) {s with heap:=h'}:=fun its r' hz h' c' kp e =>
  ⟨.ref s.heap.objs.size,_,I.laid (t':=s.toks) kp (Nat.le_refl _) (show zA8 X.prog X.w _ h' _ (.lst ys) from ⟨hz,its,c',r',e⟩),rfl,q _ (I.hok.fresh (Nat.le_refl _))⟩
 rcases hq with hq| hq
 ·obtain ⟨its,r',pl,hz⟩:=I.list hq
  have hlen:=r'.length
  obtain ⟨o,ho,hc,n,hd⟩:=pl.isList
  exact call_list_seq p (.inl rfl) ho hc hd (fun h' c' kp e=>fin its r' hz h' c' kp e) (by simp only [List.size_toArray]<;>omega)
 ·obtain ⟨its,r',pl,hz⟩:=I.tuple hq
  have hlen:=r'.length
  obtain ⟨o,ho,hc,n,hd⟩:=pl
  exact call_list_seq p (.inr rfl) ho hc hd (fun h' c' kp e=>fin its r' hz h' c' kp e) (by simp only [List.size_toArray]<;>omega)
theorem zBy:zDe X (.type "tuple") (fun xs H Q=>∃p ys,xs=[.ref p]/\((SqL X.K H p ys/\∀l,H l=none->Q (.ref l) (upd H l (.tup ys)))\/(SqT X.K H p ys/\Q (.ref p) H))):=by
 intro pins s σ H xs us Q I r h
 obtain ⟨p,ys,rfl,h⟩:=h
 obtain ⟨u,rfl,rx⟩:=vals1 r
 cases rx
 rcases h with ⟨hq,q⟩| ⟨hq,q⟩
 ·obtain ⟨its,r',pl,hz⟩:=I.list hq
  have hlen:=r'.length
  refine call_tuple_list pl.isList (fun h' kp=>?_) (by simp only [List.size_toArray]<;>omega)
  have I1:Inv X pins σ H {s with heap:=h'}:=I.kept (t':=s.toks) kp
  have I2:Inv X pins σ (upd H h'.objs.size (.tup ys)) {s with heap:=h'.push {cls:=.type "tuple",data:=.seq its.toArray}} :=
   I1.laid (t':=s.toks) (fun b o e=>Heap.get?_push_of_some _ e) (Nat.le_refl _) (show zA8 X.prog X.w _ _ _ (.tup ys) from ⟨hz,its,r',IsTup.new _ _⟩)
  exact ⟨.ref h'.objs.size,_,I2,rfl,q _ (I1.hok.fresh (Nat.le_refl _))⟩
 ·obtain ⟨its,r',pl,hz⟩:=I.tuple hq
  exact call_tuple_same pl ⟨.ref p,H,I,rfl,q⟩
def tyV (K:PySem.W.Frag) (T:String) (x:V) (H:Hp):Prop:=match x with
 | .str _=>T= "str"
 | .int _=>T= "int"
 | .ref p=>(T= "list" /\∃xs,SqL K H p xs)\/(T= "tuple" /\∃o,K.lookup p=some o/\o.cls= .type "tuple" /\o.dict=none) \/
   (T= "dict" /\((∃kvs,H p=some (.dK kvs))\/∃kvs,H p=some (.dT kvs)))\/(T= "set" /\∃S n,H p=some (.set S n))
 | _=>False
theorem tyV_is {pins:List (Addr×Obj)} {σ:St} {H:Hp} {s:Shared} {T:String} {x:V} {v:Value} (I:Inv X pins σ H s) (r:RelV x v) (ty:tyV X.K T x H) :
  s.TypeIs v T/\∀a,v= .ref a->∃ob,s.heap.get? a=some ob/\ob.dict=none:=by
 cases x with
 | str z =>
  obtain ⟨t,rfl⟩:=r
  cases (show T= "str" from ty)
  exact ⟨typeIs_str s z t,fun _ e=>nomatch e⟩
 | int i =>
  obtain ⟨t,rfl⟩:=r
  cases (show T= "int" from ty)
  exact ⟨typeIs_int s i t,fun _ e=>nomatch e⟩
 | ref p =>
  cases r
  rcases ty with ⟨rfl,xs,hq⟩| ⟨rfl,o,hk,hc,hd⟩| ⟨rfl,hk⟩| ⟨rfl,S,n,hk⟩
  ·obtain ⟨its,_,pl,_⟩:=I.list hq
   refine ⟨pl.isList.typeIs,fun a e=>?_⟩
   cases e
   obtain ⟨o,n,e,c,hd,_⟩:=pl
   exact ⟨o,e,hd⟩
  ·refine ⟨⟨o,I.kIn p o hk,hc⟩,fun a e=>?_⟩
   cases e
   exact ⟨o,I.kIn _ o hk,hd⟩
  ·have z:∃o,s.heap.get? p=some o/\o.ExactDict:=by
    rcases hk with ⟨kvs,hk⟩| ⟨kvs,hk⟩
    ·obtain ⟨_,_,_,_,o,_,_,e,ex,_⟩:=I.hok p _ hk
     exact ⟨o,e,ex⟩
    ·obtain ⟨_,_,_,_,o,_,_,e,ex,_⟩:=I.hok p _ hk
     exact ⟨o,e,ex⟩
   obtain ⟨o,e,ex⟩:=z
   refine ⟨⟨o,e,ex.1⟩,fun a e2=>?_⟩
   cases e2
   exact ⟨o,e,ex.2.1⟩
  ·obtain ⟨o,_,_,_,e,ex,_⟩:=I.hok p _ hk
   refine ⟨⟨o,e,ex.1⟩,fun a e2=>?_⟩
   cases e2
   exact ⟨o,e,ex.2.1⟩
 | _=>exact False.elim ty
def tBM0 (K:PySem.W.Frag) (T:String) (r:V->List V->Hp->VK->Prop) (to:TE):TE:=fun σ H Q=>to σ H fun x H1=>tyV K T x H1/\r x [] H1 Q
def tBM (K:PySem.W.Frag) (T:String) (r:V->List V->Hp->VK->Prop) (to:TE) (t:TA):TE:=fun σ H Q=>to σ H fun x H1=>tyV K T x H1/\t σ H1 fun xs H2=>r x xs H2 Q
variable {o e:Expr} {es:List Expr} {to:TE} {t:TA} {name:Str} {apos cpos:Pos} {T id:String} {r:V->List V->Hp->VK->Prop}
theorem pe_bm0 (pa:PlainAttrs T) (slot:Slot T name id) (hty:typeOf (.builtin id)=pure (.type "method_descriptor")) (hm:MtR X id r) (ho:PE X o to)
  (hbase:attributeBase o name X.env (eval o X.env)=eval o X.env:=by rfl) (hline:(apos.endLine==cpos.line)=true:=by rfl):PE X (.Call (.Attribute o name apos) [] [] cpos) (tBM0 X.K T r to):=by
 intro pins s σ H Q I h
 refine wpAny_Call_method0_late hbase hline (thn (ho pins s σ H _ I h) fun v s1 ⟨x,H1,I1,r1,ty,q1⟩=>?_)
 obtain ⟨h1,h2⟩:=tyV_is I1 r1 ty
 exact ⟨T,id,pa,slot,hty,h1,h2,Calls.callWith_builtin rfl (PySem.evalArgs_none (hm pins s1 σ H1 x [] v [] Q I1 r1 .nil q1))⟩
theorem zEq (pa:PlainAttrs T) (slot:Slot T name id) (hty:typeOf (.builtin id)=pure (.type "method_descriptor")) (hm:MtR X id r) (ho:PE X o to) (ha:PA X (e::es) t)
  (hbase:attributeBase o name X.env (eval o X.env)=eval o X.env:=by rfl)
  (hfew:((backTo cpos (starEach (e::es) X.env)).all (fun x=>!x.1)&&(backToKw cpos (keywordEach [] X.env)).all (fun x=>x.1.isSome)
   &&decide ((e::es).length+([]:List Keyword).length+(if ([]:List Keyword).isEmpty then 0 else 1)<30))=true:=by rfl)
  (hline:(apos.endLine==cpos.line)=true:=by rfl) (hs:starEach (e::es) X.env=(false,eval e X.env)::starEach es X.env:=by rfl) (hplain:(backTo cpos (starEach es X.env)).any (·.1)=false:=by rfl) :
  PE X (.Call (.Attribute o name apos) (e::es) [] cpos) (tBM X.K T r to t):=by
 intro pins s σ H Q I h
 refine wpAny_Call_method_late hbase hfew hline rfl (thn (ho pins s σ H _ I h) fun v s1 ⟨x,H1,I1,r1,ty,q1⟩=>?_)
 obtain ⟨h1,h2⟩:=tyV_is I1 r1 ty
 refine ⟨T,id,pa,slot,hty,h1,h2,?_⟩
 have hA:=ha cpos pins s1 σ H1 _ I1 q1
 rw [hs] at hA ⊢
 refine Calls.callWith_builtin (by show (false||(backTo cpos (starEach es X.env)).any (·.1))=false;rw [hplain]<;>rfl) (Calls.evalArgs_plain ?_)
 exact thn hA fun us s2 ⟨vs,H2,I2,r2,q2⟩=>hm pins s2 σ H2 x vs v us Q I2 r1 r2 q2
end
def MtM (X:Cx) (id:String) (r:V->List V->Hp->VK->Prop):Prop :=
 ∀(pins:List (Addr×Obj)) (s:Shared) (σ:St) (H:Hp) (x:V) (xs:List V) (v:Value) (us:List Value) (Q:VK),Inv X pins σ H s->RelV x v->Vals xs us->r x xs H Q ->
  wpAny (model X.prog X.w) X.A (call (.builtin id) (v::us)) (EP X pins σ Q) X.xe s
theorem Vals.one:∀{x:V} {us:List Value},Vals [x] us->∃u,us=[u]/\RelV x u
 | _,_,.cons r .nil=>⟨_,rfl,r⟩
theorem Vals.two:∀{x y:V} {us:List Value},Vals [x,y] us->∃u v,us=[u,v]/\RelV x u/\RelV y v
 | _,_,_,.cons r (.cons q .nil)=>⟨_,_,rfl,r,q⟩
theorem Vals.zero:∀{us:List Value},Vals [] us->us=[]
 | _,.nil=>rfl
theorem Vals.dropLast {xs:List V} {us:List Value} (h:Vals xs us):Vals xs.dropLast us.dropLast:=by
 induction h with
 | nil=>exact .nil
 | cons r t ih =>
  cases t with
  | nil=>exact .nil
  | cons q t'=>exact .cons r ih
theorem Vals.rep {xs:List V} {us:List Value} (h:Vals xs us):∀k:Nat,Vals (List.replicate k xs).flatten (List.replicate k us).flatten
 | 0=>.nil
 | k+1=>by
  rw [List.replicate_succ,List.replicate_succ,List.flatten_cons,List.flatten_cons]
  exact Vals.append h (Vals.rep h k)
theorem erase_last {α:Type} (l:List α):l.eraseIdx (l.length - 1)=l.dropLast:=by
 induction l with
 | nil=>rfl
 | cons a r ih =>
  cases r with
  | nil=>rfl
  | cons b r =>
   have e:(a::b::r).length - 1=((b::r).length - 1)+1:=by
    have h1:(a::b::r).length=r.length+2:=rfl
    have h2:(b::r).length=r.length+1:=rfl
    omega
   rw [e,List.eraseIdx_cons_succ,ih]
   all_goals rfl
theorem foldl_rep (its:List Value):∀(k:Nat) (acc:List Value),
  List.foldl (fun x1 x2=>x1++x2) acc.toArray (List.replicate k its.toArray)=(acc++(List.replicate k its).flatten).toArray
 | 0,acc=>by simp
 | k+1,acc=>by
  have e:acc.toArray++its.toArray=(acc++its).toArray:=by simp
  have e2:(acc++its)++(List.replicate k its).flatten=acc++(List.replicate (k+1) its).flatten:=by
   rw [List.replicate_succ,List.flatten_cons,List.append_assoc]
  rw [<-e2,<-foldl_rep its k (acc++its),<-e,List.replicate_succ,List.foldl_cons]
section
variable {X:Cx} {pins:List (Addr×Obj)} {σ:St} {H:Hp} {s:Shared} {l b:Addr} {xs ys zs:List V}
theorem Inv.lset {its its':List Value} {n:Nat} {f:Array Value->Array Value} {t':Nat} (I:Inv X pins σ H s) (hH:H l=some (.lst xs))
  (e:s.heap.get? l=some {cls:=.type "list",data:=.seq its.toArray n}) (hf:f its.toArray=its'.toArray) (hv:Vals ys its') (hz:ys.length<=sizeLine) :
  Inv X pins σ (upd H l (.lst ys)) {s with heap:=s.heap.update l (Obj.mapSeq f),toks:=t'}:=by
 have q:=PySem.IsL.update e f
 rw [hf] at q
 refine I.write (x:=l) (e:=l) (by rw [hH];exact trivial) (.inl rfl) (fun b' u hb hu=>(Heap.get?_update_other s.heap (Obj.mapSeq f) (Ne.symm hb)).trans hu) ⟨_,q⟩ ?_
 exact ⟨hz,its',_,hv,q⟩
theorem Inv.lnew {its:List Value} {t':Nat} (I:Inv X pins σ H s) (hv:Vals ys its) (hz:ys.length<=sizeLine) :
  Inv X pins σ (upd H s.heap.objs.size (.lst ys)) {s with heap:=s.heap.push {cls:=.type "list",data:=.seq its.toArray},toks:=t'} :=
 I.laid (fun _ _ q=>Heap.get?_push_of_some _ q) (Nat.le_refl _) ⟨hz,its,0,hv,Heap.get?_push_size _ rfl⟩
theorem Inv.fresh (I:Inv X pins σ H s):H s.heap.objs.size=none:=I.hok.fresh (Nat.le_refl _)
theorem Inv.lstM (I:Inv X pins σ H s) (hH:H l=some (.lst xs)):xs.length<=sizeLine/\∃(its:List Value) (n:Nat),Vals xs its/\xs.length=its.length/\s.heap.get? l=some {cls:=.type "list",data:=.seq its.toArray n}:=by
 obtain ⟨z,its,n,r,e⟩:=I.hok l _ hH
 exact ⟨z,its,n,r,r.length,e⟩
theorem notLongL {n:Nat} (h:n<=sizeLine):Builtin.List.listTooLong n=false:=by
 unfold Builtin.List.listTooLong
 exact decide_eq_false (by omega)
end
section
variable {X:Cx}
def rAppend:V->List V->Hp->VK->Prop:=fun x vs H Q=>∃l xs y,x= .ref l/\vs=[y]/\H l=some (.lst xs)/\xs.length<sizeLine/\Q .non (upd H l (.lst (xs++[y])))
theorem zB5:MtM X "list.append" rAppend:=by
 intro pins s σ H x vs v us Q I rx rv h
 obtain ⟨l,xs,y,rfl,rfl,hH,hz,q⟩:=h
 cases rx
 obtain ⟨u,rfl,ru⟩:=rv.one
 obtain ⟨z,its,n,r,hl,e⟩:=I.lstM hH
 refine call_meets F.slot_list_append ⟨_,e,rfl⟩ F.entry_list_append (F.args_list_append_2 _ _) (PySem.list_append l its.toArray n u (by rw [List.size_toArray];omega)) ⟨e,?_⟩
 refine ⟨.non,_,I.lset (its':=its++[u]) hH e (by simp) (r.append (.cons ru .nil)) ?_,rfl,q⟩
 rw [List.length_append,List.length_singleton]
 omega
def rExtend:V->List V->Hp->VK->Prop:=fun x vs H Q=>∃l b xs zs,x= .ref l/\vs=[.ref b]/\H l=some (.lst xs)/\H b=some (.lst zs)/\xs.length+zs.length<=sizeLine/\Q .non (upd H l (.lst (xs++zs)))
theorem zEu:MtM X "list.extend" rExtend:=by
 intro pins s σ H x vs v us Q I rx rv h
 obtain ⟨l,b,xs,zs,rfl,rfl,hH,hB,hz,q⟩:=h
 cases rx
 obtain ⟨u,rfl,ru⟩:=rv.one
 cases ru
 obtain ⟨z,its,n,r,hl,e⟩:=I.lstM hH
 obtain ⟨z2,its2,n2,r2,hl2,e2⟩:=I.lstM hB
 have hsz:its.toArray.size+its2.toArray.size<=sizeLine:=by rw [List.size_toArray,List.size_toArray];omega
 have hlong:¬(!its.toArray.isEmpty&&Builtin.List.listTooLong (its.toArray.size+its2.toArray.size))=true:=by
  rw [notLongL hsz,Bool.and_false]
  exact Bool.false_ne_true
 refine call_meets F.slot_list_extend ⟨_,e,rfl⟩ F.entry_list_extend (F.args_list_extend_2 _ _)
  (AutoSeq1.list_extend_list_list_0 l its.toArray n b its2.toArray n2 hlong (by rw [List.size_toArray];omega) (by omega)) ⟨e,e2,?_⟩
 refine ⟨.non,_,I.lset (its':=its++its2) hH e (by simp) (r.append r2) ?_,rfl,q⟩
 rw [List.length_append]
 omega
def rPop:V->List V->Hp->VK->Prop:=fun x vs H Q=>∃l xs y,x= .ref l/\vs=[]/\H l=some (.lst xs)/\xs[xs.length - 1]?=some y/\Q y (upd H l (.lst xs.dropLast))
theorem mt_pop:MtM X "list.pop" rPop:=by
 intro pins s σ H x vs v us Q I rx rv h
 obtain ⟨l,xs,y,rfl,rfl,hH,hy,q⟩:=h
 cases rx
 have hus:=rv.zero
 subst hus
 obtain ⟨z,its,n,r,hl,e⟩:=I.lstM hH
 obtain ⟨u,hu,ru⟩:=r.get hy
 have hy':its.toArray[its.toArray.size - 1]?=some u:=by
  show its.toArray[its.length - 1]?=some u
  rw [<-Array.getElem?_toList,<-hl]
  exact hu
 refine call_meets F.slot_list_pop ⟨_,e,rfl⟩ F.entry_list_pop (F.args_list_pop_1 _) (MeetsSeq.list_pop_last l its.toArray n u hy' (by rw [List.size_toArray];omega)) ⟨e,?_⟩
 refine ⟨y,_,I.lset (its':=its.dropLast) hH e ?_ r.dropLast ?_,ru,q⟩
 ·show its.toArray.eraseIdxIfInBounds (its.toArray.size - 1)=its.dropLast.toArray
  rw [List.size_toArray,List.eraseIdxIfInBounds_toArray,erase_last]
 ·rw [List.length_dropLast]
  omega
def rCat:R2:=fun x y H Q=>∃l b xs zs,x= .ref l/\y= .ref b/\H l=some (.lst xs)/\H b=some (.lst zs)/\xs.length+zs.length<=sizeLine/\∀p,H p=none->Q (.ref p) (upd H p (.lst (xs++zs)))
theorem op_cat:OpR X (binaryOp .Add) rCat:=by
 intro pins s σ H x y v u Q I rx ry h
 obtain ⟨l,b,xs,zs,rfl,rfl,hH,hB,hz,q⟩:=h
 cases rx
 cases ry
 obtain ⟨z,its,n,r,hl,e⟩:=I.lstM hH
 obtain ⟨z2,its2,n2,r2,hl2,e2⟩:=I.lstM hB
 refine PySem.P.add_list e e2 ?_ (by rw [List.size_toArray,List.size_toArray];omega)
 have ea:its.toArray++its2.toArray=(its++its2).toArray:=by simp
 rw [ea]
 exact ⟨.ref _,_,I.lnew (t':=s.toks) (r.append r2) (by rw [List.length_append];omega),rfl,q _ I.fresh⟩
def rRep:R2:=fun x y H Q=>∃l k xs,x= .ref l/\y= .int k/\H l=some (.lst xs)/\-(2^63)<=k/\k<2^63/\xs.length*k.toNat<=sizeLine /\
 ∀p,H p=none->Q (.ref p) (upd H p (.lst (List.replicate k.toNat xs).flatten))
theorem len_rep {α:Type} (xs:List α) (k:Nat):(List.replicate k xs).flatten.length=k*xs.length:=by
 induction k with
 | zero=>simp
 | succ k ih=>rw [List.replicate_succ,List.flatten_cons,List.length_append,ih,Nat.succ_mul,Nat.add_comm]
theorem op_rep:OpR X (binaryOp .Mult) rRep:=by
 intro pins s σ H x y v u Q I rx ry h
 obtain ⟨l,k,xs,rfl,rfl,hH,h1,h2,hz,q⟩:=h
 cases rx
 obtain ⟨t,rfl⟩:=ry
 obtain ⟨z,its,n,r,hl,e⟩:=I.lstM hH
 have hlen:its.toArray.size*k.toNat<=sizeLine:=by rw [List.size_toArray,<-hl];exact hz
 have hcap:¬its.toArray.size*k.toNat>(2^63 - 1) / 8:=by
  have:(sizeLine:Nat)<=(2^63 - 1) / 8:=by decide
  omega
 have hfit:¬(!Builtin.List.listFitsIndex k)=true:=by
  rw [fitsIndex_both h1 h2]
  exact Bool.false_ne_true
 have hlong:¬Builtin.List.listTooLong (its.toArray.size*k.toNat)=true:=by
  rw [notLongL hlen]
  exact Bool.false_ne_true
 have hnew:List.foldl (fun x1 x2=>x1++x2) #[] (List.replicate (if its.toArray.isEmpty=true then 0 else k.toNat) its.toArray)=(List.replicate k.toNat its).flatten.toArray:=by
  have f0:∀m:Nat,List.foldl (fun x1 x2=>x1++x2) #[] (List.replicate m its.toArray)=(List.replicate m its).flatten.toArray:=fun m=>by
   have:=foldl_rep its m []
   rw [List.nil_append] at this
   exact this
  rw [f0]
  cases its with
  | nil=>simp
  | cons a r'=>rw [if_neg (by simp)]
 refine wpAny_binaryOp_repeat_ref (T:= "list") (U:= "int") (by decide) ⟨_,e,rfl⟩ (fun s'=>typeIs_int s' k t) noFill_list_mul F.fills_int_mul F.slot_int_rmul repeat_list F.slot_int_index.lookup
  (call_meets F.slot_int_rmul (typeIs_int s k t) F.entry_int_rmul (F.args_int_rmul_2 _ _) (int___rmul___int_list k t l its.toArray n)
   ⟨e,rfl,⟨_,e,rfl⟩,call_meets F.slot_list_mul ⟨_,e,rfl⟩ F.entry_list_mul (F.args_list_mul_2 _ _) (AutoListH.list___mul___list_int_3 l its.toArray n k t hfit hcap hlong) ⟨e,?_⟩⟩)
 rw [hnew]
 exact ⟨.ref _,_,I.lnew (t':=s.toks) (r.rep k.toNat) (by rw [len_rep,Nat.mul_comm];exact hz),rfl,q _ I.fresh⟩
end
section
variable {prog:Program} {w:World} {A:Around} {E:Value->Shared->Prop} {s:Shared}
set_option maxRecDepth 100000 in
end
end L2
namespace Att
open PySem PySem.W PySem.Calls PyProof.Rows
theorem zGz {P:Params} {h:Heap}:∀(ns:List Int) (vs:List Value),WellAll P h vs (ns.map WData.int)->IntsAre vs ns:=by
 intro ns
 induction ns with
 | nil =>
  intro vs w
  rw [List.map_nil] at w
  cases w
  exact .nil
 | cons n ns ih =>
  intro vs w
  rw [List.map_cons] at w
  cases w with
  | cons a b =>
   cases a
   exact .cons _ _ (ih _ b)
theorem script_of {l:OpenLaw} {n:Nat} (hn:l.most=some n) {P:Params} {h:Heap} {args:List WData} {vals:List Value}
  (hpre:l.row.toRowW.claim.pre args=true) (hwl:WellAll P h vals args) :
  ∃a vs ns,vals=[Value.ref a]/\args=[WData.list (ns.map WData.int)]/\h.get? a=some {cls:=.type "list",data:=.seq vs.toArray}/\IntsAre vs ns/\ns.length<=n:=by
 have hsh:WShape.hasAll [] args [.list .int]=true:=(pre_splitW hpre).1
 have hc:l.pre.holds [] {args:=args}=true:=(pre_splitW hpre).2
 obtain ⟨d,r,rfl,h1,h2⟩:=hasAllW_cons hsh
 obtain rfl:=hasAllW_nil h2
 obtain ⟨xs,rfl,h3⟩:=hasW_list h1
 obtain ⟨ns,rfl⟩:=items_int h3
 have hlen:ns.length<=n:=by
  unfold OpenLaw.pre at hc
  have h4:(WTm.not (.lt (.lit (.int (n:Int))) (.len (.arg 0)))).holds [] {args:=[.list (ns.map .int)]}=true:=by
   have h4:=(holds_andW hc).1
   rw [hn] at h4
   exact h4
  have h5:=condW_of h4 (w_not (w_lt w_lit (w_len_list (w_arg rfl))))
  rw [List.length_map] at h5
  refine Nat.le_of_not_lt fun q=>?_
  have q':(n:Int)<((ns.length:Nat):Int):=by omega
  first
   | (rw [decide_eq_true q'] at h5;exact absurd h5 (by decide))
   | (simp at h5;omega)
 cases hwl with
 | cons w1 w2 =>
  cases w2
  cases w1 with
  | list ho hall=>exact ⟨_,_,ns,rfl,rfl,ho,zGz ns _ hall,hlen⟩
theorem post_true (l:OpenLaw) (args:List WData):l.row.toRowW.claim.post args (.bool true) args=true :=
 postW_of (r:=l.row.toRowW) (X:=(true==true))
  (show WShape.has [] (.bool true) .bool=true by first| rfl| decide| simp [WShape.has,WShape.arms,WShape.armsAll])
  (show (WTm.eq .res (.lit (.bool true))).value [] {args:=args,res:=some (.bool true),after:=args}=some (.bool (true==true)) from w_eq_bool (w_res rfl) w_lit) rfl
theorem attach_call {l:OpenLaw} {n:Nat} {q:Program} {loose:List Str} {XP:(Str->Option Value)->Heap->Prop} {YP:World->Heap->Prop} {d:DefRec}
  (hn:l.most=some n) (hdf:d.params.defaults=[])
  (call:∀(w:World) (s₀ s₁:Shared) (mg mb:Str->Option Value) (fa:Addr) (o:Obj) (pm cd doc:Value) (a:Addr) (vs:List Value) (ns:List Int),
   Ground q loose [] XP w s₀ mg mb s₁.heap->YP w s₁.heap ->
   s₁.heap.get? fa=some o->o.data= .func (docDef d.name d.params d.body d.scope pm cd doc)->s₁.heap.CodeRec cd d.name->mg d.name=some (.ref fa) ->
   s₁.heap.get? a=some {cls:=.type "list",data:=.seq vs.toArray}->IntsAre vs ns->ns.length<=n->s₁.gens=#[] ->
   codeAny (model l.prog w) callerA (.call (.ref fa) ⟨[.ref a],[]⟩) (fun r s'=>r= .ok (.ret (.bool true))/\OldK s₁.heap s'.heap/\s'.os=s₁.os/\AllBare s'.gens) s₁) :
  WalkO q loose XP YP l.row.toRowW d [] (fun f vs=>PySem.call f vs):=by
 intro w s₀ s₁ mg mb G Y fa o pm cd doc dV kV ho hd hcd hD hmg hg args vals as hpre hlay hrd hwl hlo
 obtain rfl:dV= .none:=Dflts.none hD hdf
 obtain rfl:kV= .none:=Dflts.noKw hD
 obtain ⟨a,vs,ns,rfl,rfl,hobj,hints,hlen⟩:=script_of hn hpre hwl
 refine enter_call (codeAny_mono (call w s₀ s₁ mg mb fa o pm cd doc a vs ns G Y ho (fd_plain hd) hcd hmg hobj hints hlen hg) fun r s' hq=>?_)
 obtain ⟨rfl,h2,h3,h4⟩:=hq
 exact ⟨.inl ⟨.bool true,.bool true,[],rfl,fun _=>rfl,.bool true,post_true l _,fun _=>⟨List.Pairwise.nil,fun _ hm=>(nomatch hm)⟩⟩,h2,h3,h4⟩
end Att
namespace L2
open PySem PySem.Spec PyProof.Rows
theorem vals_ints:∀{vs:List Value} {ns:List Int},IntsAre vs ns->Vals (ns.map V.int) vs
 | _,_,.nil=>.nil
 | _,_,.cons n t h=>.cons ⟨t,rfl⟩ (vals_ints h)
def Only (H:Hp):Prop:=∀b,H b=none\/∃o xs,H b=some (.frz o (.lst xs))
theorem law_call {P:Program} {w:World} {K:PySem.W.Frag} {mg mb:Str->Option Value} {CX:CXT} {k:Nat} {fa a:Addr} {fd:FuncData} {x:Str} {sp:Sp} {s₁:Shared} {vs:List Value} {ns:List Int}
  (KX:K.In s₁.heap) (hns:s₁.heap.Ns mainGlobals mg) (hb:s₁.heap.Ns builtinsNs mb) (hbb:∀x:Str,x≠ "__name__" ->mb x=bootBuiltins x) (hlim:s₁.heap.NoLimit) (hg:s₁.gens=#[])
  (ha:s₁.heap.get? a=some {cls:=.type "list",data:=.seq vs.toArray}) (hi:IntsAre vs ns) (hl:ns.length<=sizeLine) (hr:Room k callerA)
  (F:∀base:Heap,K.In base->base.Ns mainGlobals mg->FnOk P w K mg base CX k fa fd [x] sp) (hbind:∀(s:Shared) (u:Value),BindsTo s fd ⟨[u],[]⟩ [(x,u)])
  (hsp:∀H:Hp,Only H->SqL K H a (ns.map V.int)->sp [.ref a] H (fun v _=>v= .bl true) fun _ _ _=>False)
  (hCX:∀H e s',CX [] H s₁ (fun _ _ _=>False) e s'->False) :
  codeAny (model P w) callerA (.call (.ref fa) ⟨[.ref a],[]⟩) (fun r s'=>r= .ok (.ret (.bool true))/\OldK s₁.heap s'.heap/\s'.os=s₁.os/\AllBare s'.gens) s₁:=by
 have rv:=vals_ints hi
 have lenV:=hi.length
 have core:∀H:Hp,Only H->SqL K H a (ns.map V.int)->HOk P w H s₁.heap->(∀b,H b≠none->b=a)->(H a≠none->K.lookup a=none) ->
   codeAny (model P w) callerA (.call (.ref fa) ⟨[.ref a],[]⟩) (fun r s'=>r= .ok (.ret (.bool true))/\OldK s₁.heap s'.heap/\s'.os=s₁.os/\AllBare s'.gens) s₁:=by
  intro H hO hS hok hA hK
  have base_of:∀{b:Addr} {o:Obj},s₁.heap.get? b=some o->H b=none->(hidT s₁.heap H).get? b=some o:=fun e n=>hidT_get e n
  have noA:∀{b:Addr} {o:Obj} {es:Array DictEntry} {ep:Nat},s₁.heap.get? b=some o->o.data= .dict es ep->H b=none:=fun {b o es ep} e d=>by
   cases q:H b with
   | none=>rfl
   | some u =>
    have e':b=a:=hA b (by rw [q];simp)
    subst e'
    rw [ha] at e;cases e
    have d':Data.seq vs.toArray _=Data.dict es ep:=d
    cases d'
  have nsK:∀{b:Addr} {m:Str->Option Value},s₁.heap.Ns b m->(hidT s₁.heap H).Ns b m:=fun {b m} ⟨o,es,ep,e,d,r⟩=>⟨o,es,ep,base_of e (noA e d),d,r⟩
  have hKb:K.In (hidT s₁.heap H):=fun b o e=>base_of (KX b o e) (by
   cases q:H b with
   | none=>rfl
   | some u =>
    have e':b=a:=hA b (by rw [q];simp)
    subst e'
    rw [hK (by rw [q];simp)] at e;cases e)
  have hM:Mod K mg (hidT s₁.heap H):=⟨hKb,nsK hns,⟨mb,nsK hb,hbb⟩,let ⟨mc,h1,h2⟩:=hlim;⟨mc,nsK h1,h2⟩⟩
  have e0:Env0 P w K mg (hidT s₁.heap H) callerA [] s₁ H:=⟨rfl,hM,fun b o e=>of_hidT e,Nat.le_of_eq (hidT_size _ _),trivial,fun b hb=>absurd (show b∈([]:List Addr) from hb) (by simp),hok,.of_eq hg⟩
  refine codeAny_mono ((F _ hKb (nsK hns)).run callerA [] s₁ H ⟨[.ref a],[]⟩ [.ref a] [.ref a] _ _ hr e0 (hbind s₁ (.ref a)) (.cons rfl .nil) (hsp H hO hS)) fun r s' h=>?_
  cases r with
  | error e=>exact (hCX H e s' h).elim
  | ok fl =>
   cases fl with
   | next=>exact False.elim h
   | brk=>exact False.elim h
   | cont=>exact False.elim h
   | ret u =>
    obtain ⟨v,H',os,bare,un,hok',r',q⟩:=h
    have q':v= .bl true:=q
    subst q'
    obtain rfl:u=Value.bool true:=r'
    refine ⟨rfl,OldK.of_keep fun b o e=>?_,os,bare⟩
    cases q:H b with
    | none=>exact un.keep b o e q (by intro z;exact absurd (show b∈([]:List Addr) from z) (by simp)) (by simp)
    | some u =>
     rcases hO b with z| ⟨ob,xs,z⟩
     ·rw [q] at z;cases z
     ·have z2:=un.frzs b ob _ z
      obtain ⟨e1,_⟩:=hok b _ z
      obtain ⟨e2,_⟩:=hok' b _ z2
      rw [e] at e1;cases e1
      exact e2
 cases hk:K.lookup a with
 | some o =>
  have e:=KX a o hk
  rw [ha] at e
  cases e
  refine core (fun _=>none) (fun _=>.inl rfl) (.inr ⟨_,vs.toArray,_,hk,rfl,rfl,rfl,by rw [List.size_toArray,lenV];exact hl,by simpa using rv⟩) (fun b u z=>by have z':(none:Option HO)=some u:=z;cases z') (fun b z=>absurd rfl z) fun z=>absurd rfl z
 | none =>
  refine core (fun b=>if b=a then some (.frz {cls:=.type "list",data:=.seq vs.toArray} (.lst (ns.map V.int))) else none) (fun b=>?_) (.inl (.inr ⟨{cls:=.type "list",data:=.seq vs.toArray},if_pos rfl⟩)) (fun b u z=>?_) (fun b z=>?_) fun _=>hk
  ·by_cases hb:b=a
   ·exact .inr ⟨_,_,if_pos hb⟩
   ·exact .inl (if_neg hb)
  ·by_cases hb:b=a
   ·have z':=(if_pos hb).symm.trans z
    cases z'
    subst hb
    exact ⟨ha,by rw [List.length_map];exact hl,vs,_,rv,ha⟩
   ·have z':=(if_neg hb).symm.trans z
    cases z'
  ·by_cases hb:b=a
   ·exact hb
   ·exact absurd (if_neg hb) z
theorem walk_of {l:PySem.W.OpenLaw} {n k:Nat} {q:Program} {loose:List Str} {XP:(Str->Option Value)->Heap->Prop} {YP:World->Heap->Prop} {d:DefRec} {K:Params->PySem.W.Frag} {CX:World->CXT} {sp:World->Sp} {x:Str}
  (hn:l.most=some n) (hn2:n<=sizeLine) (hdf:d.params.defaults=[]) (hr:Room k callerA)
  (hY:∀(w:World) (h:Heap),YP w h->(K w.params).In h)
  (F:∀(w:World) (mg:Str->Option Value) (fa:Addr) (h:Heap),(K w.params).In h->h.Ns mainGlobals mg->mg d.name=some (.ref fa) ->
   ∃fd:FuncData,(∀(s:Shared) (u:Value),BindsTo s fd ⟨[u],[]⟩ [(x,u)]) /\
    ∀base:Heap,(K w.params).In base->base.Ns mainGlobals mg->FnOk l.prog w (K w.params) mg base (CX w) k fa fd [x] (sp w))
  (hsp:∀(w:World) (H:Hp) (a:Addr) (ns:List Int),ns.length<=n->Only H->SqL (K w.params) H a (ns.map V.int)->sp w [.ref a] H (fun v _=>v= .bl true) fun _ _ _=>False)
  (hCX:∀(w:World) (H:Hp) (s:Shared) (e:Value) (s':Shared),CX w [] H s (fun _ _ _=>False) e s'->False) :
  PySem.W.WalkO q loose XP YP l.row.toRowW d [] (fun f vs=>PySem.call f vs):=by
 refine Att.attach_call hn hdf fun w s₀ s₁ mg mb fa o pm cd doc a vs ns G Y ho hd hcd hmg hobj hints hlen hg=>?_
 have KX:=hY w _ Y
 obtain ⟨fd,hb,hF⟩:=F w mg fa _ KX G.T.g hmg
 exact law_call KX G.T.g G.T.b G.T.builtins G.T.nolimit hg hobj hints (Nat.le_trans hlen hn2) hr hF hb (fun H hO hS=>hsp w H a ns hlen hO hS) fun H e s'=>hCX w H s₁ e s'
def inClass (s:Stmt) (j:Nat):Stmt:=match s with
 | .ClassDef _ _ _ body _ _ _ _ _ _ _=>body.getD j (.Pass ⟨0,0,0,0⟩)
 | _=>.Pass ⟨0,0,0,0⟩
def zCv (s:Stmt):Arguments:=match s with
 | .FunctionDef _ a _ _ _ _ _ _ _ _=>a
 | _=>{posonlyargs:=[],args:=[],vararg:=none,kwonlyargs:=[],kw_defaults:=[],kwarg:=none,defaults:=[]}
def zCm (s:Stmt):List Stmt:=match s with
 | .FunctionDef _ _ b _ _ _ _ _ _ _=>b
 | _=>[]
def zAe (s:Stmt):Scope:=match s with
 | .FunctionDef _ _ _ _ _ _ sc _ _ _=>sc
 | _=>{kind:=.function,names:=[],isGenerator:=false,isCoroutine:=false}
abbrev CX0:CXT:=fun _ _ _ _ _ _=>False
abbrev E0:XK:=fun _ _ _=>False
theorem pass0 {X:Cx}:zG9 CX0 X E0:=fun _ _ _ _ _ _ _ h=>h.elim
structure Fun (K:PySem.W.Frag) (x qual:Str) (st:Stmt) (f:Addr) (fd:FuncData):Prop where
 ex:∃(oc:Value) (od:Option Addr) (kV doc pm:Value) (an:Option Addr) (cdv ct:Value) (osl:Array (Option Value)),
  fd=PySem.W.fnOf x qual (zCv st) (zCm st) (zAe st) .none kV doc pm an cdv ct/\K.lookup f=some ⟨oc,od,.func fd,osl⟩/\PySem.W.codeIn K cdv qual=true
 kp:PySem.W.keepIn K (.ref f)=true
section
variable {P:Program} {w:World} {K:PySem.W.Frag} {mg:Str->Option Value} {base:Heap}
theorem Fun.ok {x qual:Str} {st:Stmt} {f:Addr} {fd:FuncData} {N ps:List Str} {k:Nat} {sp:Sp} (F:Fun K x qual st f fd) (S:FnScope N ps (zAe st)) (len:∀vs H Q E,sp vs H Q E->vs.length=ps.length)
  (hbody:∀(cdv:Value) (A:Around) (outer:List Env) (s:Shared) (H:Hp) (vs:List V) (Q:VK) (E:XK),Room k (A.deeper (envOfC qual (zAe st) s.heap.objs.size f cdv))->sp vs H Q E ->
   ∃t,PSs (cxOf CX0 P w K mg base N qual (zAe st) f cdv A outer s H E).nox (zCm st) t/\t {nx:=fun _ H'=>Q .non H',rt:=Q} (start N vs) H):FnOk P w K mg base CX0 (k+1) f fd ps sp:=by
 obtain ⟨oc,od,kV,doc,pm,an,cdv,ct,osl,rfl,lk,hcd⟩:=F.ex
 refine fn_of lk hcd S len fun A outer s H vs Q E hr hsp=>?_
 obtain ⟨t,h,q⟩:=hbody cdv A outer s H vs Q E hr hsp
 exact ⟨t,h.nox,q⟩
theorem Fun.binds {x qual:Str} {st:Stmt} {f:Addr} {fd:FuncData} {ps:List Str} (F:Fun K x qual st f fd)
  (h:∀(kV doc pm:Value) (an:Option Addr) (cdv ct:Value) (us:List Value),us.length=ps.length->bindArgs (PySem.W.fnOf x qual (zCv st) (zCm st) (zAe st) .none kV doc pm an cdv ct) ⟨us,[]⟩=pure (ps.zip us)):zDf K fd ps []:=by
 obtain ⟨oc,od,kV,doc,pm,an,cdv,ct,osl,rfl,lk,hcd⟩:=F.ex
 exact .all (h kV doc pm an cdv ct)
theorem fun_mk {x qual:Str} {st:Stmt} {f:Addr} {oc:Value} {od an:Option Addr} {osl:Array (Option Value)} {kV doc pm cdv ct:Value} (l:K.lookup f=some ⟨oc,od,.func (PySem.W.fnOf x qual (zCv st) (zCm st) (zAe st) .none kV doc pm an cdv ct),osl⟩)
  (c:PySem.W.codeIn K cdv qual=true) (k:PySem.W.keepIn K (.ref f)=true):Fun K x qual st f (PySem.W.fnOf x qual (zCv st) (zCm st) (zAe st) .none kV doc pm an cdv ct):=⟨⟨oc,od,kV,doc,pm,an,cdv,ct,osl,rfl,l,c⟩,k⟩
end
theorem zEy {A:Around} {k:Nat} (hr:Room k A):A.units+1<cLine:=Nat.lt_of_le_of_lt (Nat.add_le_add_left (by decide:1<=64) _) hr.units
section
variable {X:Cx}
theorem pv (i:Nat) {x:Str} {pos:Pos} (hN:X.N[i]?=some x:=by rfl) (hv:Vis X.env.scope x:=by first| exact Or.inl rfl| exact Or.inr (Or.inl rfl)| exact Or.inr (Or.inr rfl)) (hd:(x==("__debug__" : Str))=false:=by decide)
  (hcd:(x==("__classdict__" : Str))=false:=by decide):PE X (.Name x pos) (tVar i):=pe_var hN hv hd hcd
end
theorem iteF {A B:Prop} (h:B):if false=true then A else B:=by
 rw [if_neg Bool.false_ne_true]
 exact h
theorem iteT {A B:Prop} (h:A):if true=true then A else B:=by
 rw [if_pos rfl]
 exact h
theorem ite2 {c A B:Prop} [Decidable c] (h1:c->A) (h2:¬c->B):if c then A else B:=by
 by_cases h:c
 ·rw [if_pos h]
  exact h1 h
 ·rw [if_neg h]
  exact h2 h
def Same (H H':Hp):Prop:=∀b o,H b=some o->H' b=some o
theorem Same.seq {K:PySem.W.Frag} {H H':Hp} {a:Addr} {xs:List V} (e:Same H H') (h:SqL K H a xs):SqL K H' a xs:=by
 rcases h with (h| ⟨o,h⟩)| h
 ·exact .inl (.inl (e _ _ h))
 ·exact .inl (.inr ⟨o,e _ _ h⟩)
 ·exact .inr h
section
variable {κ:Type} [DecidableEq κ]
def valV (kvs:List (κ×V)) (k:κ):Option V:=(kvs.find? fun kv=>decide (kv.1=k)).map (·.2)
def putK (kvs:List (κ×V)) (k:κ) (v:V):List (κ×V) :=
 if (kvs.any fun kv=>decide (kv.1=k))=true then kvs.map (fun kv=>if kv.1=k then (kv.1,v) else kv) else kvs++[(k,v)]
theorem zA9 {p:κ×V} {r:List (κ×V)} {k:κ} (e:p.1=k):valV (p::r) k=some p.2:=by simp [valV,List.find?_cons,e]
theorem zA3 {p:κ×V} {r:List (κ×V)} {k:κ} (e:¬p.1=k):valV (p::r) k=valV r k:=by simp [valV,List.find?_cons,e]
theorem zDt (k:κ):∀kvs:List (κ×V),(kvs.any fun kv=>decide (kv.1=k))=(valV kvs k).isSome
 | []=>rfl
 | p::r=>by
  rw [List.any_cons]
  by_cases e:p.1=k
  ·simp only [zA9 e,decide_eq_true e,Bool.true_or,Option.isSome_some]
  ·rw [zA3 e,decide_eq_false e,Bool.false_or];exact zDt k r
theorem valV_map (k j:κ) (y:V):∀kvs:List (κ×V),valV (kvs.map fun kv=>if kv.1=k then (kv.1,y) else kv) j=(valV kvs j).map fun x=>if j=k then y else x
 | []=>rfl
 | p::r=>by
  have ih:=valV_map k j y r
  rw [List.map_cons]
  by_cases h:p.1=k
  ·rw [if_pos h]
   by_cases e:p.1=j
   ·rw [zA9 (p:=(p.1,y)) e,zA9 e,Option.map_some,if_pos (e.symm.trans h)]
   ·rw [zA3 (p:=(p.1,y)) e,zA3 e,ih]
  ·rw [if_neg h]
   by_cases e:p.1=j
   ·rw [zA9 (p:=p) e,zA9 e,Option.map_some,if_neg (fun z=>h (e.trans z))]
   ·rw [zA3 (p:=p) e,zA3 e,ih]
theorem valV_snoc (k j:κ) (y:V):∀kvs:List (κ×V),valV kvs k=none->valV (kvs++[(k,y)]) j=if j=k then some y else valV kvs j
 | [],_=>by
  by_cases e:k=j
  ·rw [if_pos e.symm];exact zA9 (p:=(k,y)) e
  ·rw [if_neg (fun z=>e z.symm)];exact zA3 (p:=(k,y)) e
 | p::r,hn=>by
  rw [List.cons_append]
  have hk:¬p.1=k:=fun z=>by rw [zA9 z] at hn;cases hn
  rw [zA3 hk] at hn
  have ih:=valV_snoc k j y r hn
  by_cases e:p.1=j
  ·rw [zA9 e,zA9 e,if_neg (fun z=>hk (e.trans z))]
  ·rw [zA3 e,zA3 e,ih]
theorem valV_put (kvs:List (κ×V)) (k j:κ) (y:V):valV (putK kvs k y) j=if j=k then some y else valV kvs j:=by
 unfold putK
 by_cases a:(kvs.any fun kv=>decide (kv.1=k))=true
 ·rw [if_pos a,valV_map]
  rw [zDt] at a
  by_cases e:j=k
  ·obtain ⟨x,hx⟩:=Option.isSome_iff_exists.mp a
   rw [if_pos e,e,hx,Option.map_some,if_pos rfl]
  ·rw [if_neg e]
   cases valV kvs j with
   | none=>rfl
   | some x=>rw [Option.map_some,if_neg e]
 ·rw [if_neg a]
  refine valV_snoc k j y kvs ?_
  rw [zDt] at a
  cases q:valV kvs k with
  | none=>rfl
  | some x=>rw [q] at a;exact (a rfl).elim
theorem zCj (kvs:List (κ×V)) (k:κ) (v:V):(putK kvs k v).length<=kvs.length+1:=by
 unfold putK
 split
 ·rw [List.length_map];omega
 ·rw [List.length_append,List.length_cons,List.length_nil];omega
theorem zDy {kvs:List (κ×V)} {k:κ} (v:V) (h:valV kvs k=none):putK kvs k v=kvs++[(k,v)]:=by
 unfold putK
 rw [zDt,h]
 exact if_neg (by decide)
theorem RelO.isSome_eq {o:Option V} {u:Option Value} (r:RelO o u):o.isSome=u.isSome:=by
 cases o with
 | none=>cases u with
  | none=>rfl
  | some _=>exact (show False from r).elim
 | some _=>cases u with
  | none=>exact (show False from r).elim
  | some _=>rfl
theorem RelO.getD {o:Option V} {u:Option Value} {d:V} {d':Value} (r:RelO o u) (rd:RelV d d'):RelV (o.getD d) (u.getD d'):=by
 cases o with
 | none=>cases u with
  | none=>exact rd
  | some _=>exact (show False from r).elim
 | some _=>cases u with
  | none=>exact (show False from r).elim
  | some _=>exact r
theorem KV.val {kvs:List (κ×V)} {vs:List (κ×Value)} (r:KV kvs vs) (k:κ):RelO (valV kvs k) (valueAt vs k):=by
 unfold KV at r
 induction r with
 | nil=>exact True.intro
 | @cons p q ps qs h t ih =>
  obtain ⟨h1,h2⟩:=h
  by_cases e:p.1=k
  ·have e':q.1=k:=h1.symm.trans e
   have b:valueAt (q::qs) k=some q.2:=by simp [valueAt,List.find?_cons,e']
   rw [zA9 e,b];exact h2
  ·have e':¬q.1=k:=fun z=>e (h1.trans z)
   have b:valueAt (q::qs) k=valueAt qs k:=by simp [valueAt,List.find?_cons,e']
   rw [zA3 e,b];exact ih
theorem KV.any {kvs:List (κ×V)} {vs:List (κ×Value)} (r:KV kvs vs) (k:κ):(kvs.any fun kv=>decide (kv.1=k))=vs.any fun kv=>decide (kv.1=k):=by
 unfold KV at r
 induction r with
 | nil=>rfl
 | cons h t ih=>rw [List.any_cons,List.any_cons,ih,h.1]
theorem KV.repl {kvs:List (κ×V)} {vs:List (κ×Value)} (r:KV kvs vs) (k:κ) {y:V} {u:Value} (ry:RelV y u) :
  KV (kvs.map fun kv=>if kv.1=k then (kv.1,y) else kv) (vs.map fun kv=>if kv.1=k then (kv.1,u) else kv):=by
 unfold KV at r ⊢
 induction r with
 | nil=>exact .nil
 | @cons p q ps qs h t ih =>
  rw [List.map_cons,List.map_cons]
  refine .cons ?_ ih
  obtain ⟨h1,h2⟩:=h
  by_cases e:p.1=k
  ·rw [if_pos e,if_pos (h1.symm.trans e)];exact ⟨h1,ry⟩
  ·rw [if_neg e,if_neg (fun z=>e (h1.trans z))];exact ⟨h1,h2⟩
theorem KV.put {kvs:List (κ×V)} {vs:List (κ×Value)} (r:KV kvs vs) (k:κ) {y:V} {u:Value} (ry:RelV y u):KV (putK kvs k y) (stored vs k u):=by
 unfold putK stored
 rw [r.any k]
 by_cases e:(vs.any fun kv=>decide (kv.1=k))=true
 ·rw [if_pos e,if_pos e];exact r.repl k ry
 ·rw [if_neg e,if_neg e];exact Paired.snoc r ⟨rfl,ry⟩
theorem KV.length {kvs:List (κ×V)} {vs:List (κ×Value)} (r:KV kvs vs):kvs.length=vs.length:=Paired.length r
end
theorem kV_is {P:Program} {w:World} {k:Key} {u:Value} (r:RelV (kV k) u):(zA2 P w).is k u=true:=by
 cases k with
 | inl i=>obtain ⟨t,e⟩:=(show∃t,u=Value.int i t from r);subst e;exact mixKind_int P w i t
 | inr x=>obtain ⟨t,e⟩:=(show∃t,u=Value.str x t from r);subst e;exact mixKind_str P w x t
theorem items_are {P:Program} {w:World}:∀{ks:List Key} {us:List Value},Vals (ks.map kV) us->ItemsAre (zA2 P w) ks us
 | [],_,r=>by rw [List.map_nil] at r;cases r;exact .nil
 | k::ks,_,r=>by
  rw [List.map_cons] at r
  cases r with
  | cons h t=>exact .cons (kV_is h) (items_are t)
abbrev KT (H:Hp):List (List Key×V)->List (List Key×Addr×Value)->Prop:=Paired fun p q=>p.1=q.1/\H q.2.1=some (.tup (p.1.map kV))/\RelV p.2 q.2.2
theorem KT.val {H:Hp} {kvs:List (List Key×V)} {xs:List (List Key×Addr×Value)} (r:KT H kvs xs) (k:List Key):RelO (valV kvs k) ((atKey xs k).map (·.2)):=by
 induction r with
 | nil=>exact True.intro
 | @cons p q ps qs h t ih =>
  obtain ⟨h1,_,h2⟩:=h
  by_cases e:p.1=k
  ·have e':q.1=k:=h1.symm.trans e
   have b:atKey (q::qs) k=some q.2:=by simp [atKey,List.find?_cons,e']
   rw [zA9 e,b];exact h2
  ·have e':¬q.1=k:=fun z=>e (h1.trans z)
   have b:atKey (q::qs) k=atKey qs k:=by simp [atKey,List.find?_cons,e']
   rw [zA3 e,b];exact ih
theorem KT.repl {H:Hp} {kvs:List (List Key×V)} {xs:List (List Key×Addr×Value)} (r:KT H kvs xs) (k:List Key) {y:V} {u:Value} (ry:RelV y u) :
  KT H (kvs.map fun kv=>if kv.1=k then (kv.1,y) else kv) (xs.map (putAt k u)):=by
 induction r with
 | nil=>exact .nil
 | @cons p q ps qs h t ih =>
  rw [List.map_cons,List.map_cons]
  refine .cons ?_ ih
  obtain ⟨h1,h2,h3⟩:=h
  unfold putAt
  by_cases e:p.1=k
  ·rw [if_pos e,if_pos (h1.symm.trans e)];exact ⟨h1,h2,ry⟩
  ·rw [if_neg e,if_neg (fun z=>e (h1.trans z))];exact ⟨h1,h2,h3⟩
theorem KT.put {H:Hp} {kvs:List (List Key×V)} {xs:List (List Key×Addr×Value)} (r:KT H kvs xs) (k:List Key) {b:Addr} {y:V} {u:Value} (hb:H b=some (.tup (k.map kV))) (ry:RelV y u) :
  KT H (putK kvs k y) (storedH xs k b u):=by
 have e:(kvs.any fun kv=>decide (kv.1=k))=(atKey xs k).isSome:=by
  rw [zDt,(r.val k).isSome_eq,Option.isSome_map]
 unfold putK storedH
 rw [e]
 by_cases q:(atKey xs k).isSome=true
 ·rw [if_pos q,if_pos q];exact r.repl k ry
 ·rw [if_neg q,if_neg q];exact Paired.snoc r ⟨rfl,hb,ry⟩
theorem KT.keeps {H H':Hp} {kvs:List (List Key×V)} {xs:List (List Key×Addr×Value)} (r:KT H kvs xs) (ht:∀b ys,H b=some (.tup ys)->H' b=some (.tup ys)):KT H' kvs xs :=
 Paired.mapP r fun _ _ z=>⟨z.1,ht _ _ z.2.1,z.2.2⟩
section
variable {P:Program} {w:World} {H:Hp} {h:Heap} {a:Addr}
theorem rd_of {u:HO} (ok:HOk P w H h) (e:Rd H a u):zA8 P w H h a u:=e.ok ok
theorem dk_rd {kvs:List (Key×V)} (ok:HOk P w H h) (e:Rd H a (.dK kvs)):kvs.length<=sizeLine/\(a==sysModules)=false/\∃vs,KV kvs vs/\h.DictOf (zA2 P w) a vs :=
 show zA8 P w H h a (.dK kvs) from rd_of ok e
theorem dk_of {kvs:List (Key×V)} (ok:HOk P w H h) (e:H a=some (.dK kvs)):kvs.length<=sizeLine/\(a==sysModules)=false/\∃vs,KV kvs vs/\h.DictOf (zA2 P w) a vs:=dk_rd ok (.inl e)
theorem zGx {ks:List Key} (ok:HOk P w H h) (e:H a=some (.tup (ks.map kV))):(tupleKind (zA2 P w)).is h ks a:=by
 obtain ⟨_,its,r,o,h1,h2,n,h3⟩:=(show zA8 P w H h a (.tup (ks.map kV)) from ok a _ e)
 exact ⟨o,its.toArray,n,h1,h2,h3,by simpa using items_are r⟩
theorem dt_rd {kvs:List (List Key×V)} (ok:HOk P w H h) (e:Rd H a (.dT kvs)):kvs.length<=sizeLine/\(a==sysModules)=false /\
  ∃xs,KT H kvs xs/\h.DictOfH (tupleKind (zA2 P w)) a xs:=by
 obtain ⟨z,y,xs,r,o,es,ep,h1,h2,h3,h4,h5⟩:=(show zA8 P w H h a (.dT kvs) from rd_of ok e)
 refine ⟨z,y,xs,r,o,es,ep,h1,h2,h3,h4,fun x hx=>?_,h5⟩
 have all:∀{l:List (List Key×V)} {m:List (List Key×Addr×Value)},KT H l m->∀x∈m,(tupleKind (zA2 P w)).is h x.1 x.2.1:=by
  intro l m q
  induction q with
  | nil=>intro x hx;exact nomatch hx
  | @cons p q ps qs hq t ih =>
   intro x hx
   rcases List.mem_cons.mp hx with e| hx
   ·subst e
    exact zGx ok (by rw [<-hq.1];exact hq.2.1)
   ·exact ih x hx
 exact all r x hx
theorem dt_of {kvs:List (List Key×V)} (ok:HOk P w H h) (e:H a=some (.dT kvs)):kvs.length<=sizeLine/\(a==sysModules)=false /\
  ∃xs,KT H kvs xs/\h.DictOfH (tupleKind (zA2 P w)) a xs:=dt_rd ok (.inl e)
end
def DGet (H:Hp) (a:Addr) (y:V) (r:Option V):Prop :=
 (∃kvs k,Rd H a (.dK kvs)/\y=kV k/\r=valV kvs k)\/∃kvs k b,Rd H a (.dT kvs)/\y= .ref b/\H b=some (.tup (k.map kV))/\r=valV kvs k
def DPut (H:Hp) (a:Addr) (y v:V) (H':Hp):Prop :=
 (∃kvs k,H a=some (.dK kvs)/\y=kV k/\kvs.length<sizeLine/\H'=upd H a (.dK (putK kvs k v))) \/
 ∃kvs k b,H a=some (.dT kvs)/\y= .ref b/\H b=some (.tup (k.map kV))/\kvs.length<sizeLine/\H'=upd H a (.dT (putK kvs k v))
theorem DGet.k {H:Hp} {a:Addr} {kvs:List (Key×V)} {k:Key} (e:H a=some (.dK kvs)):DGet H a (kV k) (valV kvs k):=.inl ⟨kvs,k,.inl e,rfl,rfl⟩
theorem DGet.t {H:Hp} {a b:Addr} {kvs:List (List Key×V)} {k:List Key} (e:H a=some (.dT kvs)) (eb:H b=some (.tup (k.map kV))):DGet H a (.ref b) (valV kvs k):=.inr ⟨kvs,k,b,.inl e,rfl,eb,rfl⟩
theorem DPut.k {H:Hp} {a:Addr} {kvs:List (Key×V)} {k:Key} {v:V} (e:H a=some (.dK kvs)) (hl:kvs.length<sizeLine):DPut H a (kV k) v (upd H a (.dK (putK kvs k v))):=.inl ⟨kvs,k,e,rfl,hl,rfl⟩
theorem DPut.t {H:Hp} {a b:Addr} {kvs:List (List Key×V)} {k:List Key} {v:V} (e:H a=some (.dT kvs)) (eb:H b=some (.tup (k.map kV))) (hl:kvs.length<sizeLine) :
  DPut H a (.ref b) v (upd H a (.dT (putK kvs k v))):=.inr ⟨kvs,k,b,e,rfl,eb,hl,rfl⟩
section
variable {X:Cx} {pins:List (Addr×Obj)} {σ:St} {H:Hp} {s:Shared} {a:Addr} {y v:V} {u r:Value} {o:Option V} {A:Around} {E:Value->Shared->Prop}
theorem Inv.big (I:Inv X pins σ H s):sysModules<s.heap.objs.size:=by
 have h:mainGlobals<s.heap.objs.size:=(I.mod.glob.keeps I.bk).lt
 exact Nat.lt_trans (by decide) h
theorem d_getItem {Q:Value->Shared->Prop} (hu:A.units+1<cLine) (I:Inv X pins σ H s) (g:DGet H a y (some v)) (ry:RelV y u) (h:∀w' s',Inv X pins σ H s'->RelV v w'->Q w' s') :
  wpAny (model X.prog X.w) A (getItem (.ref a) u) Q E s:=by
 rcases g with ⟨kvs,k,e,ey,l⟩| ⟨kvs,k,b,e,ey,eb,l⟩
 ·subst ey
  obtain ⟨z,hd,vs,rel,dd⟩:=dk_rd I.hok e
  obtain ⟨w',hw,rw'⟩:=RelO.some_of (v:=v) (o:=valueAt vs k) (by rw [l];exact rel.val k)
  exact wpAny_getItem_of (kV_is ry) dd.mapOf hw (h w' _ (I.tok _) rw')
 ·subst ey
  cases (show u=Value.ref b from ry)
  obtain ⟨z,hd,xs,rel,dd⟩:=dt_rd I.hok e
  obtain ⟨w',hw,rw'⟩:=RelO.some_of (v:=v) (o:=(atKey xs k).map (·.2)) (by rw [l];exact rel.val k)
  obtain ⟨p,hp,hp2⟩:=Option.map_eq_some_iff.mp hw
  refine wpAny_getItem_heap (tupleKind_room_in1 hu) (zGx I.hok eb) dd hp ?_
  rw [hp2]
  exact h w' _ (I.tok _) rw'
theorem d_in {Q:Value->Shared->Prop} (hu:A.units+1<cLine) (I:Inv X pins σ H s) (g:DGet H a y o) (ry:RelV y u) (h:∀s',Inv X pins σ H s'->Q (.bool o.isSome) s') :
  wpAny (model X.prog X.w) A (compareOp .In u (.ref a)) Q E s:=by
 rcases g with ⟨kvs,k,e,ey,l⟩| ⟨kvs,k,b,e,ey,eb,l⟩
 ·subst ey
  obtain ⟨z,hd,vs,rel,dd⟩:=dk_rd I.hok e
  refine wpAny_in_of (kV_is ry) hd dd.mapOf ?_
  rw [<-(rel.val k).isSome_eq,<-l]
  exact h _ (I.tok _)
 ·subst ey
  cases (show u=Value.ref b from ry)
  obtain ⟨z,hd,xs,rel,dd⟩:=dt_rd I.hok e
  refine wpAny_in_heap (tupleKind_room_in1 hu) (zGx I.hok eb) hd dd ?_
  have q:=(rel.val k).isSome_eq
  rw [Option.isSome_map] at q
  rw [<-q,<-l]
  exact h _ (I.tok _)
theorem d_notIn {Q:Value->Shared->Prop} (hu:A.units+1<cLine) (I:Inv X pins σ H s) (g:DGet H a y o) (ry:RelV y u) (h:∀s',Inv X pins σ H s'->Q (.bool (!o.isSome)) s') :
  wpAny (model X.prog X.w) A (compareOp .NotIn u (.ref a)) Q E s:=by
 rcases g with ⟨kvs,k,e,ey,l⟩| ⟨kvs,k,b,e,ey,eb,l⟩
 ·subst ey
  obtain ⟨z,hd,vs,rel,dd⟩:=dk_rd I.hok e
  refine wpAny_notIn_of (kV_is ry) hd dd.mapOf ?_
  rw [<-(rel.val k).isSome_eq,<-l]
  exact h _ (I.tok _)
 ·subst ey
  cases (show u=Value.ref b from ry)
  obtain ⟨z,hd,xs,rel,dd⟩:=dt_rd I.hok e
  refine wpAny_notIn_heap (tupleKind_room_in1 hu) (zGx I.hok eb) hd dd ?_
  have q:=(rel.val k).isSome_eq
  rw [Option.isSome_map] at q
  rw [<-q,<-l]
  exact h _ (I.tok _)
theorem d_write {h':Heap} {t':Nat} {ob:HO} (I:Inv X pins σ H s) (mu:Mut (H a)) (hs:Heap.SameBut a s.heap h') (he:∃q,h'.get? a=some q) (new:zA8 X.prog X.w (upd H a ob) h' a ob) :
  Inv X pins σ (upd H a ob) {s with heap:=h',toks:=t'} :=
 I.write (x:=a) (e:=a) mu (.inl rfl) (fun b q hb z=>(hs.2 b hb).trans z) he new
theorem dk_new {P:Program} {w:World} {H':Hp} {h':Heap} {kvs:List (Key×V)} {vs:List (Key×Value)} (z:kvs.length<=sizeLine) (hd:(a==sysModules)=false) (rel:KV kvs vs) (dd:h'.DictOf (zA2 P w) a vs) :
  zA8 P w H' h' a (.dK kvs):=⟨z,hd,vs,rel,dd⟩
theorem d_setItem {H':Hp} {Q:Unit->Shared->Prop} (hu:A.units+1<cLine) (I:Inv X pins σ H s) (g:DPut H a y v H') (ry:RelV y u) (rv:RelV v r) (h:∀s',Inv X pins σ H' s'->Q () s') :
  wpAny (model X.prog X.w) A (setItem (.ref a) u r) Q E s:=by
 rcases g with ⟨kvs,k,e,ey,l,eH⟩| ⟨kvs,k,b,e,ey,eb,l,eH⟩
 ·subst ey eH
  obtain ⟨z,hd,vs,rel,dd⟩:=dk_of I.hok e
  have hz:vs.length<=sizeLine:=by rw [<-rel.length];exact z
  have hl:(putK kvs k v).length<=sizeLine:=by have:=zCj kvs k v;omega
  refine wpAny_setItem_pairs (hsz:=hz) (kV_is ry) dd fun h' dd' hs=>h _ ?_
  have he:∃q,h'.get? a=some q:=let ⟨q,_,_,hq,_⟩:=dd';⟨q,hq⟩
  exact d_write I (by rw [e];exact True.intro) hs he (dk_new hl hd (rel.put k rv) dd')
 ·subst ey eH
  cases (show u=Value.ref b from ry)
  obtain ⟨z,hd,xs,rel,dd⟩:=dt_of I.hok e
  have hz:xs.length<=sizeLine:=by rw [<-Paired.length rel];exact z
  have hl:(putK kvs k v).length<=sizeLine:=by have:=zCj kvs k v;omega
  refine wpAny_setItem_heap (hsz:=hz) (tupleKind_room_in1 hu) (zGx I.hok eb) dd fun h' dd' hs=>h _ ?_
  obtain ⟨q,es,ep,hq,h2,h3,h4,_,h5⟩:=dd'
  refine d_write I (by rw [e];exact True.intro) hs ⟨q,hq⟩ ⟨hl,hd,_,(rel.put k eb rv).keeps fun c ys ec=>?_,q,es,ep,hq,h2,h3,h4,h5⟩
  rw [upd_ne (zBe ec e (fun z=>nomatch z))]
  exact ec
end
def NoSl (i:Expr):Prop:=∀ov iv,subscripted i false ov iv=operate [ov,iv] (getItem ov iv)
theorem subD_of {prog:Program} {w:World} {A:Around} {E:Value->Shared->Prop} {s:Shared} {env:Env} {value slice:Expr} {pos:Pos} {T id:String} {Q:Value->Shared->Prop}
  (hl:typeLookup (.type T) "__getitem__" = pure (some (.builtin id))) (hs:NoSl slice)
  (h:wpAny (model prog w) A (eval value env) (fun o s₁=>wpAny (model prog w) A (eval slice env) (fun i s₂=>s₂.TypeIs o T/\wpAny (model prog w) A (getItem o i) Q E s₂) E s₁) E s) :
  wpAny (model prog w) A (eval (.Subscript value slice pos) env) Q E s:=by
 refine Subscript_ (wpAny_mono h (fun o s₁ h₁=>wpAny_mono h₁ (fun i s₂ h₂=>?_) fun _ _ x=>x) fun _ _ x=>x)
 obtain ⟨hT,h₂⟩:=h₂
 unfold subscriptTail
 refine wpAny_bind ?_
 rw [getitemInPython_of_ne hT.not_modules]
 refine wpAny_bind (wpAny_specialOf hT hl ?_)
 have fin:wpAny (model prog w) A (subscripted slice false o i) (fun r s₃=>wpAny (model prog w) A (letTemporaryGo value o r >>= fun _=>pure r) Q E s₃) E s₂:=by
  rw [hs o i]
  exact wpAny_operating (wpAny_mono h₂ (fun r s₃ h₃=>wpAny_bind (wpAny_letTemporaryGo (wpAny_pure h₃))) fun _ _ x=>x)
 first
  | exact wpAny_pure (wpAny_bind fin)
  | exact wpAny_bind (wpAny_pure (wpAny_bind fin))
  | exact wpAny_bind fin
theorem dict_typeIs {X:Cx} {pins:List (Addr×Obj)} {σ:St} {H:Hp} {s:Shared} {a:Addr} {y:V} {o:Option V} (I:Inv X pins σ H s) (g:DGet H a y o):s.TypeIs (.ref a) "dict" := by
 rcases g with ⟨kvs,k,e,_,_⟩| ⟨kvs,k,b,e,_,_,_⟩
 ·obtain ⟨_,_,vs,_,dd⟩:=dk_rd I.hok e
  exact dd.typeIs
 ·obtain ⟨_,_,xs,_,dd⟩:=dt_rd I.hok e
  exact dd.typeIs
def tDGet (td ty:TE):TE:=fun σ H Q=>td σ H fun x H1=>ty σ H1 fun y H2=>∃a v,x= .ref a/\DGet H2 a y (some v)/\Q v H2
def tDIn (ty td:TE):TE:=fun σ H Q=>ty σ H fun y H1=>td σ H1 fun x H2=>∃a o,x= .ref a/\DGet H2 a y o/\Q (.bl o.isSome) H2
def tDNotIn (ty td:TE):TE:=fun σ H Q=>ty σ H fun y H1=>td σ H1 fun x H2=>∃a o,x= .ref a/\DGet H2 a y o/\Q (.bl (!o.isSome)) H2
def sDPut (td ty tv:TE):TS:=fun D σ H=>tv σ H fun v H1=>td σ H1 fun x H2=>ty σ H2 fun y H3=>∃a H4,x= .ref a/\DPut H3 a y v H4/\D.nx σ H4
section
variable {X:Cx} {o i e value:Expr} {pos pos' tpos:Pos} {td ty tv:TE}
theorem zBa (hu:X.A.units+1<cLine) (ho:PE X o td) (hi:PE X i ty) (hs:NoSl i):PE X (.Subscript o i pos) (tDGet td ty):=by
 intro pins s σ H Q I h
 refine subD_of PySem.F.slot_dict_getitem.lookup hs (thn (ho pins s σ H _ I h) fun u s1 ⟨x,H1,I1,rx,q1⟩=>thn (hi pins s1 σ H1 _ I1 q1) fun iv s2 ⟨y,H2,I2,ry,a,v,ex,g,q2⟩=>?_)
 subst ex
 obtain rfl:u=Value.ref a:=rx
 exact ⟨dict_typeIs I2 g,d_getItem hu I2 g ry fun w' s3 I3 rw'=>⟨v,H2,I3,rw',q2⟩⟩
theorem zHp (hu:X.A.units+1<cLine) (hi:PE X i ty) (ho:PE X o td):PC X .In i o (tDIn ty td):=by
 intro pins s σ H Q I h
 refine thn (hi pins s σ H _ I h) fun iv s1 ⟨y,H1,I1,ry,q1⟩=>thn (ho pins s1 σ H1 _ I1 q1) fun u s2 ⟨x,H2,I2,rx,a,ov,ex,g,q2⟩=>?_
 subst ex
 obtain rfl:u=Value.ref a:=rx
 exact d_in hu I2 g ry fun s3 I3=>⟨.bl ov.isSome,H2,I3,rfl,q2⟩
theorem zGo (hu:X.A.units+1<cLine) (hi:PE X i ty) (ho:PE X o td):PC X .NotIn i o (tDNotIn ty td):=by
 intro pins s σ H Q I h
 refine thn (hi pins s σ H _ I h) fun iv s1 ⟨y,H1,I1,ry,q1⟩=>thn (ho pins s1 σ H1 _ I1 q1) fun u s2 ⟨x,H2,I2,rx,a,ov,ex,g,q2⟩=>?_
 subst ex
 obtain rfl:u=Value.ref a:=rx
 exact d_notIn hu I2 g ry fun s3 I3=>⟨.bl (!ov.isSome),H2,I3,rfl,q2⟩
theorem zB9 (hu:X.A.units+1<cLine) (ho:PE X o td) (hi:PE X i ty) (hv:PE X value tv) (hs:swapsWith value (some (.Subscript o i pos')) pos.line X.env=pure false) :
  PS X (.Assign [.Subscript o i pos'] value pos) (sDPut td ty tv):=by
 intro pins s σ H D I h
 refine wpAny_Assign_Subscript (thn (hv pins s σ H _ I h) fun r s1 ⟨v,H1,I1,rv,q1⟩=>thn (ho pins s1 σ H1 _ I1 q1) fun u s2 ⟨x,H2,I2,rx,q2⟩=>thn (hi pins s2 σ H2 _ I2 q2) fun iv s3 ⟨y,H3,I3,ry,a,H4,ex,g,q3⟩=>?_) hs
 subst ex
 obtain rfl:u=Value.ref a:=rx
 exact d_setItem hu I3 g ry rv fun s4 I4=>⟨σ,H4,I4,q3⟩
end
theorem dk_empty {P:Program} {w:World} {H:Hp} (h:Heap) (hb:sysModules<h.objs.size):zA8 P w H (h.push {cls:=.type "dict",data:=.dict #[]}) h.objs.size (.dK []) :=
 ⟨Nat.zero_le _,beq_eq_false_iff_ne.mpr (Ne.symm (Nat.ne_of_lt hb)),[],.nil,Heap.DictOf.new h⟩
theorem dt_empty {P:Program} {w:World} {H:Hp} (h:Heap) (hb:sysModules<h.objs.size):zA8 P w H (h.push {cls:=.type "dict",data:=.dict #[]}) h.objs.size (.dT []) :=
 ⟨Nat.zero_le _,beq_eq_false_iff_ne.mpr (Ne.symm (Nat.ne_of_lt hb)),[],.nil,_,#[],0,Heap.get?_push_size _ rfl,⟨rfl,rfl,rfl⟩,rfl,rfl,List.nodup_nil⟩
def tDNewK:TE:=fun _ H Q=>∀p,H p=none->Q (.ref p) (upd H p (.dK []))
def tDNewT:TE:=fun _ H Q=>∀p,H p=none->Q (.ref p) (upd H p (.dT []))
section
variable {X:Cx} {pos:Pos}
theorem zCd:PE X (.Dict [] [] pos) tDNewK:=fun pins s σ H Q I h =>
 wpAny_Dict_empty ⟨.ref s.heap.objs.size,_,I.laid (a:=s.heap.objs.size) (o:=.dK []) (t':=s.toks) (fun _ _ q=>Heap.get?_push_of_some _ q) (Nat.le_refl _) (dk_empty s.heap I.big),rfl,h _ (I.hok.fresh (Nat.le_refl _))⟩
theorem zIg:PE X (.Dict [] [] pos) tDNewT:=fun pins s σ H Q I h =>
 wpAny_Dict_empty ⟨.ref s.heap.objs.size,_,I.laid (a:=s.heap.objs.size) (o:=.dT []) (t':=s.toks) (fun _ _ q=>Heap.get?_push_of_some _ q) (Nat.le_refl _) (dt_empty s.heap I.big),rfl,h _ (I.hok.fresh (Nat.le_refl _))⟩
end
def tPairs:List (TE×TE)->St->Hp->(List (V×V)->Hp->Prop)->Prop
 | [],_,H,Q=>Q [] H
 | (tk,tv)::r,σ,H,Q=>tk σ H fun x H1=>tv σ H1 fun y H2=>tPairs r σ H2 fun ps H3=>Q ((x,y)::ps) H3
abbrev VV:List (V×V)->List (Value×Value)->Prop:=Paired fun p q=>RelV p.1 q.1/\RelV p.2 q.2
def PPs (X:Cx) (pos:Pos) (keys:List (Option Expr)) (values:List Expr) (trs:List (TE×TE)):Prop :=
 ∀(pins:List (Addr×Obj)) (s:Shared) (σ:St) (H:Hp) (Q:List (V×V)->Hp->Prop),Inv X pins σ H s->tPairs trs σ H Q ->
  wpAny (model X.prog X.w) X.A (evalPairs (pairTrees keys values X.env pos)) (fun vs s'=>∃ps H',Inv X pins σ H' s'/\VV ps vs/\Q ps H') X.xe s
theorem pps_nil {X:Cx} {pos:Pos}:PPs X pos [] [] []:=fun pins s σ H Q I h=>pairTrees_nil_walk ⟨[],H,I,.nil,h⟩
theorem pps_cons {X:Cx} {pos:Pos} {k v:Expr} {ks:List (Option Expr)} {vs:List Expr} {tk tv:TE} {trs:List (TE×TE)} (hk:PE X k tk) (hv:PE X v tv) (hr:PPs X pos ks vs trs) :
  PPs X pos (some k::ks) (v::vs) ((tk,tv)::trs):=fun pins s σ H Q I h =>
 pairTrees_cons_walk (thn (hk pins s σ H _ I h) fun u s1 ⟨x,H1,I1,rx,q1⟩=>thn (hv pins s1 σ H1 _ I1 q1) fun w2 s2 ⟨y,H2,I2,ry,q2⟩ =>
  thn (hr pins s2 σ H2 _ I2 q2) fun ws s3 ⟨ps,H3,I3,rel,q3⟩=>⟨(x,y)::ps,H3,I3,.cons ⟨rx,ry⟩ rel,q3⟩)
structure M2 (X:Cx) (o:Expr) (m:Str) (apos:Pos) (e f:Expr) (cpos:Pos):Prop where
 base:attributeBase o m X.env (eval o X.env)=eval o X.env
 few:((backTo cpos (starEach [e,f] X.env)).all (fun x=>!x.1)&&(backToKw cpos (keywordEach [] X.env)).all (fun x=>x.1.isSome)
  &&decide (([e,f]:List Expr).length+([]:List Keyword).length+(if ([]:List Keyword).isEmpty then 0 else 1)<30))=true
 line:(apos.endLine==cpos.line)=true
 trees:backTo cpos (starEach [e,f] X.env)=[(false,eval e X.env),(false,eval f X.env)]
def IsD (H:Hp) (a:Addr):Prop:=(∃kvs,Rd H a (.dK kvs))\/∃kvs,Rd H a (.dT kvs)
theorem isD_at {X:Cx} {pins:List (Addr×Obj)} {σ:St} {H:Hp} {s:Shared} {a:Addr} (I:Inv X pins σ H s) (d:IsD H a) :
  s.TypeIs (.ref a) "dict" /\(∀b,Value.ref a= .ref b->∃ob,s.heap.get? b=some ob/\ob.dict=none)/\(a==sysModules)=false:=by
 rcases d with ⟨kvs,e⟩| ⟨kvs,e⟩
 ·obtain ⟨_,hd,vs,_,dd⟩:=dk_rd I.hok e
  refine ⟨dd.typeIs,fun b q=>?_,hd⟩
  cases q
  obtain ⟨ob,_,_,h1,h2,_⟩:=dd
  exact ⟨ob,h1,h2.2.1⟩
 ·obtain ⟨_,hd,xs,_,dd⟩:=dt_rd I.hok e
  refine ⟨dd.typeIs,fun b q=>?_,hd⟩
  cases q
  obtain ⟨ob,_,_,h1,h2,_⟩:=dd
  exact ⟨ob,h1,h2.2.1⟩
section
variable {X:Cx} {pins:List (Addr×Obj)} {σ:St} {H:Hp} {s:Shared} {a:Addr} {y d:V} {u r:Value} {o:Option V} {A:Around} {E:Value->Shared->Prop}
theorem d_get2 {Q:Value->Shared->Prop} (hu:A.units+1<cLine) (I:Inv X pins σ H s) (g:DGet H a y o) (ry:RelV y u) (rd:RelV d r) (h:∀w' s',Inv X pins σ H s'->RelV (o.getD d) w'->Q w' s') :
  wpAny (model X.prog X.w) A (call (.builtin "dict.get") [.ref a,u,r]) Q E s:=by
 rcases g with ⟨kvs,k,e,ey,l⟩| ⟨kvs,k,b,e,ey,eb,l⟩
 ·subst ey
  obtain ⟨z,hd,vs,rel,dd⟩:=dk_rd I.hok e
  refine call_meetsIn PySem.F.slot_dict_get dd.typeIs PySem.F.entry_dict_get (PySem.F.args_dict_get_3 _ _ _) (meets_dict_get_default (zA2 X.prog X.w) a (kV_is ry) hd r) ⟨_,dd.mapOf,h _ _ (I.tok _) ?_⟩
  rw [l]
  exact (rel.val k).getD rd
 ·subst ey
  cases (show u=Value.ref b from ry)
  obtain ⟨z,hd,xs,rel,dd⟩:=dt_rd I.hok e
  refine call_meetsIn PySem.F.slot_dict_get dd.typeIs PySem.F.entry_dict_get (PySem.F.args_dict_get_3 _ _ _) (meetsH_dict_get_default (tupleKind (zA2 X.prog X.w)) a b hd r) ⟨tupleKind_room_in1 hu,k,xs,zGx I.hok eb,dd,h _ _ (I.tok _) ?_⟩
  rw [l]
  exact (rel.val k).getD rd
end
def tDGet2 (td ty tx:TE):TE:=fun σ H Q=>td σ H fun x H1=>∃a,x= .ref a/\IsD H1 a/\ty σ H1 fun y H2=>tx σ H2 fun z H3=>∃o,DGet H3 a y o/\Q (o.getD z) H3
section
variable {X:Cx} {o e f:Expr} {apos cpos:Pos} {td ty tx:TE}
theorem zEp (hu:X.A.units+1<cLine) (ho:PE X o td) (he:PE X e ty) (hf:PE X f tx) (m:M2 X o "get" apos e f cpos):PE X (.Call (.Attribute o "get" apos) [e,f] [] cpos) (tDGet2 td ty tx):=by
 intro pins s σ H Q I h
 refine wpAny_Call_method m.base m.few m.line PySem.F.plainAttrs_dict PySem.F.slot_dict_get PySem.F.type_dict_get (thn (ho pins s σ H _ I h) fun u s1 ⟨x,H1,I1,rx,a,ex,d,q1⟩=>?_)
 subst ex
 obtain rfl:u=Value.ref a:=rx
 obtain ⟨t1,t2,_⟩:=isD_at I1 d
 refine ⟨t1,t2,?_⟩
 rw [m.trees]
 refine Calls.callWith_builtin rfl (Calls.evalArgs_plain (Calls.spliced_cons (thn (he pins s1 σ H1 _ I1 q1) fun iv s2 ⟨y,H2,I2,ry,q2⟩ =>
  Calls.spliced_cons (thn (hf pins s2 σ H2 _ I2 q2) fun fv s3 ⟨z,H3,I3,rz,ov,g,q3⟩=>Calls.spliced_nil ?_))))
 exact d_get2 hu I3 g ry rz fun w' s4 I4 rw'=>⟨_,H3,I4,rw',q3⟩
end
section
variable {X:Cx} {pins:List (Addr×Obj)} {σ:St} {H:Hp} {s:Shared} {a:Addr} {kvs:List (Key×V)} {A:Around} {E:Value->Shared->Prop}
theorem d_copyOf {Q:Value->Shared->Prop} (I:Inv X pins σ H s) (e:Rd H a (.dK kvs)) (h:∀p s',H p=none->Inv X pins σ (upd H p (.dK kvs)) s'->Q (.ref p) s'):wpAny (model X.prog X.w) A (call (.type "dict") [.ref a]) Q E s:=by
 obtain ⟨z,hd,vs,rel,dd⟩:=dk_rd I.hok e
 refine kt_call_dict hd dd (by rw [<-rel.length];exact z) fun h' dd' hs=>?_
 refine h _ _ (I.hok.fresh (Nat.le_refl _)) (I.laid (a:=s.heap.objs.size) (o:=.dK kvs) (t':=s.toks) (fun b q hq=>?_) (Nat.le_refl _) (dk_new z (beq_eq_false_iff_ne.mpr (Ne.symm (Nat.ne_of_lt I.big))) rel dd'))
 exact (hs.2 b (Nat.ne_of_lt (Heap.lt_size hq))).trans (Heap.get?_push_of_some _ hq)
end
end L2
set_option maxHeartbeats 4000000
namespace L2
open PySem PySem.Spec PyProof.Rows
def clOf (env:Env):List (Str×NameKind)->List (Str×Addr)->List (Str×Addr)
 | [],cs=>cs
 | (n,k)::r,cs=>if (k==NameKind.free)=true then (match env.cells.lookup n with| some c=>clOf env r ((n,c)::cs)| none=>clOf env r cs) else clOf env r cs
theorem zDr {env:Env}:∀(l:List (Str×NameKind)) (cs:List (Str×Addr)),(∀x∈l,x.2= .free->∃c,env.cells.lookup x.1=some c) ->
  (forIn l cs (fun (x:Str×NameKind) (cs:List (Str×Addr))=>match x with
   | (name,kind)=>if (kind==NameKind.free)=true then (do let c<-cellOf env name;pure (ForInStep.yield ((name,c)::cs))) else pure (ForInStep.yield cs)):Sem (List (Str×Addr)))=pure (clOf env l cs)
 | [],_,_=>rfl
 | (n,k)::r,cs,h=>by
  rw [List.forIn_cons]
  have hr:∀x∈r,x.2= .free->∃c,env.cells.lookup x.1=some c:=fun x hx=>h x (List.mem_cons_of_mem _ hx)
  by_cases hk:(k==NameKind.free)=true
  ·obtain ⟨c,hc⟩:=h (n,k) List.mem_cons_self (by simpa using hk)
   have e1:clOf env ((n,k)::r) cs=clOf env r ((n,c)::cs):=by
    show (if (k==NameKind.free)=true then _ else _)=_
    rw [if_pos hk]
    have hc:env.cells.lookup n=some c:=hc
    rw [hc]
   have e2:cellOf env n=pure c:=by
    have hc:env.cells.lookup n=some c:=hc
    unfold cellOf;rw [hc]
   rw [e1,<-zDr r ((n,c)::cs) hr]
   show (if (k==NameKind.free)=true then (do let c<-cellOf env n;pure (ForInStep.yield ((n,c)::cs))) else pure (ForInStep.yield cs)) >>= _=_
   rw [if_pos hk,e2,pure_bind,pure_bind]
  ·have e1:clOf env ((n,k)::r) cs=clOf env r cs:=by
    show (if (k==NameKind.free)=true then _ else _)=_
    rw [if_neg hk]
   rw [e1,<-zDr r cs hr]
   show (if (k==NameKind.free)=true then (do let c<-cellOf env n;pure (ForInStep.yield ((n,c)::cs))) else pure (ForInStep.yield cs)) >>= _=_
   rw [if_neg hk,pure_bind]
theorem zIw {scope:Scope} {env:Env} (h:∀x∈scope.names,x.2= .free->∃c,env.cells.lookup x.1=some c):closureFor scope env=pure (clOf env scope.names []):=by
 unfold closureFor
 have e:=zDr (env:=env) scope.names [] h
 first
  | exact e
  | (refine Eq.trans ?_ e;rfl)
  | (rw [bind_pure];exact e)
  | simpa using e
theorem zD0 {env:Env} {x:Str} {c:Addr}:∀{l:List (Str×NameKind)} {cs:List (Str×Addr)},(∀y d,cs.lookup y=some d->env.cells.lookup y=some d)->(clOf env l cs).lookup x=some c->env.cells.lookup x=some c
 | [],cs,h,e=>h x c e
 | (n,k)::r,cs,h,e=>by
  unfold clOf at e
  by_cases hk:(k==NameKind.free)=true
  ·rw [if_pos hk] at e
   cases q:env.cells.lookup n with
   | none=>rw [q] at e;exact zD0 h e
   | some d =>
    rw [q] at e
    refine zD0 (fun y z hy=>?_) e
    rw [List.lookup_cons] at hy
    cases hyn:y==n with
    | true =>
     rw [hyn] at hy
     have:y=n:=by simpa using hyn
     subst this
     rw [q];exact hy
    | false=>rw [hyn] at hy;exact h y z hy
  ·rw [if_neg hk] at e;exact zD0 h e
theorem zD1 {env:Env} {x:Str} {c:Addr} (hx:env.cells.lookup x=some c):∀{l:List (Str×NameKind)} {cs:List (Str×Addr)},cs.lookup x=some c->(clOf env l cs).lookup x=some c
 | [],_,h=>h
 | (n,k)::r,cs,h=>by
  unfold clOf
  by_cases hk:(k==NameKind.free)=true
  ·rw [if_pos hk]
   cases q:env.cells.lookup n with
   | none=>exact zD1 hx h
   | some d =>
    refine zD1 hx ?_
    rw [List.lookup_cons]
    cases hxn:x==n with
    | true =>
     have:x=n:=by simpa using hxn
     subst this
     rw [<-q,hx]
    | false=>exact h
  ·rw [if_neg hk];exact zD1 hx h
theorem zE0 {env:Env} {x:Str} {c:Addr} (hx:env.cells.lookup x=some c):∀{l:List (Str×NameKind)} {cs:List (Str×Addr)},(x,NameKind.free)∈l->(clOf env l cs).lookup x=some c
 | [],_,h=>nomatch h
 | (n,k)::r,cs,h=>by
  unfold clOf
  rcases List.mem_cons.mp h with e| h
  ·cases e
   rw [if_pos (show (NameKind.free==NameKind.free)=true by decide),hx]
   exact zD1 hx (by rw [List.lookup_cons];simp)
  ·by_cases hk:(k==NameKind.free)=true
   ·rw [if_pos hk]
    cases q:env.cells.lookup n with
    | none=>exact zE0 hx h
    | some d=>exact zE0 hx h
   ·rw [if_neg hk];exact zE0 hx h
theorem zDc {x:Str}:∀{l:List (Str×NameKind)} {n:Nat} {acc:List (Str×Addr)},(∀y∈l,y.2= .cell->y.1≠x)->(cellsFrom n l acc).lookup x=acc.lookup x
 | [],_,_,_=>rfl
 | (y,k)::r,n,acc,h=>by
  have hr:∀z∈r,z.2= .cell->z.1≠x:=fun z hz=>h z (List.mem_cons_of_mem _ hz)
  unfold cellsFrom
  split
  ·rename_i hk
   rw [zDc hr,List.lookup_cons]
   have:(x==y)=false:=by
    have:=h (y,k) List.mem_cons_self (by simpa using hk)
    exact beq_eq_false_iff_ne.mpr (fun z=>this z.symm)
   rw [this]
  ·exact zDc hr
theorem zB6 {x:Str} {c:Addr}:∀{l:List (Str×NameKind)} {n:Nat} {acc:List (Str×Addr)},(cellsFrom n l acc).lookup x=some c->acc.lookup x=some c\/(n<=c/\(x,NameKind.cell)∈l)
 | [],_,_,h=>.inl h
 | (y,k)::r,n,acc,h=>by
  unfold cellsFrom at h
  split at h
  ·rename_i hk
   have hk':k= .cell:=by simpa using hk
   rcases zB6 h with z| ⟨z1,z2⟩
   ·rw [List.lookup_cons] at z
    cases hx:x==y with
    | true =>
     rw [hx] at z
     have e:n=c:=Option.some.inj z
     have e2:x=y:=by simpa using hx
     subst e2;subst hk'
     exact .inr ⟨Nat.le_of_eq e,List.mem_cons_self⟩
    | false=>rw [hx] at z;exact .inl z
   ·exact .inr ⟨Nat.le_trans (Nat.le_succ _) z1,List.mem_cons_of_mem _ z2⟩
  ·rcases zB6 h with z| ⟨z1,z2⟩
   ·exact .inl z
   ·exact .inr ⟨z1,List.mem_cons_of_mem _ z2⟩
theorem zDd:∀{l:List (Str×NameKind)} {n:Nat} {acc:List (Str×Addr)},(∀x y c,acc.lookup x=some c->acc.lookup y=some c->x=y)->(∀z d,acc.lookup z=some d->d<n)->∀x y c,(cellsFrom n l acc).lookup x=some c->(cellsFrom n l acc).lookup y=some c->x=y
 | [],_,_,p,_=>p
 | (w,k)::r,n,acc,p,lt=>by
  unfold cellsFrom
  split
  ·refine zDd (l:=r) (n:=n+1) (acc:=(w,n)::acc) (fun x y c h1 h2=>?_) (fun z d h=>?_)
   ·rw [List.lookup_cons] at h1 h2
    cases hx:x==w with
    | true =>
     rw [hx] at h1
     have e1:n=c:=Option.some.inj h1
     cases hy:y==w with
     | true=>exact (by simpa using hx:x=w).trans (by simpa using hy:y=w).symm
     | false =>
      rw [hy] at h2
      have:=lt y c h2
      rw [<-e1] at this
      exact absurd this (Nat.lt_irrefl _)
    | false =>
     rw [hx] at h1
     cases hy:y==w with
     | true =>
      rw [hy] at h2
      have e2:n=c:=Option.some.inj h2
      have:=lt x c h1
      rw [<-e2] at this
      exact absurd this (Nat.lt_irrefl _)
     | false=>rw [hy] at h2;exact p x y c h1 h2
   ·rw [List.lookup_cons] at h
    cases hz:z==w with
    | true =>
     rw [hz] at h
     have e:n=d:=Option.some.inj h
     rw [<-e];exact Nat.lt_succ_self _
    | false =>
     rw [hz] at h
     exact Nat.lt_succ_of_lt (lt z d h)
  ·exact zDd p lt
theorem zCw {x:Str} {c:Addr}:∀{l:List (Str×NameKind)} {h:Heap} {acc:List (Str×Addr)},(∀y d,acc.lookup y=some d->∃v,h.IsCell d v)->(cellsFrom h.objs.size l acc).lookup x=some c->∃v,(pushCells h l).IsCell c v
 | [],_,_,hA,e=>hA x c e
 | (y,k)::r,h,acc,hA,e=>by
  unfold cellsFrom at e
  unfold pushCells
  split at e
  ·rename_i hk
   rw [if_pos hk]
   have hs:(h.push {cls:=.type "cell",data:=.cell none}:Heap).objs.size=h.objs.size+1:=Heap.size_push ..
   rw [<-hs] at e
   refine zCw (fun z d hz=>?_) e
   rw [List.lookup_cons] at hz
   cases hzy:z==y with
   | true =>
    rw [hzy] at hz
    have e:h.objs.size=d:=Option.some.inj hz
    subst e
    exact ⟨none,_,Heap.get?_push_size _ rfl,rfl⟩
   | false =>
    rw [hzy] at hz
    obtain ⟨v,o,ho,hd⟩:=hA z d hz
    exact ⟨v,o,Heap.get?_push_of_some _ ho,hd⟩
  ·rename_i hk
   rw [if_neg hk]
   exact zCw hA e
theorem zEi {M:Model} {A:Around} {E:Value->Shared->Prop} {s:Shared} {scope:Scope} {globals:Addr} {cl:List (Str×Addr)} {qual:Str} {outer:Env} {Q:Env->Shared->Prop}
  (h:Q (newEnv scope s.heap.objs.size globals (cellsFrom (s.heap.objs.size+1) scope.names cl) qual none .none (some outer) builtinsNs) {s with heap:=pushCells (s.heap.push {cls:=.type "dict",data:=.dict #[]}) scope.names}) :
  wpAny M A (newFunctionEnv scope globals cl [] qual none .none (some outer)) Q E s:=by
 simp only [newFunctionEnv,Option.isSome_some,if_true]
 refine wpAny_bind (wpAny_alloc ?_)
 refine wpAny_bind (wpAny_layCells _ (fun name kind cells=>by cases hkc:kind==NameKind.cell<;>simp [hkc]) _ _ _ _ ?_)
 rw [show ({s with heap:=s.heap.push {cls:=.type "dict",data:=.dict #[]}}:Shared).heap.objs.size=s.heap.objs.size+1 from Heap.size_push ..]
 rw [List.forIn_nil]
 exact wpAny_bind (wpAny_pure (wpAny_pure h))
theorem zEz {env:Env} {x:Str}:∀{l:List (Str×NameKind)} {cs:List (Str×Addr)},(∀y∈l,y.2= .free->y.1≠x)->(clOf env l cs).lookup x=cs.lookup x
 | [],_,_=>rfl
 | (n,k)::r,cs,h=>by
  have hr:∀z∈r,z.2= .free->z.1≠x:=fun z hz=>h z (List.mem_cons_of_mem _ hz)
  unfold clOf
  by_cases hk:(k==NameKind.free)=true
  ·rw [if_pos hk]
   have nx:(x==n)=false:=beq_eq_false_iff_ne.mpr fun z=>h (n,k) List.mem_cons_self (by simpa using hk) z.symm
   cases q:env.cells.lookup n with
   | none=>exact zEz hr
   | some d =>
    rw [show (clOf env r ((n,d)::cs)).lookup x=((n,d)::cs).lookup x from zEz hr,List.lookup_cons,nx]
  ·rw [if_neg hk];exact zEz hr
def Cx.block (X:Cx) (scope:Scope) (C:Addr) (s₀:Shared) (H₀:Hp) (ex:List Addr) (N:List Str):Cx where
 prog:=X.prog
 w:=X.w
 K:=X.K
 mg:=X.mg
 base:=X.base
 A:=X.A
 N:=N
 s₀:=s₀
 H₀:=H₀
 env:=compEnvC scope (cellsFrom (C+1) scope.names (clOf X.env scope.names [])) C X.env
 outer:=X.stack
 stack:=X.stack
 ex:=ex
 fn:=fun x=>scope.names.lookup x==some .cell
 calm:=X.calm
 pn:=[]
 xe:=fun _ _=>False
structure BlkSc (X:Cx) (scope:Scope):Prop where
 kind:scope.kind= .function
 apart:∀y∈scope.names,∀z∈scope.names,y.2= .cell->z.2= .free->y.1≠z.1
 owns:∀y∈scope.names,y.2= .cell->scope.names.lookup y.1=some .cell
 free:∀y∈scope.names,y.2= .free->X.env.kindOf y.1=some .cell\/X.env.kindOf y.1=some .free
 locs:∀y∈scope.names,y.2= .local->scope.names.lookup y.1=some .local
theorem zCr {scope:Scope} {env:Env} {x:Str} {k:NameKind}:∀{l:List (Str×NameKind)}, 
  (l.map fun (n,k)=>if (k==NameKind.free&&env.scope.kind== .function&&env.kindOf n==some .cell) then (n,NameKind.cell) else (n,k)).lookup x=some k ->
  k= .cell\/k= .free->∃k',(x,k')∈l/\(k'= .cell\/k'= .free)
 | [],h,_=>by simp at h
 | (n,j)::r,h,hk=>by
  have h:List.lookup x ((if (j==NameKind.free&&env.scope.kind== .function&&env.kindOf n==some .cell)=true then (n,NameKind.cell) else (n,j))::(r.map fun (n,k)=>if (k==NameKind.free&&env.scope.kind== .function&&env.kindOf n==some .cell) then (n,NameKind.cell) else (n,k)))=some k:=h
  by_cases hc:(j==NameKind.free&&env.scope.kind== .function&&env.kindOf n==some .cell)=true
  ·rw [if_pos hc,List.lookup_cons] at h
   have hj:j= .free:=by
    simp only [Bool.and_eq_true] at hc
    simpa using hc.1.1
   cases hx:x==n with
   | true =>
    have:x=n:=by simpa using hx
    subst this
    exact ⟨j,List.mem_cons_self,.inr hj⟩
   | false =>
    rw [hx] at h
    obtain ⟨k',m,q⟩:=zCr (scope:=scope) h hk
    exact ⟨k',List.mem_cons_of_mem _ m,q⟩
  ·rw [if_neg hc,List.lookup_cons] at h
   cases hx:x==n with
   | true =>
    rw [hx] at h
    have e:j=k:=Option.some.inj h
    have:x=n:=by simpa using hx
    subst this
    exact ⟨j,List.mem_cons_self,by rw [e];exact hk⟩
   | false =>
    rw [hx] at h
    obtain ⟨k',m,q⟩:=zCr (scope:=scope) h hk
    exact ⟨k',List.mem_cons_of_mem _ m,q⟩
inductive Draws (X:Cx) (scope:Scope):List Str->List (Option Nat)->Prop
 | nil:Draws X scope [] []
 | own {x:Str} {N:List Str} {ix:List (Option Nat)}:Draws X scope N ix->Draws X scope (x::N) (Option.none::ix)
 | tk {x:Str} {N:List Str} {ix:List (Option Nat)} {i:Nat} (hN:X.N[i]?=some x) (hv:Vis X.env.scope x) (hk:(relabel scope X.env).names.lookup x=some .cell\/(relabel scope X.env).names.lookup x=some .free) (hf:(x,NameKind.free)∈scope.names) :
   Draws X scope N ix->Draws X scope (x::N) (some i::ix)
def zCx (σ:St) (ix:List (Option Nat)):St:=ix.map fun o=>o.bind fun i=>(σ[i]?).join
theorem Draws.len {X:Cx} {scope:Scope} {N:List Str} {ix:List (Option Nat)} (D:Draws X scope N ix):ix.length=N.length:=by
 induction D with
 | nil=>rfl
 | own _ ih=>simp [ih]
 | tk _ _ _ _ _ ih=>simp [ih]
theorem Draws.get {X:Cx} {scope:Scope} {N:List Str} {ix:List (Option Nat)} {σ:St} (D:Draws X scope N ix):∀(j:Nat) (x:Str) (v:V),N[j]?=some x->(zCx σ ix)[j]?=some (some v) ->
  ∃(i:Nat),X.N[i]?=some x/\σ[i]?=some (some v)/\Vis X.env.scope x/\((relabel scope X.env).names.lookup x=some .cell\/(relabel scope X.env).names.lookup x=some .free)/\(x,NameKind.free)∈scope.names:=by
 induction D with
 | nil=>intro j x v h;simp at h
 | own d ih =>
  intro j x v h1 h2
  cases j with
  | zero=>simp [zCx] at h2
  | succ j=>exact ih j x v (by simpa using h1) (by simpa [zCx] using h2)
 | @tk y N ix i hN hv hk hf d ih =>
  intro j x v h1 h2
  cases j with
  | zero =>
   have e:y=x:=by simpa using h1
   subst e
   refine ⟨i,hN,?_,hv,hk,hf⟩
   have h2:((σ[i]?).join)=some v:=by simpa [zCx] using h2
   cases q:σ[i]? with
   | none=>rw [q] at h2;cases h2
   | some o=>rw [q] at h2;exact congrArg some h2
  | succ j=>exact ih j x v (by simpa using h1) (by simpa [zCx] using h2)
section
variable {X:Cx} {pins:List (Addr×Obj)} {σ:St} {H:Hp} {s:Shared} {scope:Scope} {N:List Str} {ix:List (Option Nat)} {fp:List Addr}
theorem Inv.nostk (I:Inv X pins σ H s) {b:Addr} (h1:b≠X.env.locals) (h2:b∉X.fs):b∉frs X.stack:=fun z=>(List.mem_cons.mp (I.stkSub b z)).elim h1 h2
theorem Inv.blockStart {h':Heap} {tk:Nat} {m:Str->Option Value} (I:Inv X pins σ H s) (B:BlkSc X scope) (D:Draws X scope N ix) (hfp:∀b∈fp,FpOk X pins H b) (hfo:∀b∈fp,∃o,s.heap.get? b=some o)
  (hns:h'.Ns s.heap.objs.size m) (hk:∀b o,s.heap.get? b=some o->h'.get? b=some o) (hcl:∀x c,(cellsFrom (s.heap.objs.size+1) scope.names (clOf X.env scope.names [])).lookup x=some c->∃v,h'.IsCell c v) :
  Inv (X.block scope s.heap.objs.size s H fp N) (X.pn++pins) (zCx σ ix) H {s with heap:=h',toks:=tk}:=by
 have sub:∀{x:Str} {c:Addr},(clOf X.env scope.names []).lookup x=some c->X.env.cells.lookup x=some c:=fun {x c} e=>zD0 (fun y d z=>by simp at z) e
 have old:∀{x:Str} {c:Addr},(clOf X.env scope.names []).lookup x=some c->c<s.heap.objs.size:=fun {x c} e=>by
  obtain ⟨v,o,ho,_⟩:=I.cell x c (sub e)
  exact Heap.lt_size ho
 have two:∀{x:Str} {c:Addr},(cellsFrom (s.heap.objs.size+1) scope.names (clOf X.env scope.names [])).lookup x=some c->X.env.cells.lookup x=some c\/s.heap.objs.size<c:=fun {x c} e=>by
  rcases zB6 e with z| ⟨z,_⟩
  ·exact .inl (sub z)
  ·exact .inr z
 have own:∀{x:Str},(x,NameKind.free)∈scope.names->(cellsFrom (s.heap.objs.size+1) scope.names (clOf X.env scope.names [])).lookup x=(clOf X.env scope.names []).lookup x:=fun {x} hx=>zDc fun y hy e=>B.apart y hy _ hx e rfl
 have okB:(X.block scope s.heap.objs.size s H fp N).Ok:=by
  refine ⟨I.ok.mod,B.kind,I.ok.glob,I.ok.blt,Nat.le_refl _,zDd (fun x y c h1 h2=>I.ok.inj x y c (sub h1) (sub h2)) (fun z d h=>Nat.lt_succ_of_lt (old h)),fun x hx=>?_,(fun x c z e=>?_),I.ok.hd,I.ok.frames,.inl rfl,fun b hb=>⟨?_,fun x c e=>?_⟩,
   I.bs,Nat.le_trans I.ok.bsz I.sz,fun b o e hb=>?_,fun b hb=>I.nostk (hfp b hb).2.1 (hfp b hb).2.2.1,I.stack,I.stkFree⟩
  ·have hx':(relabel scope X.env).names.lookup x=some .cell\/(relabel scope X.env).names.lookup x=some .free:=hx
   have key:∃k',(x,k')∈scope.names/\(k'= .cell\/k'= .free):=by
    rcases hx' with e| e
    ·exact zCr (scope:=scope) e (.inl rfl)
    ·exact zCr (scope:=scope) e (.inr rfl)
   obtain ⟨k',m1,q⟩:=key
   rcases q with q| q
   ·subst q
    exact Option.isSome_iff_exists.mp (PySem.W.cellsFrom_some _ _ _ (.inl (B.owns _ m1 rfl)))
   ·subst q
    obtain ⟨c,hc⟩:=I.ok.has x (B.free _ m1 rfl)
    exact ⟨c,(own m1).trans (zE0 hc m1)⟩
  ·rcases zB6 e with q| ⟨q,_⟩
   ·have z:scope.names.lookup x=some .cell:=by
     have z:(scope.names.lookup x==some NameKind.cell)=true:=z
     simpa using z
    have hm:=PySem.mem_of_lookup z
    have:(x,NameKind.free)∈scope.names\/True:=.inr trivial
    exact absurd q (by
     rw [zEz (fun y hy e1 e2=>B.apart _ hm y hy rfl e1 e2.symm)]
     intro h;cases h)
   ·exact Nat.le_of_lt q
  ·obtain ⟨o,e⟩:=hfo b hb
   exact Nat.ne_of_lt (Heap.lt_size e)
  ·rcases two e with z| z
   ·exact (hfp b hb).2.2.2.2.1 x c z
   ·obtain ⟨o,e⟩:=hfo b hb
    exact Nat.ne_of_gt (Nat.lt_trans (Heap.lt_size e) z)
  ·rcases (hfp b hb).2.2.2.1 with z| z
   ·exact I.ok.noex b o e z
   ·exact absurd (Nat.lt_of_lt_of_le (Heap.lt_size (I.ok.bs b o e).1) z) (Nat.lt_irrefl _)
 refine ⟨okB,rfl,I.bare,Un.kept hk,⟨m,hns,fun j x v h1 h2 h3=>?_⟩,fun x c e=>?_,I.hok.fresh (Nat.le_refl _),fun x c e=>(two e).elim (fun z=>I.freeC x c z) (fun z=>I.hok.fresh (Nat.le_of_lt z)),fun p hp=>?_,I.hok.kept hk,?_⟩
 ·obtain ⟨i,e1,e2,vis,kd,fr⟩:=D.get j x v h1 h2
  obtain ⟨m0,hn0,hl⟩:=I.loc
  obtain ⟨u,r,l⟩:=hl i x v e1 e2 vis
  refine ⟨u,r,?_⟩
  rcases l with ⟨k,_⟩| ⟨_,c,hc,o,ho,hd⟩
  ·rcases B.free _ fr rfl with z| z
   ·have z:X.env.kindOf x=some .cell:=z
    rw [k] at z;cases z
   ·have z:X.env.kindOf x=some .free:=z
    rw [k] at z;cases z
  ·exact .inr ⟨kd,c,(own fr).trans (zE0 hc fr),o,hk c o ho,hd⟩
 ·exact hcl x c e
 ·have hp':p∈X.pn++pins:=by simpa [Cx.block] using hp
  obtain ⟨e,n,ne,nf,d⟩:=I.pin p hp'
  exact ⟨hk _ _ e,n,Nat.ne_of_lt (Heap.lt_size e),I.nostk ne nf,d⟩
 ·show (zCx σ ix).length=N.length
  unfold zCx
  rw [List.length_map]
  exact D.len
end
def PTs (X:Cx) (ifs:List Expr) (t:TT):Prop :=
 ∀(pins:List (Addr×Obj)) (s:Shared) (σ:St) (H:Hp) (Q:Bool->Hp->Prop),Inv X pins σ H s->t σ H Q ->
  wpAny (model X.prog X.w) X.A (forIn ifs true fun c r=>if r=true then do let ok<-isTrue c X.env (eval c X.env);pure (ForInStep.yield ok) else pure (ForInStep.yield r)) (TP X pins σ Q) X.xe s
def tTrue:TT:=fun _ H Q=>Q true H
theorem zDk {X:Cx}:PTs X [] tTrue:=fun _ _ _ H _ I h=>wpAny_tests_nil ⟨H,I,h⟩
theorem zBr {X:Cx} {c:Expr} {t:TT} (h:PT X c t):PTs X [c] t:=fun pins s σ H Q I hw=>wpAny_tests_one (h pins s σ H Q I hw)
theorem comp_loop {prog:Program} {w:World} {A:Around} {R:Result->Shared->Prop} {s:Shared} {elt target iter:Expr} {ifs:List Expr} {scope:Scope} {pos:Pos} {it acc:Value} {env:Env} (I:Nat->Shared->Prop)
  (turn:∀n s,I n s->wpAny (model prog w) A (pyNext it) (fun r s₁=>match r with
   | none=>R (.ok .next) s₁
   | some v=>wpAny (model prog w) A (letOwnedTupleGo target it v) (fun _ s₁'=>wpAny (model prog w) A (assign target env v) (fun _ s₂ =>
     wpAny (model prog w) A (forIn ifs true fun c r=>if r=true then do let ok<-isTrue c env (eval c env);pure (ForInStep.yield ok) else pure (ForInStep.yield r)) (fun ok s₃ =>
      if ok=true then wpAny (model prog w) A (eval elt env) (fun x s₄ =>
       wpAny (model prog w) A (call (.builtin "list.append") [acc,x]) (fun _ s₅=>∃m,m<n/\I m s₅) (fun _ _=>False) s₄) (fun _ _=>False) s₃
      else∃m,m<n/\I m s₃) (fun _ _=>False) s₂) (fun _ _=>False) s₁') (fun _ _=>False) s₁) (fun _ _=>False) s)
  (n:Nat) (h:I n s) :
  codeAny (model prog w) A (.compLoop (.ListComp elt [⟨target,iter,ifs,0⟩] scope pos) 0 it acc env) R s:=by
 refine codeAny_loop rfl I (fun n s hI=>?_) n h
 show wpAny _ A ((compTurn (.ListComp elt [⟨target,iter,ifs,0⟩] scope pos) 0 it acc env).onRaise (fun x=>do noteFrame x env;theTreesLotGoes x)) _ _ s
 refine wpAny_noted ?_
 rw [compTurn_list]
 refine wpAny_bind (wpAny_standAt (wpAny_bind (wpAny_mono (turn n s hI) (fun r s₁ h₁=>?_) fun _ _ h'=>h'.elim)))
 cases r with
 | none=>exact wpAny_pure h₁
 | some v =>
  refine wpAny_bind (wpAny_mono h₁ (fun _ s₁' h₁'=>?_) fun _ _ h'=>h'.elim)
  refine wpAny_bind (wpAny_mono h₁' (fun _ s₂ h₂=>wpAny_bind (wpAny_mono h₂ (fun ok s₃ h₃=>?_) fun _ _ h'=>h'.elim)) fun _ _ h'=>h'.elim)
  cases ok with
  | false=>exact wpAny_pure ⟨rfl,h₃⟩
  | true =>
   exact wpAny_bind (wpAny_bind (wpAny_mono h₃ (fun x s₄ h₄=>wpAny_bind (wpAny_mono h₄ (fun _ s₅ h₅=>wpAny_pure (wpAny_pure ⟨rfl,h₅⟩)) fun _ _ h'=>h'.elim)) fun _ _ h'=>h'.elim))
def tComp (wi:TI) (ix:List (Option Nat)) (g:TG) (tt:TT) (te:TE):TE:=fun σ H Q=>wi σ H fun J H1=>∀D,H1 D=none->∃W:Nat->Nat->List V->St->Hp->Prop,
 (∃m,W 0 m [] (zCx σ ix) (upd H1 D (.lst [])))/\∀i m ys τ H2,W i m ys τ H2 ->
  (J.stop i H2/\Q (.ref D) H2)\/(J.go i H2/\∃N:List V->St->Hp->Prop,(∀ys' τ' H',N ys' τ' H'->∃m',m'<m/\W (i+1) m' ys' τ' H')/\∀x H3,J.yld i H2 x H3->g x τ H3 fun τ' H4=>tt τ' H4 fun b H5 =>
   if b=true then te τ' H5 fun v H6=>H6 D=some (.lst ys)/\ys.length<sizeLine/\N (ys++[v]) τ' (upd H6 D (.lst (ys++[v])))
   else N ys τ' H5)
theorem block_loop {Y:Cx} {tg elt iter:Expr} {ifs:List Expr} {scope:Scope} {pos:Pos} {g:TG} {tt:TT} {te:TE} {J:It} {fp:List Addr} {it D:Addr} {tn:Nat->Heap->Prop} {P:List (Addr×Obj)} {W:Nat->Nat->List V->St->Hp->Prop} {m0:Nat}
  {R:Result->Shared->Prop} {QD:Hp->Prop} {s4:Shared} {τ0:St} {H4:Hp}
  (hc:Y.calm=true) (hx:∀e s,Y.xe e s->False) (hg:PG Y tg g) (ht:PTs Y ifs tt) (he:PE Y elt te) (T:Turn Y.prog Y.w Y.K tg J fp it tn)
  (stat:∀{H':Hp},(∀b∈fp,H' b=none)->∀b∈fp,FpOk Y P H' b)
  (turn:∀i m ys τ H2,W i m ys τ H2->(J.stop i H2/\QD H2)\/(J.go i H2/\∃N:List V->St->Hp->Prop,(∀ys' τ' H',N ys' τ' H'->∃m',m'<m/\W (i+1) m' ys' τ' H')/\∀x H3,J.yld i H2 x H3->g x τ H3 fun τ' H4=>tt τ' H4 fun b H5 =>
   if b=true then te τ' H5 fun v H6=>H6 D=some (.lst ys)/\ys.length<sizeLine/\N (ys++[v]) τ' (upd H6 D (.lst (ys++[v])))
   else N ys τ' H5))
  (fin:∀τ H' s',Inv Y P τ H' s'->QD H'->R (.ok .next) s')
  (I0:Inv Y P τ0 H4 s4) (t0:tn 0 s4.heap) (n0:∀b∈fp,H4 b=none) (w0:W 0 m0 [] τ0 H4) :
  codeAny (model Y.prog Y.w) Y.A (.compLoop (.ListComp elt [⟨tg,iter,ifs,0⟩] scope pos) 0 (.ref it) (.ref D) Y.env) R s4:=by
 have nx:∀{α:Type} {t:Sem α} {Q:α->Shared->Prop} {s:Shared},wpAny (model Y.prog Y.w) Y.A t Q Y.xe s->wpAny (model Y.prog Y.w) Y.A t Q (fun _ _=>False) s:=fun h=>wpAny_mono h (fun _ _ q=>q) hx
 refine comp_loop (fun n s'=>∃i ys τ H',Inv Y P τ H' s'/\tn i s'.heap/\(∀b∈fp,H' b=none)/\W i n ys τ H') ?_ m0 ⟨0,[],τ0,H4,I0,t0,n0,w0⟩
 rintro n s5 ⟨i,ys,τ,H5,I5,st5,fr5,w5⟩
 rcases turn i n ys τ H5 w5 with ⟨stop,q⟩| ⟨go,N,hN,step⟩
 ·refine thn (T.done Y rfl rfl rfl hc i P s5 τ H5 _ I5 (stat fr5) st5 stop) fun r s6 ⟨hr,I6⟩=>?_
  subst hr
  exact fin τ H5 s6 I6 q
 ·refine thn (T.item Y rfl rfl rfl hc i P s5 τ H5 _ I5 (stat fr5) st5 go) fun r s6 ⟨u,hr,h6⟩=>?_
  subst hr
  refine thn h6 fun _ s7 ⟨x,H7,I7,r7,y7,st7,fr7⟩=>?_
  have I7':=I7.pinned (stat fr7) (T.obj _ _ st7)
  refine nx (thn (hg _ s7 τ H7 x u _ I7' r7 (step x H7 y7)) fun _ s8 ⟨τ8,H8,I8,q8⟩=>?_)
  refine nx (thn (ht _ s8 τ8 H8 _ I8 q8) fun ok s9 ⟨H9,I9,q9⟩=>?_)
  have again:∀{ys':List V} {H':Hp} {s':Shared},Inv Y (P++pinsAt fp s7.heap) τ8 H' s'->(∃m',m'<n/\W (i+1) m' ys' τ8 H')->∃m,m<n/\∃i ys τ H',Inv Y P τ H' s'/\tn i s'.heap/\(∀b∈fp,H' b=none)/\W i m ys τ H':=fun {ys' H' s'} I' ⟨m',hm,w'⟩=>by
   refine ⟨m',hm,i+1,ys',τ8,H',I'.unpinned,T.keep _ _ _ st7 fun b hb o e=>(I'.pin (b,o) (List.mem_append_right _ (List.mem_append_right _ (zDz hb e)))).1,fun b hb=>?_,w'⟩
   obtain ⟨o,e,d⟩:=T.obj _ _ st7 b hb
   exact (I'.pin (b,o) (List.mem_append_right _ (List.mem_append_right _ (zDz hb e)))).2.1
  cases ok with
  | false =>
   rw [if_neg Bool.false_ne_true] at q9 ⊢
   exact again I9 (hN _ _ _ q9)
  | true =>
   rw [if_pos rfl] at q9 ⊢
   refine nx (thn (he _ s9 τ8 H9 _ I9 q9) fun y s10 ⟨v,H10,I10,r10,hD,hz,w10⟩=>?_)
   refine nx (thn (zB5 (X:=Y) _ s10 τ8 H10 (.ref D) [v] (.ref D) [y] (fun _ H'=>H'=upd H10 D (.lst (ys++[v]))) I10 rfl (.cons r10 .nil) ⟨D,ys,v,rfl,rfl,hD,hz,rfl⟩) fun _ s11 ⟨z,H11,I11,_,e11⟩=>?_)
   subst e11
   exact again I11 (hN _ _ _ w10)
theorem run_comp {X:Cx} {elt tg iter:Expr} {ifs:List Expr} {scope:Scope} {pos p1:Pos} {N:List Str} {ix:List (Option Nat)} {wi:TI} {g:TG} {tt:TT} {te:TE} {pins:List (Addr×Obj)} {s:Shared} {σ:St} {H:Hp} {Q:VK} {use:Option (Value->Sem Unit)}
  {Z:Value->Shared->Prop}
  (hc:X.calm=true) (B:BlkSc X scope) (Dr:Draws X scope N ix) (hi:PI X tg iter wi)
  (hg:∀C s₀ H₀ ex,PG (X.block scope C s₀ H₀ ex N) tg g) (ht:∀C s₀ H₀ ex,PTs (X.block scope C s₀ H₀ ex N) ifs tt) (he:∀C s₀ H₀ ex,PE (X.block scope C s₀ H₀ ex N) elt te)
  (hs:∀x,foldedSetIterable iter X.env x=pure x)
  (I:Inv X pins σ H s) (h:tComp wi ix g tt te σ H Q)
  (fin:∀(D C:Addr) (H':Hp) (s':Shared) (m:Str->Option Value),Inv X pins σ H' s'->Q (.ref D) H'->s'.heap.Ns C m->(∀h',Heap.SameBut C s'.heap h'->Inv X pins σ H' {s' with heap:=h'})->C≠X.env.locals->(∀x c,X.env.cells.lookup x=some c->c≠C)->H' C=none ->
   (∀p∈X.pn++pins,p.1≠C)->X.s₀.heap.objs.size<=C->compPost (model X.prog X.w) X.A X.xe use Z (.ref D) C (.ok .next) s') :
  wpAny (model X.prog X.w) X.A (comprehension (.ListComp elt [⟨tg,iter,ifs,0⟩] scope pos) scope X.env p1 (newList []) false (eval iter X.env) use) Z X.xe s:=by
 have hfree:∀x∈scope.names,x.2= .free->∃c,X.env.cells.lookup x.1=some c:=fun x hx e=>I.ok.has _ (B.free x hx e)
 refine wpAny_comprehension_free (use:=use) rfl hs (zIw hfree) B.kind B.locs ?_
 refine thn (hi pins s σ H _ I h) fun v s1 h1=>thn h1 fun itv s2 h2=>?_
 obtain ⟨it,fp,tn,J,H2,e,I2,T,st2,f2,R⟩:=h2
 subst e
 have hDf:H2 s2.heap.objs.size=none:=I2.hok.fresh (Nat.le_refl _)
 obtain ⟨W,⟨m0,w0⟩,turn⟩:=R _ hDf
 refine wpAny_newObj_type ?_ (by show (0:Nat)<=sizeLine;exact Nat.zero_le _)
 have I3:Inv X pins σ (upd H2 s2.heap.objs.size (.lst [])) {s2 with heap:=s2.heap.push {cls:=.type "list",data:=.seq ([]:List Value).toArray}}:=I2.lnew (t':=s2.toks) (ys:=[]) (its:=[]) .nil (Nat.zero_le _)
 generalize hD:s2.heap.objs.size=D at *
 have fpo:∀b∈fp,∃o,s2.heap.get? b=some o:=fun b hb=>let ⟨o,q,_⟩:=T.obj _ _ st2 b hb;⟨o,q⟩
 have fpD:∀b∈fp,b≠D:=fun b hb=>by
  obtain ⟨o,q⟩:=fpo b hb
  rw [<-hD];exact Nat.ne_of_lt (Heap.lt_size q)
 have f3:∀b∈fp,FpOk X pins (upd H2 D (.lst [])) b:=fun b hb=>⟨by rw [upd_ne (fpD b hb)];exact (f2 b hb).1,(f2 b hb).2⟩
 generalize hs3:({s2 with heap:=s2.heap.push {cls:=.type "list",data:=.seq ([]:List Value).toArray}}:Shared)=s3 at I3 ⊢
 have k23:∀b o,s2.heap.get? b=some o->s3.heap.get? b=some o:=fun b o q=>by rw [<-hs3];exact Heap.get?_push_of_some _ q
 have fpo3:∀b∈fp,∃o,s3.heap.get? b=some o:=fun b hb=>let ⟨o,q⟩:=fpo b hb;⟨o,k23 b o q⟩
 have st3:tn 0 s3.heap:=T.keep _ _ _ st2 fun b hb o q=>k23 b o q
 refine zEi ?_
 have k34:∀b o,s3.heap.get? b=some o->(pushCells (s3.heap.push {cls:=.type "dict",data:=.dict #[]}) scope.names).get? b=some o:=fun b o q=>pushCells_keeps _ _ b o (Heap.get?_push_of_some _ q)
 have hns4:(pushCells (s3.heap.push {cls:=.type "dict",data:=.dict #[]}) scope.names).Ns s3.heap.objs.size (fun _=>none):=(Heap.Ns.new s3.heap (.type "dict")).keeps (pushCells_keeps _ _)
 have hcl4:∀x c,(cellsFrom (s3.heap.objs.size+1) scope.names (clOf X.env scope.names [])).lookup x=some c->∃v,(pushCells (s3.heap.push {cls:=.type "dict",data:=.dict #[]}) scope.names).IsCell c v:=fun x c e=>by
  refine zCw (h:=s3.heap.push {cls:=.type "dict",data:=.dict #[]}) (acc:=clOf X.env scope.names []) (fun y d hy=>?_) (by rw [Heap.size_push];exact e)
  obtain ⟨v,o,ho,hd⟩:=I3.cell y d (zD0 (fun y d z=>by simp at z) hy)
  exact ⟨v,o,Heap.get?_push_of_some _ ho,hd⟩
 have IB:=I3.blockStart (tk:=s3.toks) B Dr f3 fpo3 hns4 k34 hcl4
 generalize hh4:pushCells (s3.heap.push {cls:=.type "dict",data:=.dict #[]}) scope.names=h4 at *
 generalize hC:s3.heap.objs.size=C at *
 have hCX:X.s₀.heap.objs.size<=C:=by rw [<-hC];exact I3.sz
 have CL:C≠X.env.locals:=by rw [<-hC];exact Nat.ne_of_gt I3.lt
 have Cc:∀x c,X.env.cells.lookup x=some c->c≠C:=fun x c q=>by
  obtain ⟨v,o,ho,_⟩:=I3.cell x c q
  rw [<-hC];exact Nat.ne_of_lt (Heap.lt_size ho)
 have Cp:∀p∈X.pn++pins,p.1≠C:=fun p hp=>by
  rw [<-hC];exact Nat.ne_of_lt (Heap.lt_size (I3.pin p hp).1)
 have fpC:∀b∈fp,b≠C:=fun b hb=>by
  obtain ⟨o,q⟩:=fpo3 b hb
  rw [<-hC];exact Nat.ne_of_lt (Heap.lt_size q)
 have stat:∀{H':Hp},(∀b∈fp,H' b=none)->∀b∈fp,FpOk (X.block scope C s3 (upd H2 D (.lst [])) fp N) (X.pn++pins) H' b:=fun {H'} hn b hb=>by
  obtain ⟨_,q1,q2,q3,q4,q5⟩:=f2 b hb
  exact ⟨hn b hb,fpC b hb,I3.nostk q1 q2,.inl hb,fun x c e=>(zB6 e).elim (fun z=>q4 x c (zD0 (fun y d z=>by simp at z) z)) (fun z=>by obtain ⟨o,q⟩:=fpo3 b hb;have:=Heap.lt_size q;rw [hC] at this;exact Nat.ne_of_gt (Nat.lt_of_lt_of_le (Nat.lt_succ_of_lt this) z.1)),fun p hp=>q5 p (by simpa [Cx.block] using hp)⟩
 have st4:tn 0 h4:=T.keep _ _ _ st3 fun b hb o q=>k34 b o q
 have n4:∀b∈fp,(upd H2 D (.lst [])) b=none:=fun b hb=>(f3 b hb).1
 have loop:=block_loop (Y:=X.block scope C s3 (upd H2 D (.lst [])) fp N) (iter:=iter) (pos:=pos) (scope:=scope) (D:=D) (R:=compPost (model X.prog X.w) X.A X.xe use Z (.ref D) C) hc (fun _ _ z=>z) (hg C s3 _ fp) (ht C s3 _ fp) (he C s3 _ fp) T stat turn
  (fun τ H' s' I' q=>by
   have I5:Inv X pins σ H' s':=I3.call' (ch:=fp) I'.os I'.base I'.hok I'.bare fun b hb=>by
    obtain ⟨_,q1,q2,q3,q4,q5⟩:=f2 b hb
    exact ⟨q3,q1,q4,q5⟩
   obtain ⟨m,hn,_⟩:=I'.loc
   have hC0:H' C=none:=I'.free
   exact fin D C H' s' m I5 q hn (fun h'' hs''=>I5.turned (t':=s'.toks) (fun b o hb e=>hs''.extBut b o hb e) hC0 CL (.inr hCX) Cc Cp) CL Cc hC0 Cp hCX) IB st4 n4 w0
 exact codeAny_compStart_list loop (T.self _ 0 _ _ _ st4 loop)
theorem zBh {X:Cx} {elt tg iter:Expr} {ifs:List Expr} {scope:Scope} {pos:Pos} {N:List Str} {ix:List (Option Nat)} {wi:TI} {g:TG} {tt:TT} {te:TE} (hc:X.calm=true) (B:BlkSc X scope) (Dr:Draws X scope N ix) (hi:PI X tg iter wi)
  (hg:∀C s₀ H₀ ex,PG (X.block scope C s₀ H₀ ex N) tg g) (ht:∀C s₀ H₀ ex,PTs (X.block scope C s₀ H₀ ex N) ifs tt) (he:∀C s₀ H₀ ex,PE (X.block scope C s₀ H₀ ex N) elt te)
  (hs:∀x,foldedSetIterable iter X.env x=pure x:=by intro _;rfl):PE X (.ListComp elt [⟨tg,iter,ifs,0⟩] scope pos) (tComp wi ix g tt te):=by
 intro pins s σ H Q I h
 rw [eval_ListComp]
 exact run_comp (use:=none) hc B Dr hi hg ht he hs I h fun D C H' s' m I' q hn k _ _ _ _ _=>⟨m,hn,fun h' hs'=>⟨.ref D,H',k h' hs',rfl,q⟩⟩
theorem zFa {X:Cx} {elt tg iter:Expr} {ifs:List Expr} {scope:Scope} {pos spos py:Pos} {N:List Str} {ix:List (Option Nat)} {wi:TI} {g:TG} {tt:TT} {te:TE} {i:Nat} {y:Str} (hc:X.calm=true) (B:BlkSc X scope) (Dr:Draws X scope N ix) (hi:PI X tg iter wi)
  (hg:∀C s₀ H₀ ex,PG (X.block scope C s₀ H₀ ex N) tg g) (ht:∀C s₀ H₀ ex,PTs (X.block scope C s₀ H₀ ex N) ifs tt) (he:∀C s₀ H₀ ex,PE (X.block scope C s₀ H₀ ex N) elt te)
  (hN:X.N.Nodup) (hy:X.N[i]?=some y) (hl:X.env.scope.names.lookup y=some .local)
  (hsw:swapsWith (.ListComp elt [⟨tg,iter,ifs,0⟩] scope pos) (some (.Name y py)) spos.line X.env=pure true:=by rfl)
  (hs:∀x,foldedSetIterable iter X.env x=pure x:=by intro _;rfl):PS X (.Assign [.Name y py] (.ListComp elt [⟨tg,iter,ifs,0⟩] scope pos) spos) (tAsg (tComp wi ix g tt te) (gName i)):=by
 intro pins s σ H Dn I h
 rw [exec_Assign_Name_used _ _ _ _ hsw]
 refine wpAny_bind (wpAny_standAt (wpAny_bind ?_))
 show wpAny _ X.A (do let _<-comprehension (.ListComp elt [⟨tg,iter,ifs,0⟩] scope pos) scope X.env _ (newList []) false (eval iter X.env) (some (assign (.Name y py) X.env))) _ _ s
 refine wpAny_bind (thn (run_comp (use:=some (assign (.Name y py) X.env)) (Z:=fun _ s'=>SP X pins Dn .next s') hc B Dr hi hg ht he hs I h fun D C H' s' m I' q hn k CL Cc C0 Cp CX=>?_) fun _ s' hq=>wpAny_pure (wpAny_pure hq))
 show wpAny _ _ (assign (.Name y py) X.env (.ref D)) _ _ s'
 refine wpAny_assign_Name (store_ok2 I' hN hy (.inl hl) (v:=.ref D) rfl (fun s'' I'' ⟨a,sb,ha⟩=>?_) (.inr hl))
 have aC:C≠a:=by
  rcases ha with z| z
  ·rw [z];exact CL
  ·exact (Cc _ _ z).symm
 exact ⟨m,hn.sameBut sb aC,fun h' hs'=>⟨_,H',I''.turned (t':=s''.toks) (fun b o hb e=>hs'.extBut b o hb e) C0 CL (.inr CX) Cc Cp,q⟩⟩
theorem comp_by {J:It} {ix:List (Option Nat)} {g:TG} {tt:TT} {te:TE} {Q:VK} {σ:St} {H1:Hp} {D:Addr} (xs:List V) (Pv:Nat->List V->St->Hp->Prop) (h0:Pv 0 [] (zCx σ ix) (upd H1 D (.lst [])))
  (hJ:∀i ys τ H,Pv i ys τ H->(∀x,xs[i]?=some x->J.go i H/\∀y H',J.yld i H y H'->H'=H/\y=x)/\(i=xs.length->J.stop i H))
  (hs:∀i x ys τ H,xs[i]?=some x->Pv i ys τ H->g x τ H fun τ' H4=>tt τ' H4 fun b H5=>if b=true then te τ' H5 fun v H6=>H6 D=some (.lst ys)/\ys.length<sizeLine/\Pv (i+1) (ys++[v]) τ' (upd H6 D (.lst (ys++[v]))) else Pv (i+1) ys τ' H5)
  (hd:∀ys τ H,Pv xs.length ys τ H->Q (.ref D) H) :
  ∃W:Nat->Nat->List V->St->Hp->Prop,(∃m,W 0 m [] (zCx σ ix) (upd H1 D (.lst [])))/\∀i m ys τ H2,W i m ys τ H2 ->
   (J.stop i H2/\Q (.ref D) H2)\/(J.go i H2/\∃N:List V->St->Hp->Prop,(∀ys' τ' H',N ys' τ' H'->∃m',m'<m/\W (i+1) m' ys' τ' H')/\∀x H3,J.yld i H2 x H3->g x τ H3 fun τ' H4=>tt τ' H4 fun b H5 =>
    if b=true then te τ' H5 fun v H6=>H6 D=some (.lst ys)/\ys.length<sizeLine/\N (ys++[v]) τ' (upd H6 D (.lst (ys++[v])))
    else N ys τ' H5):=by
 refine ⟨fun i m ys τ H=>m=xs.length - i/\i<=xs.length/\Pv i ys τ H,⟨xs.length,by simp,Nat.zero_le _,h0⟩,?_⟩
 rintro i m ys τ H ⟨rfl,hi,p⟩
 obtain ⟨j1,j2⟩:=hJ i ys τ H p
 by_cases hlt:i<xs.length
 ·have hx:xs[i]?=some xs[i]:=by simp [hlt]
  obtain ⟨go,yl⟩:=j1 _ hx
  refine .inr ⟨go,Pv (i+1),fun ys' τ' H' p'=>⟨xs.length - (i+1),by omega,rfl,hlt,p'⟩,fun y H' yd=>?_⟩
  obtain ⟨e1,e2⟩:=yl y H' yd
  subst e1 e2
  exact hs i _ ys τ _ hx p
 ·have e:i=xs.length:=by omega
  subst e
  exact .inl ⟨j2 rfl,hd ys τ H p⟩
def blkOk (scope sc:Scope):Bool:=(scope.kind== .function)&&(scope.names.all (fun y=>scope.names.all fun z=>y.2 != .cell||z.2 != .free||y.1 != z.1)&&scope.names.all (fun y=>y.2 != .cell||scope.names.lookup y.1==some .cell))&&scope.names.all (fun y=>y.2 != .free||sc.names.lookup y.1==some .cell||sc.names.lookup y.1==some .free)&&scope.names.all (fun y=>y.2 != .local||scope.names.lookup y.1==some .local)
theorem zBj {X:Cx} {scope sc:Scope} (hsc:X.env.scope=sc) (h:blkOk scope sc=true):BlkSc X scope:=by
 unfold blkOk at h
 simp only [Bool.and_eq_true,List.all_eq_true,Bool.or_eq_true] at h
 obtain ⟨⟨⟨h1,h2,h5⟩,h3⟩,h4⟩:=h
 refine ⟨by simpa using h1,fun y hy z hz e1 e2=>?_,fun y hy e=>?_,fun y hy e=>?_,fun y hy e=>?_⟩
 ·rcases h2 y hy z hz with (q| q)| q
  ·rw [e1] at q;simp at q
  ·rw [e2] at q;simp at q
  ·simpa using q
 ·rcases h5 y hy with q| q
  ·rw [e] at q;simp at q
  ·simpa using q
 ·have q:=h3 y hy
  show X.env.scope.names.lookup y.1=some .cell\/X.env.scope.names.lookup y.1=some .free
  rw [hsc]
  rcases q with (q| q)| q
  ·rw [e] at q;simp at q
  ·exact .inl (by simpa using q)
  ·exact .inr (by simpa using q)
 ·have q:=h4 y hy
  rcases q with q| q
  ·rw [e] at q;simp at q
  ·simpa using q
def relS (scope sc:Scope):Scope:={scope with names:=scope.names.map fun (n,k)=>if (k== .free&&sc.kind== .function&&sc.names.lookup n==some .cell) then (n,.cell) else (n,k)}
theorem blk_in {X:Cx} {e0:Env} {outer scope sc:Scope} (hX:X.env.scope=relabel outer e0) (h0:e0.scope=sc) (h:blkOk scope (relS outer sc)=true):BlkSc X scope :=
 zBj (sc:=relS outer sc) (by rw [hX];subst h0;rfl) h
def Its (z:Str):It:=⟨fun i _=>i<z.cps.size,fun i H x H'=>H'=H/\∃c,z.cps[i]?=some c/\x= .str ⟨#[c]⟩,fun i _=>z.cps.size<=i⟩
theorem turn_str {P:Program} {w:World} {K:PySem.W.Frag} {tg:Expr} (it:Addr) (z:Str) (t:Tok) (ty:String) (hty:ty= "str_ascii_iterator" \/ty= "str_iterator"):Turn P w K tg (Its z) [it] it (fun i h=>h.IsStrIter it ty z t i) where
 mem:=by simp
 obj:=fun i h st b hb=>by
  have e:b=it:=by simpa using hb
  subst e
  obtain ⟨o,e,c,d⟩:=st
  exact ⟨o,e,fun v z=>by rw [d] at z;cases z⟩
 keep:=fun i h h' st k=>by
  obtain ⟨o,e,c,d⟩:=st
  exact ⟨o,k it (by simp) o e,c,d⟩
 item:=by
  intro X hP hw hK hc i pins s σ H E I hf st hg
  subst hP hw hK
  obtain ⟨f0,f1,f2,f3,f4,f5⟩:=hf it (by simp)
  have hlt:i<z.cps.size:=hg
  have hx:z.cps[i]?=some z.cps[i]:=by simp [hlt]
  have fin:∀h':Heap,h'.IsStrIter it ty z t (i+1)->Heap.SameBut it s.heap h'->∃u,some (Value.str ⟨#[z.cps[i]]⟩ s.toks)=some u /\
    wpAny (model X.prog X.w) X.A (letOwnedTupleGo tg (.ref it) u) (fun _ s2=>∃x H',Inv X pins σ H' s2/\RelV x u/\(Its z).yld i H x H'/\s2.heap.IsStrIter it ty z t (i+1)/\∀b∈[it],H' b=none) E {s with heap:=h',toks:=s.toks+1}:=fun h' st' sb=>by
   have I1:Inv X pins σ H {s with heap:=h',toks:=s.toks+1}:=I.turned (t':=s.toks+1) (fun b o hb e=>(sb.2 b hb).trans e) f0 f1 f3 f4 f5
   obtain ⟨o,e,c,d⟩:=id st'
   exact ⟨_,rfl,go_of (s:={s with heap:=h',toks:=s.toks+1}) e c d (by rcases hty with rfl| rfl<;>decide) ⟨.str ⟨#[z.cps[i]]⟩,H,I1,⟨_,rfl⟩,⟨rfl,_,hx,rfl⟩,st',fun b hb=>(hf b hb).1⟩⟩
  rcases hty with rfl| rfl
  ·exact wpAny_pyNext_ascii_item st hx fin
  ·exact wpAny_pyNext_wide_item st hx fin
 done:=by
  intro X hP hw hK hc i pins s σ H E I hf st hg
  subst hP hw hK
  obtain ⟨f0,f1,f2,f3,f4,f5⟩:=hf it (by simp)
  have hle:z.cps.size<=i:=hg
  have hx:z.cps[i]?=none:=by simp [hle]
  have fin:∀h':Heap,Heap.ExtBut it s.heap h'->(none:Option Value)=none/\Inv X pins σ H {s with heap:=h'}:=fun h' eb=>⟨rfl,I.turned (t':=s.toks) (fun b o hb e=>eb b o hb e) f0 f1 f3 f4 f5⟩
  rcases hty with rfl| rfl
  ·exact wpAny_pyNext_ascii_end (I.ok.hd hc) st hx fin
  ·exact wpAny_pyNext_wide_end (I.ok.hd hc) st hx fin
 self:=fun _ _ _ _ _ st h=>by
  rcases hty with rfl| rfl
  ·exact wpAny_pyIter_striter_ascii st h
  ·exact wpAny_pyIter_striter_wide st h
def iStr (tl:TE):TI:=fun σ H R=>tl σ H fun x H1=>∃z,x= .str z/\R (Its z) H1
theorem pi_str {X:Cx} {tg l:Expr} {tl:TE} (hl:PE X l tl):PI X tg l (iStr tl):=by
 intro pins s σ H R I h
 refine thn (hl pins s σ H _ I h) fun v s1 ⟨x,H1,I1,r1,q1⟩=>?_
 obtain ⟨z,e,q⟩:=q1
 subst e
 obtain ⟨t,rfl⟩:=r1
 have fin:∀(ty:String),(ty= "str_ascii_iterator" \/ty= "str_iterator")->PIE X pins σ tg R (.ref s1.heap.objs.size) {s1 with heap:=s1.heap.push {cls:=.type ty,data:=.fields #[.str z t,.int 0 0]}}:=fun ty hty =>
  ⟨s1.heap.objs.size,[s1.heap.objs.size],_,_,H1,rfl,I1.kept (t':=s1.toks) fun b o e=>Heap.get?_push_of_some _ e,turn_str _ z t ty hty,⟨_,Heap.get?_push_size _ rfl,rfl,rfl⟩,fun b hb=>by
   have e:b=s1.heap.objs.size:=by simpa using hb
   subst e
   exact I1.fpOk (Nat.le_refl _) (I1.hok.fresh (Nat.le_refl _)),q⟩
 cases ha:z.cps.all (·<128)
 ·exact wpAny_pyIter_wide ha (fin _ (.inr rfl))
 ·exact wpAny_pyIter_ascii ha (fin _ (.inl rfl))
theorem bls_get {bs:List Bool} {its:List Value} (r:Vals (bs.map V.bl) its) {i:Nat} {v:Value} (h:its[i]?=some v):v= .bool (bs.getD i false)/\i<bs.length:=by
 have hl:=r.length
 rw [List.length_map] at hl
 have hi:i<its.length:=(List.getElem?_eq_some_iff.mp h).1
 have hb:i<bs.length:=by omega
 have e:(bs.map V.bl)[i]?=some (V.bl bs[i]):=by simp [hb]
 obtain ⟨u,hu,ru⟩:=r.get e
 rw [h] at hu
 cases hu
 refine ⟨?_,hb⟩
 have:v= .bool bs[i]:=ru
 rw [this,List.getD_eq_getElem?_getD]
 simp [hb]
theorem all_range (bs:List Bool):(List.range bs.length).all (fun i=>bs.getD i false)=bs.all id:=by
 rw [Bool.eq_iff_iff]
 simp only [List.all_eq_true,List.mem_range]
 constructor
 ·intro h x hx
  obtain ⟨i,hi,rfl⟩:=List.mem_iff_getElem.mp hx
  have:=h i hi
  simpa [List.getD_eq_getElem?_getD,hi] using this
 ·intro h i hi
  have:=h bs[i] (List.getElem_mem hi)
  simpa [List.getD_eq_getElem?_getD,hi] using this
theorem zIx (X:Cx) (hc:X.calm=true):zDe X (.builtin "all") (fun xs H Q=>∃(p:Addr) (bs:List Bool),xs=[.ref p]/\SqL X.K H p (bs.map V.bl)/\Q (.bl (bs.all id)) H):=by
 intro pins s σ H xs us Q I rv h
 obtain ⟨p,bs,rfl,hq,q⟩:=h
 obtain ⟨u,rfl,ru⟩:=rv.one
 cases ru
 obtain ⟨its,r,pl,hz⟩:=I.list hq
 have hl:=r.length
 rw [List.length_map] at hl
 refine call_all_walk (wpAny_pyIter_list pl.isList ?_)
 have hp:p<s.heap.objs.size:=by obtain ⟨o,n,e,_⟩:=pl;exact Heap.lt_size e
 have I1:Inv X pins σ H {s with heap:=s.heap.push {cls:=.type "list_iterator",data:=.fields #[.ref p,.int 0 0]}}:=I.kept (t':=s.toks) fun b o e=>Heap.get?_push_of_some _ e
 refine ⟨s.heap.objs.size,_,_,_,_,_,fun i=>bs.getD i false,rfl,Walks.list (A:=X.A.in1) (show X.A.in1.handled=none from I.ok.hd hc) s.heap.objs.size p (Nat.ne_of_lt hp) its.toArray,⟨⟨_,Heap.get?_push_size _ rfl,rfl,rfl⟩,pl.isList.at fun o e=>Heap.get?_push_of_some _ e⟩,?_,fun h' tk hk=>?_⟩
 ·intro i v s' E' Q' hv hq'
  obtain ⟨rfl,_⟩:=bls_get r (by simpa using hv)
  exact wpAny_truthy_bool hq'
 ·have e:(List.range its.toArray.size).all (fun i=>bs.getD i false)=bs.all id:=by
   rw [List.size_toArray,<-hl];exact all_range bs
  refine ⟨.bl (bs.all id),H,?_,by rw [e];rfl,q⟩
  obtain ⟨f0,f1,f2,f3,f4,f5⟩:=I.fpOk (b:=s.heap.objs.size) (Nat.le_refl _) (I.hok.fresh (Nat.le_refl _))
  exact I1.turned (t':=tk) (fun b o hb e=>hk b o (by simpa using hb) e) f0 f1 f3 f4 f5
theorem zD2 {X:Cx}:zDe X (.builtin "isinstance") (fun xs H Q=>∃x n t b,xs=[x,.ty n]/\TyOf X.K H x t/\PySem.W.kitOne X.K t (.type n)=some b/\Q (.bl b) H):=by
 intro pins s σ H xs us Q I rv h
 obtain ⟨x,n,t,b,rfl,ty,e,q⟩:=h
 obtain ⟨u,c,rfl,rx,rc⟩:=rv.two
 cases (show c=Value.type n from rc)
 exact isinst_ok I rx ty e fun tk=>⟨.bl b,H,I.tok tk,rfl,q⟩
theorem op_le_str {X:Cx}:OpR X (compareOp .LtE) (fun x y H Q=>∃i j,x= .str i/\y= .str j/\Q (.bl (!(decide (j.cps.toList<i.cps.toList)))) H):=by
 intro pins s σ H x y v u Q I rx ry h
 obtain ⟨i,j,rfl,rfl,q⟩:=h
 obtain ⟨t,rfl⟩:=rx
 obtain ⟨t',rfl⟩:=ry
 exact PySem.P.le_str ⟨.bl _,H,I,rfl,q⟩
inductive Alike (K:PySem.W.Frag) (H:Hp):Nat->V->V->Prop
 | flat {n:Nat} {x:V} (fx:zFh x=true):Alike K H n x x
 | same {n:Nat} {a:Addr}:Alike K H n (.ref a) (.ref a)
 | lists {n:Nat} {a b:Addr} {xs ys:List V} (hx:SqL K H a xs) (hy:SqL K H b ys) (hl:xs.length=ys.length) (he:∀(i:Nat) (x y:V),xs[i]?=some x->ys[i]?=some y->Alike K H n x y):Alike K H (n+1) (.ref a) (.ref b)
 | tups {n:Nat} {a b:Addr} {xs ys:List V} (hx:SqT K H a xs) (hy:SqT K H b ys) (hl:xs.length=ys.length) (he:∀(i:Nat) (x y:V),xs[i]?=some x->ys[i]?=some y->Alike K H n x y):Alike K H (n+1) (.ref a) (.ref b)
theorem eqV_refl {x:V} (h:zFh x=true):eqV x x=true:=by
 cases x<;>simp [eqV]<;>simp [zFh] at h
section
variable {X:Cx} {pins:List (Addr×Obj)} {σ:St} {H:Hp} {s:Shared}
theorem zF6 (n:Nat):(List.range n).all (fun _=>true)=true:=by simp
theorem alike_at (I:Inv X pins σ H s) {n:Nat} {x y:V} (h:Alike X.K H n x y):∀{u v:Value} {A:Around},RelV x u->RelV y v->A.units+n<cLine->SeqAt.EqAt A s u v true:=by
 induction h with
 | flat fx =>
  intro u v A ru rv _
  have q:=eqAt_V (A:=A) (s:=s) ru rv fx fx
  rwa [eqV_refl fx] at q
 | same =>
  intro u v A ru rv _
  cases ru
  cases rv
  exact SeqAt.EqAt.same _
 | @lists n a b xs ys hx hy hl he ih =>
  intro u v A ru rv hu
  cases ru
  cases rv
  by_cases ab:a=b
  ·subst ab;exact SeqAt.EqAt.same _
  ·obtain ⟨its,r,pl,hz⟩:=I.list hx
   obtain ⟨its2,r2,pl2,hz2⟩:=I.list hy
   have e1:=r.length
   have e2:=r2.length
   have q:=SeqAt.RcAt.lists (A:=A) (s:=s) (e:=fun _=>true) pl.isList pl2.isList (by rw [List.size_toArray,List.size_toArray];omega) (by omega) (fun j h1 h2=>by
    rw [List.size_toArray] at h1 h2
    have hjx:xs[j]?=some (xs[j]'(by omega)):=by simp
    have hjy:ys[j]?=some (ys[j]'(by omega)):=by simp
    obtain ⟨u1,q1,ru1⟩:=r.get hjx
    obtain ⟨v1,q2,rv1⟩:=r2.get hjy
    have e3:its.toArray[j]=u1:=by
     have:its[j]?=some its[j]:=by simp
     rw [this] at q1;simpa using q1
    have e4:its2.toArray[j]=v1:=by
     have:its2[j]?=some its2[j]:=by simp
     rw [this] at q2;simpa using q2
    rw [e3,e4]
    exact ih j _ _ hjx hjy ru1 rv1 (by show A.units+1+n<cLine;omega))
   rw [zF6] at q
   exact SeqAt.EqAt.of_refs ab q
 | @tups n a b xs ys hx hy hl he ih =>
  intro u v A ru rv hu
  cases ru
  cases rv
  by_cases ab:a=b
  ·subst ab;exact SeqAt.EqAt.same _
  ·obtain ⟨its,r,pl,hz⟩:=I.tuple hx
   obtain ⟨its2,r2,pl2,hz2⟩:=I.tuple hy
   have e1:=r.length
   have e2:=r2.length
   have q:=SeqAt.RcAt.tuples (A:=A) (s:=s) (e:=fun _=>true) (show s.heap.IsTuple a its.toArray from pl) (show s.heap.IsTuple b its2.toArray from pl2) (by omega) (fun j h1 h2=>by
    rw [List.size_toArray] at h1 h2
    have hjx:xs[j]?=some (xs[j]'(by omega)):=by simp
    have hjy:ys[j]?=some (ys[j]'(by omega)):=by simp
    obtain ⟨u1,q1,ru1⟩:=r.get hjx
    obtain ⟨v1,q2,rv1⟩:=r2.get hjy
    have e3:its.toArray[j]=u1:=by
     have:its[j]?=some its[j]:=by simp
     rw [this] at q1;simpa using q1
    have e4:its2.toArray[j]=v1:=by
     have:its2[j]?=some its2[j]:=by simp
     rw [this] at q2;simpa using q2
    rw [e3,e4]
    exact ih j _ _ hjx hjy ru1 rv1 (by show A.units+1+n<cLine;omega))
   rw [zF6,Bool.true_and,List.size_toArray,List.size_toArray,<-e1,<-e2,hl,beq_self_eq_true] at q
   exact SeqAt.EqAt.of_refs ab q
theorem zG8 (I:Inv X pins σ H s) {n:Nat} {xs ys:List V} {its its2:List Value} {A:Around} (r:Vals xs its) (r2:Vals ys its2) (he:∀(i:Nat) (x y:V),xs[i]?=some x->ys[i]?=some y->Alike X.K H n x y) (hu:A.units+n<cLine) :
  ∀j (h1:j<its.toArray.size) (h2:j<its2.toArray.size),SeqAt.EqAt A s its.toArray[j] its2.toArray[j] true:=fun j h1 h2=>by
 have e1:=r.length
 have e2:=r2.length
 rw [List.size_toArray] at h1 h2
 have hjx:xs[j]?=some (xs[j]'(by omega)):=by simp
 have hjy:ys[j]?=some (ys[j]'(by omega)):=by simp
 obtain ⟨u1,q1,ru1⟩:=r.get hjx
 obtain ⟨v1,q2,rv1⟩:=r2.get hjy
 have e3:its.toArray[j]=u1:=by
  have:its[j]?=some its[j]:=by simp
  rw [this] at q1;simpa using q1
 have e4:its2.toArray[j]=v1:=by
  have:its2[j]?=some its2[j]:=by simp
  rw [this] at q2;simpa using q2
 rw [e3,e4]
 exact alike_at I (he j _ _ hjx hjy) ru1 rv1 hu
end
def zGl (K:PySem.W.Frag) (n:Nat) (b:Bool):R2:=fun x y H Q=>∃a c xs ys,x= .ref a/\y= .ref c/\SqL K H a xs/\SqL K H c ys/\xs.length=ys.length/\(∀(i:Nat) (x y:V),xs[i]?=some x->ys[i]?=some y->Alike K H n x y)/\Q (.bl b) H
def zGk (K:PySem.W.Frag) (b:Bool):R2:=fun x y H Q=>∃a c xs ys,x= .ref a/\y= .ref c/\SqL K H a xs/\SqL K H c ys/\xs.length≠ys.length/\Q (.bl b) H
section
variable {X:Cx}
theorem op_eqA {n:Nat} (hu:X.A.units+1+n<cLine):OpR X (compareOp .Eq) (zGl X.K n true):=by
 intro pins s σ H x y v u Q I rx ry h
 obtain ⟨a,c,xs,ys,rfl,rfl,hx,hy,hl,he,q⟩:=h
 cases rx
 cases ry
 obtain ⟨its,r,pl,hz⟩:=I.list hx
 obtain ⟨its2,r2,pl2,hz2⟩:=I.list hy
 have e1:=r.length
 have e2:=r2.length
 refine SeqAt.eq_listAt (e:=fun _=>true) pl.isList pl2.isList (by rw [List.size_toArray,List.size_toArray];omega) (by omega) (zG8 I r r2 he (by show X.A.units+1+n<cLine;omega)) ?_
 rw [zF6]
 exact ⟨.bl true,H,I,rfl,q⟩
theorem op_neA {n:Nat} (hu:X.A.units+1+n<cLine):OpR X (compareOp .NotEq) (zGl X.K n false):=by
 intro pins s σ H x y v u Q I rx ry h
 obtain ⟨a,c,xs,ys,rfl,rfl,hx,hy,hl,he,q⟩:=h
 cases rx
 cases ry
 obtain ⟨its,r,pl,hz⟩:=I.list hx
 obtain ⟨its2,r2,pl2,hz2⟩:=I.list hy
 have e1:=r.length
 have e2:=r2.length
 refine SeqAt.RcNeAt.lists (e:=fun _=>true) pl.isList pl2.isList (by rw [List.size_toArray,List.size_toArray];omega) (by omega) (zG8 I r r2 he (by show X.A.units+1+n<cLine;omega)) X.prog X.w X.xe _ ?_
 rw [zF6]
 exact ⟨.bl false,H,I,rfl,q⟩
theorem op_eqU (hu:X.A.units<cLine):OpR X (compareOp .Eq) (zGk X.K false):=by
 intro pins s σ H x y v u Q I rx ry h
 obtain ⟨a,c,xs,ys,rfl,rfl,hx,hy,hl,q⟩:=h
 cases rx
 cases ry
 obtain ⟨its,r,pl,hz⟩:=I.list hx
 obtain ⟨its2,r2,pl2,hz2⟩:=I.list hy
 have e1:=r.length
 have e2:=r2.length
 exact SeqAt.eq_list_lengthsAt pl.isList pl2.isList (by rw [List.size_toArray,List.size_toArray];simp;omega) hu ⟨.bl false,H,I,rfl,q⟩
theorem OpR.either {f:Value->Value->Sem Value} {r r':R2} (h:OpR X f r) (h':OpR X f r'):OpR X f (fun x y H Q=>r x y H Q\/r' x y H Q):=by
 intro pins s σ H x y v u Q I rx ry q
 rcases q with q| q
 ·exact h pins s σ H x y v u Q I rx ry q
 ·exact h' pins s σ H x y v u Q I rx ry q
end
end L2
namespace SM
open PySem PySem.StrLaws PySem.Builtin PySem.Builtin.Str
end SM
namespace L2
open PySem PySem.Spec PyProof.Rows
structure Cal (P:Program) (w:World) (K:PySem.W.Frag) (mg:Str->Option Value) (base:Heap) (x:Str) (k:Nat) (ps:List Str) (sp:Sp):Prop where
 to:∃(f:Addr) (fd:FuncData),mg x=some (.ref f)/\PySem.W.keepIn K (.ref f)=true/\zDf K fd ps []/\FnOk P w K mg base CX0 k f fd ps sp
theorem zAg {X:Cx} {x:Str} {k:Nat} {ps:List Str} {sp:Sp} {e:Expr} {es:List Expr} {p pos:Pos} {t:TA} (C:Cal X.prog X.w X.K X.mg X.base x k ps sp) (hr:Room k X.A) (hg:Gl X x) (ha:PA X (e::es) t)
  (hdb:(x==("__debug__" : Str))=false:=by decide) (he:starEach (e::es) X.env=(false,eval e X.env)::starEach es X.env:=by rfl) (hpl:(backTo pos (starEach es X.env)).any (·.1)=false:=by rfl) :
  PE X (.Call (.Name x p) (e::es) [] pos) (tCall sp [] E0 t):=by
 obtain ⟨f,fd,h1,h2,h3,h4⟩:=C.to
 exact pe_call h4 hr hg h1 h2 h3 .nil pass0 ha hdb he hpl
theorem bo_max:bootBuiltins "max" = some (.builtin "max"):=by decide +kernel
theorem bo_min:bootBuiltins "min" = some (.builtin "min"):=by decide +kernel
theorem bo_all:bootBuiltins "all" = some (.builtin "all"):=by decide +kernel
theorem zBl:bootBuiltins "isinstance" = some (.builtin "isinstance"):=by decide +kernel
theorem bo_sorted:bootBuiltins "sorted" = some (.builtin "sorted"):=by decide +kernel
theorem zCt:bootBuiltins "len" = some (.builtin "len"):=by decide +kernel
theorem zG6:bootBuiltins "int" = some (.type "int"):=by decide +kernel
theorem bo_str:bootBuiltins "str" = some (.type "str"):=by decide +kernel
theorem zFk:bootBuiltins "list" = some (.type "list"):=by decide +kernel
theorem zE3:bootBuiltins "tuple" = some (.type "tuple"):=by decide +kernel
theorem bo_set:bootBuiltins "set" = some (.type "set"):=by decide +kernel
theorem bo_bool:bootBuiltins "bool" = some (.type "bool"):=by decide +kernel
def Fre (H:Hp) (l:Addr):Prop:=H l=none
def Kp (M:List Addr) (H H':Hp):Prop:=∀b o,H b=some o->b∉M->H' b=some o
theorem Kp.refl {M:List Addr} {H:Hp}:Kp M H H:=fun _ _ h _=>h
theorem Kp.trans {M:List Addr} {H H1 H2:Hp} (a:Kp M H H1) (b:Kp M H1 H2):Kp M H H2:=fun c o h n=>b c o (a c o h n) n
theorem Kp.weak {M M':List Addr} {H H':Hp} (k:Kp M H H') (s:∀b,b∈M->b∈M'):Kp M' H H':=fun b o h n=>k b o h fun z=>n (s b z)
theorem Kp.new {M:List Addr} {H H':Hp} {l:Addr} {o:HO} (k:Kp M H H') (f:Fre H l):Kp M H (upd H' l o):=fun b u h n=>by
 rw [upd_ne (zAk h f)];exact k b u h n
theorem Kp.put {M:List Addr} {H H':Hp} {l:Addr} {o:HO} (k:Kp M H H') (f:l∈M):Kp M H (upd H' l o):=fun b u h n=>by
 rw [upd_ne (by intro e;subst e;exact n f)];exact k b u h n
theorem Kp.fre {M:List Addr} {H H':Hp} {l:Addr} (k:Kp M H H') (f:Fre H' l) (n:l∉M):Fre H l:=by
 unfold Fre
 cases q:H l with
 | none=>rfl
 | some o =>
  have:=k l o q n
  unfold Fre at f
  rw [f] at this;cases this
theorem Kp.at0 {H H':Hp} (k:Kp [] H H'):Same H H':=fun b o h=>k b o h (by simp)
theorem Kp.seq {K:PySem.W.Frag} {H H':Hp} {a:Addr} {xs:List V} (e:Kp [] H H') (h:SqL K H a xs):SqL K H' a xs:=e.at0.seq h
theorem ne_fre {H:Hp} {a b:Addr} {o:HO} (f:Fre H b) (h:H a=some o):a≠b:=zAk h f
theorem nm1 {a b:Addr} (h:a≠b):a∉[b]:=by simpa using h
theorem nm2 {a b c:Addr} (h:a≠b) (h':a≠c):a∉[b,c]:=by simp;exact ⟨h,h'⟩
theorem zFq {α:Type} {xs:List α} {i:Int} {v:α} (h0:0<=i) (h:xs[i.toNat]?=some v):atI xs i=some v:=by
 have hl:i.toNat<xs.length:=(List.getElem?_eq_some_iff.mp h).1
 unfold atI ixN
 rw [if_pos h0,if_pos (by omega)]
 exact h
theorem atI_natc {α:Type} {xs:List α} {n:Nat} {v:α} (h:xs[n]?=some v):atI xs (n:Int)=some v:=zFq (by omega) (by simpa using h)
theorem hu2 {A:Around} {k n:Nat} (hr:Room k A) (h:n<=60:=by decide):A.units+1+n<cLine:=by
 have:=hr.units
 omega
theorem hu0 {A:Around} {k:Nat} (hr:Room k A):A.units<cLine:=by
 have:=hr.units
 omega
theorem op_eqL {X:Cx} {k:Nat} (hr:Room k X.A):OpR X (compareOp .Eq) (fun x y H Q=>zGl X.K 8 true x y H Q\/zGk X.K false x y H Q):=(op_eqA (hu2 hr)).either (op_eqU (hu0 hr))
theorem zF3 {K:PySem.W.Frag} {t:Value} (h:(t==t)=true:=by rfl):PySem.W.kitOne K t t=some true:=by
 unfold PySem.W.kitOne;rw [if_pos h]
theorem seq_mid {t u:TS} {D:Ends} {σ:St} {H:Hp} (Mid:St->Hp->Prop) (h1:∀N:St->Hp->Prop,(∀σ H,Mid σ H->N σ H)->t {D with nx:=N} σ H) (h2:∀σ H,Mid σ H->u D σ H):tSeq t u D σ H:=h1 (u D) h2
theorem if_mid {tb:TS} {D:Ends} {σ:St} {H:Hp} {b:Bool} (Mid:St->Hp->Prop) (h1:∀N:St->Hp->Prop,(∀σ H,Mid σ H->N σ H)->if b=true then tb {D with nx:=N} σ H else N σ H) (h2:∀σ H,Mid σ H->D.nx σ H) :
  if b=true then tb D σ H else tNext D σ H:=h1 D.nx h2
theorem zBb {K:PySem.W.Frag} {a:Addr} {ix:List (Option Nat)} {g:TG} {tt:TT} {te:TE} {QD:Hp->Prop} {σ:St} {H1:Hp} {D:Addr} (xs:List V) (Pv:Nat->List V->St->Hp->Prop) (h0:Pv 0 [] (zCx σ ix) (upd H1 D (.lst [])))
  (hl:∀i ys τ H,Pv i ys τ H->SqL K H a xs)
  (hs:∀i x ys τ H,xs[i]?=some x->Pv i ys τ H->g x τ H fun τ' H4=>tt τ' H4 fun b H5=>if b=true then te τ' H5 fun v H6=>H6 D=some (.lst ys)/\ys.length<sizeLine/\Pv (i+1) (ys++[v]) τ' (upd H6 D (.lst (ys++[v]))) else Pv (i+1) ys τ' H5)
  (hd:∀ys τ H,Pv xs.length ys τ H->QD H) :
  ∃W:Nat->Nat->List V->St->Hp->Prop,(∃m,W 0 m [] (zCx σ ix) (upd H1 D (.lst [])))/\∀i m ys τ H2,W i m ys τ H2 ->
   ((Itl K a).stop i H2/\QD H2)\/((Itl K a).go i H2/\∃N:List V->St->Hp->Prop,(∀ys' τ' H',N ys' τ' H'->∃m',m'<m/\W (i+1) m' ys' τ' H')/\∀x H3,(Itl K a).yld i H2 x H3->g x τ H3 fun τ' H4=>tt τ' H4 fun b H5 =>
    if b=true then te τ' H5 fun v H6=>H6 D=some (.lst ys)/\ys.length<sizeLine/\N (ys++[v]) τ' (upd H6 D (.lst (ys++[v])))
    else N ys τ' H5):=by
 refine comp_by (Q:=fun _ H=>QD H) xs Pv h0 (fun i ys τ H p=>⟨fun x hx=>⟨⟨xs,x,hl i ys τ H p,hx⟩,fun y H' yl=>?_⟩,fun e=>⟨xs,hl i ys τ H p,by omega⟩⟩) hs hd
 obtain ⟨e,z⟩:=yl
 subst e
 have:=z xs (hl i ys τ _ p)
 rw [hx] at this
 exact ⟨rfl,(Option.some.inj this).symm⟩
theorem comp_str {z:Str} {ix:List (Option Nat)} {g:TG} {tt:TT} {te:TE} {QD:Hp->Prop} {σ:St} {H1:Hp} {D:Addr} (Pv:Nat->List V->St->Hp->Prop) (h0:Pv 0 [] (zCx σ ix) (upd H1 D (.lst [])))
  (hs:∀i c ys τ H,z.cps.toList[i]?=some c->Pv i ys τ H->g (.str ⟨#[c]⟩) τ H fun τ' H4=>tt τ' H4 fun b H5=>if b=true then te τ' H5 fun v H6=>H6 D=some (.lst ys)/\ys.length<sizeLine/\Pv (i+1) (ys++[v]) τ' (upd H6 D (.lst (ys++[v]))) else Pv (i+1) ys τ' H5)
  (hd:∀ys τ H,Pv z.length ys τ H->QD H) :
  ∃W:Nat->Nat->List V->St->Hp->Prop,(∃m,W 0 m [] (zCx σ ix) (upd H1 D (.lst [])))/\∀i m ys τ H2,W i m ys τ H2 ->
   ((Its z).stop i H2/\QD H2)\/((Its z).go i H2/\∃N:List V->St->Hp->Prop,(∀ys' τ' H',N ys' τ' H'->∃m',m'<m/\W (i+1) m' ys' τ' H')/\∀x H3,(Its z).yld i H2 x H3->g x τ H3 fun τ' H4=>tt τ' H4 fun b H5 =>
    if b=true then te τ' H5 fun v H6=>H6 D=some (.lst ys)/\ys.length<sizeLine/\N (ys++[v]) τ' (upd H6 D (.lst (ys++[v])))
    else N ys τ' H5):=by
 refine ⟨fun i m ys τ H=>m=z.length - i/\i<=z.length/\Pv i ys τ H,⟨z.length,by simp,Nat.zero_le _,h0⟩,?_⟩
 rintro i m ys τ H ⟨rfl,hi,p⟩
 by_cases hlt:i<z.length
 ·refine .inr ⟨hlt,Pv (i+1),fun ys' τ' H' p'=>⟨z.length - (i+1),by omega,rfl,hlt,p'⟩,fun y H' yd=>?_⟩
  obtain ⟨e1,c,e2,e3⟩:=yd
  subst e1 e3
  exact hs i c ys τ _ (by simpa using e2) p
 ·have e:i=z.length:=by omega
  subst e
  exact .inl ⟨Nat.le_refl _,hd ys τ H p⟩
theorem zB1 {K:PySem.W.Frag} {a:Addr} {ix:List (Option Nat)} {g:TG} {te:TE} {QD:Hp->Prop} {σ:St} {H1:Hp} {D:Addr} (xs:List V) (Pv:Nat->List V->St->Hp->Prop) (h0:Pv 0 [] (zCx σ ix) (upd H1 D (.lst [])))
  (hl:∀i ys τ H,Pv i ys τ H->SqL K H a xs)
  (hs:∀i x ys τ H,xs[i]?=some x->Pv i ys τ H->g x τ H fun τ' H4=>te τ' H4 fun v H6=>H6 D=some (.lst ys)/\ys.length<sizeLine/\Pv (i+1) (ys++[v]) τ' (upd H6 D (.lst (ys++[v]))))
  (hd:∀ys τ H,Pv xs.length ys τ H->QD H) :
  ∃W:Nat->Nat->List V->St->Hp->Prop,(∃m,W 0 m [] (zCx σ ix) (upd H1 D (.lst [])))/\∀i m ys τ H2,W i m ys τ H2 ->
   ((Itl K a).stop i H2/\QD H2)\/((Itl K a).go i H2/\∃N:List V->St->Hp->Prop,(∀ys' τ' H',N ys' τ' H'->∃m',m'<m/\W (i+1) m' ys' τ' H')/\∀x H3,(Itl K a).yld i H2 x H3->g x τ H3 fun τ' H4=>tTrue τ' H4 fun b H5 =>
    if b=true then te τ' H5 fun v H6=>H6 D=some (.lst ys)/\ys.length<sizeLine/\N (ys++[v]) τ' (upd H6 D (.lst (ys++[v])))
    else N ys τ' H5):=zBb (tt:=tTrue) xs Pv h0 hl hs hd
theorem comp_str0 {z:Str} {ix:List (Option Nat)} {g:TG} {te:TE} {QD:Hp->Prop} {σ:St} {H1:Hp} {D:Addr} (Pv:Nat->List V->St->Hp->Prop) (h0:Pv 0 [] (zCx σ ix) (upd H1 D (.lst [])))
  (hs:∀i c ys τ H,z.cps.toList[i]?=some c->Pv i ys τ H->g (.str ⟨#[c]⟩) τ H fun τ' H4=>te τ' H4 fun v H6=>H6 D=some (.lst ys)/\ys.length<sizeLine/\Pv (i+1) (ys++[v]) τ' (upd H6 D (.lst (ys++[v]))))
  (hd:∀ys τ H,Pv z.length ys τ H->QD H) :
  ∃W:Nat->Nat->List V->St->Hp->Prop,(∃m,W 0 m [] (zCx σ ix) (upd H1 D (.lst [])))/\∀i m ys τ H2,W i m ys τ H2 ->
   ((Its z).stop i H2/\QD H2)\/((Its z).go i H2/\∃N:List V->St->Hp->Prop,(∀ys' τ' H',N ys' τ' H'->∃m',m'<m/\W (i+1) m' ys' τ' H')/\∀x H3,(Its z).yld i H2 x H3->g x τ H3 fun τ' H4=>tTrue τ' H4 fun b H5 =>
    if b=true then te τ' H5 fun v H6=>H6 D=some (.lst ys)/\ys.length<sizeLine/\N (ys++[v]) τ' (upd H6 D (.lst (ys++[v])))
    else N ys τ' H5):=comp_str (tt:=tTrue) Pv h0 hs hd
section
variable {X:Cx} {K:PySem.W.Frag}
theorem zF4 (hK:X.K=K:=by rfl):IxR X (rIxL K):=by subst hK;exact zA7
theorem zE1 (hK:X.K=K:=by rfl):zDe X (.type "list") (fun xs H Q=>∃p ys,xs=[.ref p]/\(SqL K H p ys\/SqT K H p ys)/\∀l,H l=none->Q (.ref l) (upd H l (.lst ys))):=by subst hK;exact zB7
theorem zE2 (hK:X.K=K:=by rfl):zDe X (.builtin "len") (fun xs H Q=>∃p ys,xs=[.ref p]/\(SqL K H p ys\/SqT K H p ys)/\Q (.int ys.length) H):=by subst hK;exact zAo
theorem zC1 (hK:X.K=K:=by rfl):OpR X (compareOp .In) (rIn K false):=by subst hK;exact zGr
theorem zDa (hK:X.K=K:=by rfl):OpR X (compareOp .NotIn) (rIn K true):=by subst hK;exact zDm
end
theorem Kp.drop {H H1 H2:Hp} {p:Addr} (k1:Kp [] H H1) (f:Fre H p) (k2:Kp [p] H1 H2):Kp [] H H2:=fun b o h _=>k2 b o (k1 b o h (by simp)) (nm1 (ne_fre f h))
end L2
namespace Tim
open PySem PyProof.Rows
def kk (κ:KeyKind) (p:Keyed):κ.α:=(κ.keyOf p.1).getD κ.dflt
def Has (κ:KeyKind) (p:Keyed):Prop:=∃a,κ.keyOf p.1=some a
theorem Has.key {κ:KeyKind} {p:Keyed} (h:Has κ p):κ.keyOf p.1=some (kk κ p):=by
 obtain ⟨a,e⟩:=h
 unfold kk;rw [e];rfl
theorem KK_at {κ:KeyKind} {xs:Array Keyed} {i:Nat} {p:Keyed} (h:xs[i]?=some p):KK κ xs i=kk κ p:=by
 unfold KK kk;rw [h]
def CmpOk (prog:Program) (w:World) (A:Around) (s:Shared) (kd:SortKind) (κ:KeyKind):Prop :=
 ∀(E:Value->Shared->Prop) (x y:Value) (a b:κ.α) (Q:Bool->Shared->Prop),κ.keyOf x=some a->κ.keyOf y=some b->Q (κ.blt a b) s->wpAny (model prog w) A (keyLt' kd x y) Q E s
section
variable {prog:Program} {w:World} {A:Around} {E:Value->Shared->Prop} {s:Shared} {kd:SortKind} {κ:KeyKind}
theorem w_lt {st:SortSt} {x y:Keyed} {Q:Option Bool->SortSt->Prop} (C:CmpOk prog w A s kd κ) (hk:kindOf st=kd) (hx:Has κ x) (hy:Has κ y) (h:Q (some (κ.blt (kk κ x) (kk κ y))) st):wpS (model prog w) A E s (lt' x y) Q st:=by
 rw [lt'_eq]
 refine wpS_bind (wpS_get ?_)
 rw [hk]
 exact wpS_bind (wpS_lift (wpAny_attempt (C _ x.1 y.1 _ _ _ hx.key hy.key ⟨rfl,wpS_pure h⟩)))
theorem w_elem {st:SortSt} {arr:Array Keyed} {i:Nat} {p:Keyed} {Q:Keyed->SortSt->Prop} (e:arr[i]?=some p) (h:Q p st):wpS (model prog w) A E s (elem' arr i) Q st:=by
 rw [elem'_eq,e];exact wpS_pure h
theorem w_ltAt {st:SortSt} {i j:Nat} {Q:Option Bool->SortSt->Prop} (C:CmpOk prog w A s kd κ) (hk:kindOf st=kd) (hi:∃p,(arrOf st)[i]?=some p/\Has κ p) (hj:∃p,(arrOf st)[j]?=some p/\Has κ p)
  (h:Q (some (κ.blt (KK κ (arrOf st) i) (KK κ (arrOf st) j))) st):wpS (model prog w) A E s (ltAt' i j) Q st:=by
 obtain ⟨p,e1,h1⟩:=hi
 obtain ⟨q,e2,h2⟩:=hj
 rw [KK_at e1,KK_at e2] at h
 rw [ltAt'_eq]
 exact wpS_bind (wpS_get (wpS_bind (w_elem e1 (wpS_bind (w_elem e2 (w_lt C hk h1 h2 h))))))
end
section
variable {κ:KeyKind}
def le (κ:KeyKind) (x y:Keyed):Prop:=κ.kle (kk κ x) (kk κ y)
abbrev Srt (κ:KeyKind) (l:List Keyed):Prop:=l.Pairwise (le κ)
end
section
variable {prog:Program} {w:World} {A:Around} {E:Value->Shared->Prop} {s:Shared} {kd:SortKind} {κ:KeyKind} {a b:Array Keyed}
theorem has_at {a:Array Keyed} (ha:∀x∈a.toList,Has κ x) {i:Nat} (hi:i<a.size):∃p,a[i]?=some p/\Has κ p :=
 ⟨a[i],by simp,ha _ (by simp)⟩
end
section
variable {prog:Program} {w:World} {A:Around} {E:Value->Shared->Prop} {s:Shared} {kd:SortKind} {κ:KeyKind}
structure Fr (lo:Nat) (st st':SortSt):Prop where
 kd:kindOf st'=kindOf st
 pn:pendingOf st'=pendingOf st
 fl:failedOf st'=failedOf st
 perm:(arrOf st').Perm (arrOf st)
 low:∀k,k<lo->(arrOf st')[k]?=(arrOf st)[k]?
theorem Fr.refl (lo:Nat) (st:SortSt):Fr lo st st:=⟨rfl,rfl,rfl,Array.Perm.refl _,fun _ _=>rfl⟩
theorem Fr.trans {lo:Nat} {a b c:SortSt} (h:Fr lo a b) (k:Fr lo b c):Fr lo a c:=⟨k.kd.trans h.kd,k.pn.trans h.pn,k.fl.trans h.fl,k.perm.trans h.perm,fun i hi=>(k.low i hi).trans (h.low i hi)⟩
theorem Fr.size {lo:Nat} {a b:SortSt} (h:Fr lo a b):(arrOf b).size=(arrOf a).size:=h.perm.size_eq
theorem Fr.rev {lo:Nat} (st:SortSt) (i j:Nat) (hi:lo<=i) (hj:j<=(arrOf st).size):Fr lo st (setArr st (mirror (arrOf st) i j ((j - i) / 2))) :=
 ⟨rfl,rfl,rfl,mirror_perm _ _ _ _,fun k hk=>by
  show (mirror (arrOf st) i j ((j - i) / 2))[k]?=_
  rw [getElem?_mirror_all hj,if_neg (by omega)]⟩
def All (κ:KeyKind) (st:SortSt):Prop:=∀x∈(arrOf st).toList,Has κ x
theorem All.fr {lo:Nat} {a b:SortSt} (h:All κ a) (f:Fr lo a b):All κ b:=fun x hx=>h x ((Array.perm_iff_toList_perm.mp f.perm).mem_iff.mp hx)
theorem All.at {st:SortSt} (h:All κ st) {i:Nat} (hi:i<(arrOf st).size):∃p,(arrOf st)[i]?=some p/\Has κ p:=has_at h hi
def Up (κ:KeyKind) (st:SortSt) (lo n:Nat):Prop:=∀i j,i<=j->j<n->κ.kle (KK κ (arrOf st) (lo+i)) (KK κ (arrOf st) (lo+j))
def Dn (κ:KeyKind) (st:SortSt) (lo n:Nat):Prop:=∀i j,i<=j->j<n->κ.kle (KK κ (arrOf st) (lo+j)) (KK κ (arrOf st) (lo+i))
theorem Up.one (st:SortSt) (lo:Nat):Up κ st lo 1:=fun i j h1 h2=>by
 have e:i=j:=by omega
 rw [e];exact KeyOrd.kle_refl _
theorem Up.more {st:SortSt} {lo n:Nat} (h:Up κ st lo n) (h1:1<=n) (e:κ.kle (KK κ (arrOf st) (lo+n - 1)) (KK κ (arrOf st) (lo+n))):Up κ st lo (n+1):=fun i j hij hj=>by
 by_cases c:j<n
 ·exact h i j hij c
 ·have ej:j=n:=by omega
  by_cases ci:i=n
  ·rw [ej,ci];exact KeyOrd.kle_refl _
  ·rw [ej]
   have q:=h i (n - 1) (by omega) (by omega)
   rw [show lo+(n - 1)=lo+n - 1 by omega] at q
   exact KeyOrd.kle_trans q e
theorem Dn.more {st:SortSt} {lo n:Nat} (h:Dn κ st lo n) (h1:1<=n) (e:κ.kle (KK κ (arrOf st) (lo+n)) (KK κ (arrOf st) (lo+n - 1))):Dn κ st lo (n+1):=fun i j hij hj=>by
 by_cases c:j<n
 ·exact h i j hij c
 ·have ej:j=n:=by omega
  by_cases ci:i=n
  ·rw [ej,ci];exact KeyOrd.kle_refl _
  ·rw [ej]
   have q:=h i (n - 1) (by omega) (by omega)
   rw [show lo+(n - 1)=lo+n - 1 by omega] at q
   exact KeyOrd.kle_trans e q
theorem w_asc {st:SortSt} {lo nrem n0:Nat} {α:Type} {Q:α->SortSt->Prop} (C:CmpOk prog w A s kd κ) (hk:kindOf st=kd) (al:All κ st) (hn:lo+nrem<=(arrOf st).size) (h1:1<=n0) (h2:n0<=nrem) (up:Up κ st lo n0)
  (F:Nat->Option (Option Nat)×Nat->StateT SortSt Sem (ForInStep (Option (Option Nat)×Nat))) (hF:∀x n,F x (none,n)=(do
   let c<-ltAt' (lo+n) (lo+n - 1)
   match c with
   | some c=>if c=true then pure (ForInStep.done (none,n)) else pure (ForInStep.yield (none,n+1))
   | _=>pure (ForInStep.done (some none,n)))) (G:Option (Option Nat)×Nat->StateT SortSt Sem α)
  (hG:∀n,n0<=n->n<=nrem->Up κ st lo n->(n=nrem\/κ.klt (KK κ (arrOf st) (lo+n)) (KK κ (arrOf st) (lo+n - 1)))->wpS (model prog w) A E s (G (none,n)) Q st) :
  wpS (model prog w) A E s (forIn [n0:nrem] ((none,n0):Option (Option Nat)×Nat) F >>= G) Q st:=by
 refine wpS_bind (wpS_forRange (I:=fun x c st'=>st'=st/\c=(none,x)/\x<=nrem/\Up κ st lo x) ?step ?fin ⟨rfl,rfl,h2,up⟩)
 case fin =>
  rintro c st' ⟨rfl,rfl,h3,h4⟩
  rw [show max n0 nrem=nrem by omega] at h4 ⊢
  exact hG nrem h2 (Nat.le_refl _) h4 (.inl rfl)
 case step =>
  rintro x c st' hx1 hx2 ⟨rfl,rfl,h3,h4⟩
  rw [hF]
  refine wpS_bind (w_ltAt C hk (al.at (by omega)) (al.at (by omega)) ?_)
  cases e:κ.blt (KK κ (arrOf st') (lo+x)) (KK κ (arrOf st') (lo+x - 1)) with
  | true =>
   show wpS _ _ _ _ (if true=true then _ else _) _ _
   rw [if_pos rfl]
   exact wpS_pure (hG x hx1 h3 h4 (.inr e))
  | false =>
   show wpS _ _ _ _ (if false=true then _ else _) _ _
   rw [if_neg (by decide)]
   exact wpS_pure ⟨rfl,rfl,by omega,h4.more (by omega) e⟩
theorem rev_up {st:SortSt} {lo n:Nat} (h:Dn κ st lo n) (hn:lo+n<=(arrOf st).size):Up κ (setArr st (mirror (arrOf st) lo (lo+n) ((lo+n - lo) / 2))) lo n:=fun i j hij hj=>by
 show κ.kle (KK κ (mirror (arrOf st) lo (lo+n) _) (lo+i)) (KK κ (mirror (arrOf st) lo (lo+n) _) (lo+j))
 rw [KK_mirror hn,KK_mirror hn,if_pos (by omega),if_pos (by omega)]
 have q:=h (n - 1 - j) (n - 1 - i) (by omega) (by omega)
 rw [show lo+(lo+n) - 1 - (lo+i)=lo+(n - 1 - i) by omega,show lo+(lo+n) - 1 - (lo+j)=lo+(n - 1 - j) by omega]
 exact q
theorem w_tail {st:SortSt} {lo nrem n:Nat} {Q:Option Nat->SortSt->Prop} (C:CmpOk prog w A s kd κ) (hk:kindOf st=kd) (al:All κ st) (hn:lo+nrem<=(arrOf st).size) (h1:1<=n) (h2:n<=nrem) (dn:Dn κ st lo n)
  (F:Nat->Option (Option Nat)×Nat->StateT SortSt Sem (ForInStep (Option (Option Nat)×Nat))) (hF:∀x n,F x (none,n)=(do
   let c<-ltAt' (lo+n) (lo+n - 1)
   match c with
   | some c=>if c=true then pure (ForInStep.done (none,n)) else pure (ForInStep.yield (none,n+1))
   | _=>pure (ForInStep.done (some none,n)))) (G:Option (Option Nat)×Nat->StateT SortSt Sem (Option Nat)) (hG:∀n,G (none,n)=pure (some n))
  (h:∀m st',Fr lo st st'->1<=m->m<=nrem->Up κ st' lo m->Q (some m) st') :
  wpS (model prog w) A E s (reverseSlice' lo (lo+n) >>= fun _=>forIn [n:nrem] ((none,n):Option (Option Nat)×Nat) F >>= G) Q st:=by
 have f:=Fr.rev (lo:=lo) st lo (lo+n) (Nat.le_refl _) (by omega)
 refine wpS_bind (wpS_reverse ?_)
 refine w_asc C (f.kd.trans hk) (al.fr f) (by rw [f.size];exact hn) h1 h2 (rev_up dn (by omega)) F hF G fun m m1 m2 m3 _=>?_
 rw [hG]
 exact wpS_pure (h m _ f (by omega) m2 m3)
theorem eq_rev {st:SortSt} {i j:Nat} (hj:j<=(arrOf st).size) (he:∀k,i<=k->k<j->KK κ (arrOf st) k=KK κ (arrOf st) (j - 1)) (k:Nat) :
  KK κ (arrOf (setArr st (mirror (arrOf st) i j ((j - i) / 2)))) k=KK κ (arrOf st) k:=KK_mirror_equal hj he k
theorem Dn.same {st st':SortSt} {lo n:Nat} (h:Dn κ st lo n) (e:∀k,KK κ (arrOf st') k=KK κ (arrOf st) k):Dn κ st' lo n:=fun i j h1 h2=>by rw [e,e];exact h i j h1 h2
theorem w_desc {st:SortSt} {lo nrem n0:Nat} {α:Type} {Q:α->SortSt->Prop} (C:CmpOk prog w A s kd κ) (hk:kindOf st=kd) (al:All κ st) (hn:lo+nrem<=(arrOf st).size) (h1:1<=n0) (h2:n0<=nrem) (dn:Dn κ st lo n0)
  (F:Nat->Option (Option Nat)×Nat×Nat->StateT SortSt Sem (ForInStep (Option (Option Nat)×Nat×Nat))) (hF:∀x n q,F x (none,n,q)=(ltAt' (lo+n) (lo+n - 1) >>= fun c=>match c with
   | some c=>(if c=true then (if q>0 then (reverseSlice' (lo+n - (q+1)) (lo+n) >>= fun _=>pure (ForInStep.yield (none,n+1,0))) else pure (ForInStep.yield (none,n+1,0)))
    else (ltAt' (lo+n - 1) (lo+n) >>= fun d=>match d with
     | some d=>(if d=true then pure (ForInStep.done (none,n,q)) else pure (ForInStep.yield (none,n+1,q+1)))
     | _=>pure (ForInStep.done (some none,n,q))))
   | _=>pure (ForInStep.done (some none,n,q)))) (G:Option (Option Nat)×Nat×Nat->StateT SortSt Sem α)
  (hG:∀n q st',Fr lo st st'->n0<=n->n<=nrem->Dn κ st' lo n->q+1<=n->(∀k,lo+n - (q+1)<=k->k<lo+n->KK κ (arrOf st') k=KK κ (arrOf st') (lo+n - 1))->wpS (model prog w) A E s (G (none,n,q)) Q st') :
  wpS (model prog w) A E s (forIn [n0:nrem] ((none,n0,0):Option (Option Nat)×Nat×Nat) F >>= G) Q st:=by
 refine wpS_bind (wpS_forRange (I:=fun x c st'=>Fr lo st st'/\∃q,c=(none,x,q)/\x<=nrem/\Dn κ st' lo x/\q+1<=x/\∀k,lo+x - (q+1)<=k->k<lo+x->KK κ (arrOf st') k=KK κ (arrOf st') (lo+x - 1)) ?step ?fin
  ⟨Fr.refl _ _,0,rfl,h2,dn,by omega,fun k k1 k2=>by rw [show k=lo+n0 - 1 by omega]⟩)
 case fin =>
  rintro c st' ⟨f,q,rfl,h3,h4,h5,h6⟩
  have e:max n0 nrem=nrem:=by omega
  rw [e] at h4 h5 h6 ⊢
  exact hG nrem q st' f h2 (Nat.le_refl _) h4 h5 h6
 case step =>
  rintro x c st' hx1 hx2 ⟨f,q,rfl,h3,h4,h5,h6⟩
  have hz:(arrOf st').size=(arrOf st).size:=f.size
  have al':=al.fr f
  have hk':=f.kd.trans hk
  rw [hF]
  refine wpS_bind (w_ltAt C hk' (al'.at (by omega)) (al'.at (by omega)) ?_)
  cases e:κ.blt (KK κ (arrOf st') (lo+x)) (KK κ (arrOf st') (lo+x - 1)) with
  | true =>
   show wpS _ _ _ _ (if true=true then _ else _) _ _
   rw [if_pos rfl]
   have d2:Dn κ st' lo (x+1):=h4.more (by omega) (KeyOrd.kle_of_klt e)
   by_cases hq:q>0
   ·rw [if_pos hq]
    have f2:=Fr.rev (lo:=lo) st' (lo+x - (q+1)) (lo+x) (by omega) (by omega)
    exact wpS_bind (wpS_reverse (wpS_pure ⟨f.trans f2,0,rfl,by omega,d2.same (eq_rev (by omega) h6),by omega,fun k k1 k2=>by rw [show k=lo+(x+1) - 1 by omega]⟩))
   ·rw [if_neg hq]
    exact wpS_pure ⟨f,0,rfl,by omega,d2,by omega,fun k k1 k2=>by rw [show k=lo+(x+1) - 1 by omega]⟩
  | false =>
   show wpS _ _ _ _ (if false=true then _ else _) _ _
   rw [if_neg (by decide)]
   refine wpS_bind (w_ltAt C hk' (al'.at (by omega)) (al'.at (by omega)) ?_)
   cases e2:κ.blt (KK κ (arrOf st') (lo+x - 1)) (KK κ (arrOf st') (lo+x)) with
   | true =>
    show wpS _ _ _ _ (if true=true then _ else _) _ _
    rw [if_pos rfl]
    exact wpS_pure (hG x q st' f hx1 h3 h4 h5 h6)
   | false =>
    show wpS _ _ _ _ (if false=true then _ else _) _ _
    rw [if_neg (by decide)]
    have eq:KK κ (arrOf st') (lo+x)=KK κ (arrOf st') (lo+x - 1):=KeyOrd.kle_antisymm e2 e
    refine wpS_pure ⟨f,q+1,rfl,by omega,h4.more (by omega) e2,by omega,fun k k1 k2=>?_⟩
    rw [show lo+(x+1) - 1=lo+x by omega]
    by_cases ck:k=lo+x
    ·rw [ck]
    ·rw [eq];exact h6 k (by omega) (by omega)
theorem w_count {st:SortSt} {lo nrem:Nat} {Q:Option Nat->SortSt->Prop} (C:CmpOk prog w A s kd κ) (hk:kindOf st=kd) (al:All κ st) (hn:lo+nrem<=(arrOf st).size) (h1:1<=nrem)
  (h:∀m st',Fr lo st st'->1<=m->m<=nrem->Up κ st' lo m->Q (some m) st'):wpS (model prog w) A E s (countRun' lo nrem) Q st:=by
 refine w_asc C hk al hn (Nat.le_refl 1) h1 (Up.one _ _) _ (fun x n=>rfl) _ fun n n1 n2 up ho=>?_
 show wpS _ _ _ _ (if (n==nrem)=true then _ else _) _ _
 by_cases c:(n==nrem)=true
 ·rw [if_pos c]
  exact wpS_pure (h n st (Fr.refl _ _) n1 n2 up)
 rw [if_neg c]
 have c':¬n=nrem:=by simpa using c
 have hlt:=ho.resolve_left c'
 show wpS _ _ _ _ (if n>1 then _ else _) _ _
 by_cases g:n>1
 ·rw [if_pos g]
  refine wpS_bind (w_ltAt C hk (al.at (by omega)) (al.at (by omega)) ?_)
  cases e:κ.blt (KK κ (arrOf st) lo) (KK κ (arrOf st) (lo+n - 1)) with
  | true =>
   show wpS _ _ _ _ (if true=true then _ else _) _ _
   rw [if_pos rfl]
   exact wpS_pure (h n st (Fr.refl _ _) n1 n2 up)
  | false =>
   show wpS _ _ _ _ (if false=true then _ else _) _ _
   rw [if_neg (by decide)]
   have hall:∀k,lo<=k->k<lo+n->KK κ (arrOf st) k=KK κ (arrOf st) (lo+n - 1):=fun k k1 k2=>by
    have a1:=up 0 (k - lo) (by omega) (by omega)
    have a2:=up (k - lo) (n - 1) (by omega) (by omega)
    rw [show lo+(k - lo)=k by omega] at a1 a2
    rw [show lo+(n - 1)=lo+n - 1 by omega] at a2
    exact KeyOrd.kle_antisymm a2 (KeyOrd.kle_trans e a1)
   have f1:=Fr.rev (lo:=lo) st lo (lo+n) (Nat.le_refl _) (by omega)
   refine wpS_bind (wpS_reverse ?_)
   have same:=eq_rev (κ:=κ) (st:=st) (i:=lo) (j:=lo+n) (by omega) hall
   have dn:Dn κ (setArr st (mirror (arrOf st) lo (lo+n) ((lo+n - lo) / 2))) lo (n+1):=by
    have d0:Dn κ st lo n:=fun i j i1 i2=>by
     rw [hall (lo+i) (by omega) (by omega),hall (lo+j) (by omega) (by omega)];exact KeyOrd.kle_refl _
    exact (d0.more n1 (KeyOrd.kle_of_klt hlt)).same same
   refine wpS_bind (wpS_lift (wpAny_rule ⟨rfl,?_⟩))
   refine w_desc C (f1.kd.trans hk) (al.fr f1) (by rw [f1.size];exact hn) (by omega) (by omega) dn _ (fun x n q=>rfl) _ fun m q st2 f2 m1 m2 dm q1 q2=>?_
   have hz:(arrOf st2).size=(arrOf st).size:=(f1.trans f2).size
   show wpS _ _ _ _ (if q>0 then _ else _) _ _
   by_cases hq:q>0
   ·rw [if_pos hq]
    have f3:=Fr.rev (lo:=lo) st2 (lo+m - (q+1)) (lo+m) (by omega) (by omega)
    refine wpS_bind (wpS_reverse ?_)
    refine w_tail C (f3.kd.trans ((f1.trans f2).kd.trans hk)) ((al.fr (f1.trans f2)).fr f3) (by rw [f3.size,hz];exact hn) (by omega) m2 (dm.same (eq_rev (by omega) q2)) _ (fun x n=>rfl) _ (fun n=>rfl) fun m' st' f'=>h m' st' (((f1.trans f2).trans f3).trans f')
   ·rw [if_neg hq]
    refine w_tail C ((f1.trans f2).kd.trans hk) (al.fr (f1.trans f2)) (by rw [hz];exact hn) (by omega) m2 dm _ (fun x n=>rfl) _ (fun n=>rfl) fun m' st' f'=>h m' st' ((f1.trans f2).trans f')
 ·rw [if_neg g]
  have en:n=1:=by omega
  subst en
  have dn:Dn κ st lo (1+1):=Dn.more (fun i j i1 i2=>by
   have e:i=j:=by omega
   rw [e];exact KeyOrd.kle_refl _) (Nat.le_refl _) (KeyOrd.kle_of_klt hlt)
  refine wpS_bind (wpS_lift (wpAny_rule ⟨rfl,?_⟩))
  refine w_desc C hk al hn (by omega) (by omega) dn _ (fun x n q=>rfl) _ fun m q st2 f2 m1 m2 dm q1 q2=>?_
  have hz:(arrOf st2).size=(arrOf st).size:=f2.size
  show wpS _ _ _ _ (if q>0 then _ else _) _ _
  by_cases hq:q>0
  ·rw [if_pos hq]
   have f3:=Fr.rev (lo:=lo) st2 (lo+m - (q+1)) (lo+m) (by omega) (by omega)
   refine wpS_bind (wpS_reverse ?_)
   refine w_tail C (f3.kd.trans (f2.kd.trans hk)) ((al.fr f2).fr f3) (by rw [f3.size,hz];exact hn) (by omega) m2 (dm.same (eq_rev (by omega) q2)) _ (fun x n=>rfl) _ (fun n=>rfl) fun m' st' f'=>h m' st' ((f2.trans f3).trans f')
  ·rw [if_neg hq]
   refine w_tail C (f2.kd.trans hk) (al.fr f2) (by rw [hz];exact hn) (by omega) m2 dm _ (fun x n=>rfl) _ (fun n=>rfl) fun m' st' f'=>h m' st' (f2.trans f')
theorem w_ins {st:SortSt} {lo n ok:Nat} {Q:Bool->SortSt->Prop} (C:CmpOk prog w A s kd κ) (hk:kindOf st=kd) (al:All κ st) (hn:lo+n<=(arrOf st).size) (ho:ok<=n) (h1:1<=ok) (up:Up κ st lo ok)
  (h:∀st',Fr lo st st'->Up κ st' lo n->Q true st'):wpS (model prog w) A E s (binarySort' lo n ok) Q st:=by
 refine wpS_bind (wpS_mono (wpS_forRange (I:=fun k c st'=>c=(none,())/\Fr lo st st'/\k<=n/\Up κ st' lo k) (Q:=fun c st'=>c=(none,())/\Fr lo st st'/\Up κ st' lo n) ?step ?fin ⟨rfl,Fr.refl _ _,by omega,by rw [show max ok 1=ok by omega];exact up⟩) ?post)
 case post =>
  rintro c st' ⟨rfl,f,u⟩
  exact wpS_pure (h st' f u)
 case fin =>
  rintro c st' ⟨hc,f,_,u⟩
  rw [show max (max ok 1) n=n by omega] at u
  exact ⟨hc,f,u⟩
 case step =>
  rintro k c st' hk1 hk2 ⟨rfl,f,_,u⟩
  have hz:(arrOf st').size=(arrOf st).size:=f.size
  have al':=al.fr f
  have hkd:=f.kd.trans hk
  refine wpS_bind (wpS_mono (wpS_forRange (I:=fun x c st2=>st2=st'/\∃l r,c=(none,l,r)/\l<=r/\r<=k/\r - l<=k - x/\(∀i,i<l->κ.kle (KK κ (arrOf st') (lo+i)) (KK κ (arrOf st') (lo+k)))/\(∀i,r<=i->i<k->κ.klt (KK κ (arrOf st') (lo+k)) (KK κ (arrOf st') (lo+i))))
   (Q:=fun c st2=>st2=st'/\∃l r,c=(none,l,r)/\l<=k/\(∀i,i<l->κ.kle (KK κ (arrOf st') (lo+i)) (KK κ (arrOf st') (lo+k)))/\(∀i,l<=i->i<k->κ.klt (KK κ (arrOf st') (lo+k)) (KK κ (arrOf st') (lo+i)))) ?s2 ?f2
   ⟨rfl,0,k,rfl,by omega,by omega,by omega,fun i hi=>by omega,fun i i1 i2=>by omega⟩) ?p2)
  case f2 =>
   rintro c st2 ⟨rfl,l,r,rfl,a1,a2,a3,a4,a5⟩
   have e:l=r:=by omega
   subst e
   exact ⟨rfl,l,l,rfl,a2,a4,a5⟩
  case s2 =>
   rintro x c st2 _ hx ⟨rfl,l,r,rfl,a1,a2,a3,a4,a5⟩
   dsimp only
   by_cases g:l>=r
   ·rw [if_pos g]
    have e:l=r:=by omega
    subst e
    exact wpS_pure ⟨rfl,l,l,rfl,a2,a4,a5⟩
   ·rw [if_neg g]
    refine wpS_bind (w_ltAt C hkd (al'.at (by omega)) (al'.at (by omega)) ?_)
    cases e:κ.blt (KK κ (arrOf st2) (lo+k)) (KK κ (arrOf st2) (lo+(l+r) / 2)) with
    | true =>
     show wpS _ _ _ _ (if true=true then _ else _) _ _
     rw [if_pos rfl]
     exact wpS_pure ⟨rfl,l,(l+r) / 2,rfl,by omega,by omega,by omega,a4,fun i i1 i2=>KeyOrd.klt_of_klt_of_kle e (u _ _ i1 i2)⟩
    | false =>
     show wpS _ _ _ _ (if false=true then _ else _) _ _
     rw [if_neg (by decide)]
     exact wpS_pure ⟨rfl,(l+r) / 2+1,r,rfl,by omega,by omega,by omega,fun i i1=>KeyOrd.kle_trans (u i ((l+r) / 2) (by omega) (by omega)) (show κ.kle _ _ from e),a5⟩
  case p2 =>
   rintro c st2 ⟨rfl,l,r,rfl,a1,a2,a3⟩
   show wpS _ _ _ _ (moveDown' (lo+k) (lo+l) >>= fun _=>pure (ForInStep.yield (none,()))) _ _
   rw [moveDown'_eq]
   have hs:lo+k<(arrOf st2).size:=by omega
   refine wpS_bind (wpS_modify (wpS_pure ⟨rfl,f.trans ⟨rfl,rfl,rfl,bubble_perm _ _ _,fun i hi=>?_⟩,by omega,fun i j i1 i2=>?_⟩))
   ·show (bubble (arrOf st2) (lo+k) (lo+k - (lo+l)))[i]?=_
    rw [getElem?_bubble hs _ (by omega),if_neg (by omega),if_neg (by omega)]
   ·show κ.kle (KK κ (bubble (arrOf st2) (lo+k) (lo+k - (lo+l))) (lo+i)) (KK κ (bubble (arrOf st2) (lo+k) (lo+k - (lo+l))) (lo+j))
    rw [KK_bubble hs (by omega),KK_bubble hs (by omega),show lo+k - (lo+k - (lo+l))=lo+l by omega]
    by_cases c1:lo+i=lo+l
    ·rw [if_pos c1]
     by_cases c2:lo+j=lo+l
     ·rw [if_pos c2];exact KeyOrd.kle_refl _
     ·rw [if_neg c2,if_pos (by omega)]
      have q:=a3 (j - 1) (by omega) (by omega)
      rw [show lo+(j - 1)=lo+j - 1 by omega] at q
      exact KeyOrd.kle_of_klt q
    ·rw [if_neg c1]
     by_cases c2:lo+j=lo+l
     ·rw [if_pos c2,if_neg (by omega)]
      exact a2 i (by omega)
     ·rw [if_neg c2]
      by_cases c3:lo+l<lo+i/\lo+i<=lo+k
      ·rw [if_pos c3,if_pos (by omega)]
       have q:=u (i - 1) (j - 1) (by omega) (by omega)
       rw [show lo+(i - 1)=lo+i - 1 by omega,show lo+(j - 1)=lo+j - 1 by omega] at q
       exact q
      ·rw [if_neg c3]
       by_cases c4:lo+l<lo+j/\lo+j<=lo+k
       ·rw [if_pos c4]
        have q:=u i (j - 1) (by omega) (by omega)
        rw [show lo+(j - 1)=lo+j - 1 by omega] at q
        exact q
       ·rw [if_neg c4]
        exact u i j i1 (by omega)
end
section
variable {prog:Program} {w:World} {A:Around} {E:Value->Shared->Prop} {s:Shared} {kd:SortKind} {κ:KeyKind}
def seg (arr:Array Keyed) (lo n:Nat):List Keyed:=(arr.toList.drop lo).take n
theorem seg_at {arr:Array Keyed} {lo n i:Nat} (hi:i<n):(seg arr lo n)[i]?=arr[lo+i]?:=by
 unfold seg
 rw [List.getElem?_take_of_lt hi,List.getElem?_drop];simp
theorem seg_len {arr:Array Keyed} {lo n:Nat} (h:lo+n<=arr.size):(seg arr lo n).length=n:=by
 unfold seg
 rw [List.length_take,List.length_drop];simp;omega
theorem up_srt {st:SortSt} {lo n:Nat} (h:lo+n<=(arrOf st).size):Up κ st lo n↔Srt κ (seg (arrOf st) lo n):=by
 have hl:=seg_len h
 have at':∀i (hi:i<(seg (arrOf st) lo n).length),KK κ (arrOf st) (lo+i)=kk κ (seg (arrOf st) lo n)[i]:=fun i hi=>by
  have e:(seg (arrOf st) lo n)[i]?=some (seg (arrOf st) lo n)[i]:=by simp
  rw [seg_at (by omega)] at e
  exact KK_at e
 constructor
 ·intro u
  refine List.pairwise_iff_getElem.mpr fun i j hi hj hij=>?_
  show κ.kle _ _
  rw [<-at' i hi,<-at' j hj]
  exact u i j (by omega) (by omega)
 ·intro p i j hij hj
  rw [at' i (by omega),at' j (by omega)]
  by_cases e:i=j
  ·subst e;exact KeyOrd.kle_refl _
  ·exact List.pairwise_iff_getElem.mp p i j (by omega) (by omega) (by omega)
end
end Tim
namespace ST
open PySem PySem.SetTable
abbrev Rise (l:List Nat):Prop:=l.Pairwise (·<·)
theorem zDx {xs:Array Nat} (hr:Rise xs.toList) {i k:Nat} {x y:Nat} (hik:i<k) (ex:xs[i]?=some x) (ey:xs[k]?=some y):x<y:=by
 rw [<-Array.getElem?_toList] at ex ey
 obtain ⟨hi,rfl⟩:=List.getElem?_eq_some_iff.mp ex
 obtain ⟨hk,rfl⟩:=List.getElem?_eq_some_iff.mp ey
 exact List.pairwise_iff_getElem.mp hr i k hi hk hik
structure Bel (xs:Array Nat) (j r:Nat):Prop where
 le:r<=xs.size
 lo:∀i x,i<r->xs[i]?=some x->x<j
 hi:∀i x,r<=i->xs[i]?=some x->j<=x
theorem zIy {xs:Array Nat} (hr:Rise xs.toList) {j:Nat}:∀(fuel lo hi:Nat),hi - lo<=fuel->lo<=hi->hi<=xs.size->(∀i x,i<lo->xs[i]?=some x->x<j)->(∀i x,hi<=i->xs[i]?=some x->j<=x)->Bel xs j (below.go xs j fuel lo hi)
 | 0,lo,hi,h1,h2,h3,h4,h5=>by
  have e:lo=hi:=by omega
  subst e
  exact ⟨h3,h4,h5⟩
 | fuel+1,lo,hi,h1,h2,h3,h4,h5=>by
  unfold below.go
  by_cases c:lo<hi
  ·rw [if_pos c]
   have hm:(lo+hi) / 2<xs.size:=by omega
   have em:xs[(lo+hi) / 2]?=some xs[(lo+hi) / 2]:=by simp
   have eD:xs.getD ((lo+hi) / 2) j=xs[(lo+hi) / 2]:=by simp [Array.getD,hm]
   show Bel xs j (if xs.getD ((lo+hi) / 2) j<j then _ else _)
   rw [eD]
   by_cases d:xs[(lo+hi) / 2]<j
   ·rw [if_pos d]
    refine zIy hr fuel _ hi (by omega) (by omega) h3 (fun i x hi' ex=>?_) h5
    by_cases q:i=(lo+hi) / 2
    ·subst q;rw [em] at ex;cases ex;exact d
    ·have:=zDx hr (show i<(lo+hi) / 2 by omega) ex em;omega
   ·rw [if_neg d]
    refine zIy hr fuel lo _ (by omega) (by omega) (by omega) h4 (fun i x hi' ex=>?_)
    by_cases q:i=(lo+hi) / 2
    ·subst q;rw [em] at ex;cases ex;omega
    ·have:=zDx hr (show (lo+hi) / 2<i by omega) em ex;omega
  ·rw [if_neg c]
   have e:lo=hi:=by omega
   subst e
   exact ⟨h3,h4,h5⟩
theorem zD3 {xs:Array Nat} (hr:Rise xs.toList) (j:Nat):Bel xs j (below xs j) :=
 zIy hr xs.size 0 xs.size (by omega) (by omega) (Nat.le_refl _) (fun i x h=>by omega) (fun i x h e=>by
  have:=(Array.getElem?_eq_some_iff.mp e).1;omega)
theorem Bel.at {xs:Array Nat} (hr:Rise xs.toList) {j r:Nat} (B:Bel xs j r) {i:Nat} (e:xs[i]?=some j):r=i:=by
 rcases Nat.lt_trichotomy r i with z| z| z
 ·have hi:i<xs.size:=(Array.getElem?_eq_some_iff.mp e).1
  have er:xs[r]?=some (xs[r]'(by omega)):=by simp
  have h1:=B.hi r _ (Nat.le_refl _) er
  have h2:=zDx hr z er e
  omega
 ·exact z
 ·have:=B.lo i j z e;omega
def Tb (mask:Nat):SetTable:={mask:=mask,place:=#[],dummies:=#[],finger:=0,led:=false,moves:=0,plain:=false}
def pr (mask:Nat) (h:Int):Nat->Probe
 | 0=>(Tb mask).probeStart h
 | n+1=>(Tb mask).advance (pr mask h n)
def rs (mask:Nat) (h:Int):Nat->Nat×Nat
 | 0=>(bits h % (mask+1),bits h)
 | r+1=>leap mask (rs mask h r).1 (rs mask h r).2
def stt (mask:Nat) (h:Int):Nat->Nat
 | 0=>0
 | r+1=>stt mask h r+(runEnd mask (rs mask h r).1 - (rs mask h r).1+1)
theorem rs_le (mask:Nat) (h:Int):∀r,(rs mask h r).1<=mask
 | 0=>Nat.le_of_lt_succ (Nat.mod_lt _ (Nat.succ_pos _))
 | r+1=>Nat.le_of_lt_succ (Nat.mod_lt _ (Nat.succ_pos _))
theorem run_le (mask i:Nat) (hi:i<=mask):i<=runEnd mask i/\runEnd mask i<=mask/\runEnd mask i - i<=9:=by
 unfold runEnd
 split<;>omega
theorem stt_le (mask:Nat) (h:Int):∀r,stt mask h r<=10*r
 | 0=>Nat.le_refl _
 | r+1=>by
  have h1:=stt_le mask h r
  have h2:=(run_le mask _ (rs_le mask h r)).2.2
  show stt mask h r+(runEnd mask (rs mask h r).1 - (rs mask h r).1+1)<=_
  omega
theorem adv_more (mask:Nat) (p:Probe) (h:p.more>0):(Tb mask).advance p={p with j:=p.j+1,more:=p.more - 1}:=by
 unfold advance;rw [if_pos h]
theorem adv_leap (mask:Nat) (p:Probe) (h:p.more=0):(Tb mask).advance p={p with j:=(leap mask p.i p.perturb).1,more:=runEnd mask (leap mask p.i p.perturb).1 - (leap mask p.i p.perturb).1,i:=(leap mask p.i p.perturb).1,perturb:=(leap mask p.i p.perturb).2}:=by
 unfold advance;rw [if_neg (by omega)];rfl
theorem zEo (mask:Nat) (h:Int):∀(r k:Nat),k<=runEnd mask (rs mask h r).1 - (rs mask h r).1 ->
  pr mask h (stt mask h r+k)={j:=(rs mask h r).1+k,more:=runEnd mask (rs mask h r).1 - (rs mask h r).1 - k,i:=(rs mask h r).1,perturb:=(rs mask h r).2,dummy:=none}
 | 0,0,_=>rfl
 | r+1,0,_=>by
  have ih:=zEo mask h r (runEnd mask (rs mask h r).1 - (rs mask h r).1) (Nat.le_refl _)
  show pr mask h (stt mask h r+(runEnd mask (rs mask h r).1 - (rs mask h r).1)+1)=_
  show (Tb mask).advance (pr mask h (stt mask h r+(runEnd mask (rs mask h r).1 - (rs mask h r).1)))=_
  rw [ih,adv_leap _ _ (by simp)]
  rfl
 | r,k+1,hk=>by
  have ih:=zEo mask h r k (by omega)
  show (Tb mask).advance (pr mask h (stt mask h r+k))=_
  rw [ih,adv_more _ _ (by show _ - k>0;omega)]
  simp only [Probe.mk.injEq]
  exact ⟨by omega,by omega,trivial,trivial,trivial⟩
theorem pr_at (mask:Nat) (h:Int) (n:Nat):∃r k,n=stt mask h r+k/\k<=runEnd mask (rs mask h r).1 - (rs mask h r).1:=by
 induction n with
 | zero=>exact ⟨0,0,rfl,Nat.zero_le _⟩
 | succ n ih =>
  obtain ⟨r,k,e,hk⟩:=ih
  by_cases c:k<runEnd mask (rs mask h r).1 - (rs mask h r).1
  ·exact ⟨r,k+1,by omega,c⟩
  ·refine ⟨r+1,0,?_,Nat.zero_le _⟩
   show n+1=stt mask h r+(runEnd mask (rs mask h r).1 - (rs mask h r).1+1)+0
   omega
theorem pr_le (mask:Nat) (h:Int) (n:Nat):(pr mask h n).j<=mask:=by
 obtain ⟨r,k,e,hk⟩:=pr_at mask h n
 rw [e,zEo mask h r k hk]
 have:=run_le mask _ (rs_le mask h r)
 show (rs mask h r).1+k<=mask
 omega
theorem pr_dummy (mask:Nat) (h:Int) (n:Nat):(pr mask h n).dummy=none:=by
 obtain ⟨r,k,e,hk⟩:=pr_at mask h n
 rw [e,zEo mask h r k hk]
theorem bits_lt (h:Int):bits h<2^64:=by
 unfold bits
 have h1:=Int.emod_nonneg h (show (2^64:Int)≠0 by decide)
 have h2:=Int.emod_lt_of_pos h (show (0:Int)<2^64 by decide)
 omega
theorem rs_pert (mask:Nat) (h:Int):∀r,(rs mask h r).2=bits h / 32^r
 | 0=>by simp [rs]
 | r+1=>by
  show (rs mask h r).2 / 32=_
  rw [rs_pert mask h r,Nat.div_div_eq_div_mul,Nat.pow_succ]
theorem rs_pert0 (mask:Nat) (h:Int) (r:Nat) (hr:13<=r):(rs mask h r).2=0:=by
 rw [rs_pert]
 have h1:=bits_lt h
 have h2:32^13<=32^r:=Nat.pow_le_pow_right (by decide) hr
 have h3:(2:Nat)^64<32^13:=by decide
 exact Nat.div_eq_of_lt (by omega)
def f5 (mask i:Nat):Nat:=(i*5+1) % (mask+1)
def it5 (mask:Nat):Nat->Nat->Nat
 | 0,i=>i
 | n+1,i=>it5 mask n (f5 mask i)
theorem zGy (mask:Nat):∀(a b i:Nat),it5 mask (a+b) i=it5 mask b (it5 mask a i)
 | 0,b,i=>by rw [Nat.zero_add];rfl
 | a+1,b,i=>by
  rw [show a+1+b=(a+b)+1 by omega]
  show it5 mask (a+b) (f5 mask i)=it5 mask b (it5 mask a (f5 mask i))
  exact zGy mask a b _
theorem rs_it5 (mask:Nat) (h:Int) (n:Nat):(rs mask h (13+n)).1=it5 mask n (rs mask h 13).1:=by
 induction n with
 | zero=>rfl
 | succ n ih =>
  show (leap mask (rs mask h (13+n)).1 (rs mask h (13+n)).2).1=_
  rw [rs_pert0 mask h (13+n) (by omega),ih,show n+1=n+1 from rfl,zGy mask n 1]
  show ((it5 mask n _)*5+1+0 / 32) % (mask+1)=f5 mask (it5 mask n _)
  unfold f5
  simp
def Msk (mask:Nat):Prop:=mask=7\/mask=31\/mask=127\/mask=511
def orb (mask:Nat):Nat->Nat->List Nat
 | 0,_=>[]
 | n+1,i=>i::orb mask n (f5 mask i)
theorem orb_mem (mask:Nat):∀(n i s:Nat),s∈orb mask n i->∃a,a<n/\it5 mask a i=s
 | 0,i,s,h=>by simp [orb] at h
 | n+1,i,s,h=>by
  rcases List.mem_cons.mp h with z| z
  ·exact ⟨0,by omega,z.symm⟩
  ·obtain ⟨a,ha,e⟩:=orb_mem mask n (f5 mask i) s z
   exact ⟨a+1,by omega,e⟩
theorem orb_all {mask:Nat} (hm:Msk mask):(List.range (mask+1)).all (fun s=>(orb mask (mask+1) 0).contains s)=true/\it5 mask (mask+1) 0=0:=by
 rcases hm with rfl| rfl| rfl| rfl
 ·exact ⟨by decide +kernel,by decide +kernel⟩
 ·exact ⟨by decide +kernel,by decide +kernel⟩
 ·exact ⟨by decide +kernel,by decide +kernel⟩
 ·exact ⟨by decide +kernel,by decide +kernel⟩
theorem cyc {mask:Nat} (hm:Msk mask) (i s:Nat) (hi:i<=mask) (hs:s<=mask):∃r,r<=mask/\it5 mask r i=s:=by
 obtain ⟨h1,h2⟩:=orb_all hm
 have get:∀x,x<=mask->∃a,a<mask+1/\it5 mask a 0=x:=fun x hx=>by
  have:=List.all_eq_true.mp h1 x (List.mem_range.mpr (by omega))
  exact orb_mem mask (mask+1) 0 x (by simpa using this)
 obtain ⟨a,ha,ea⟩:=get i hi
 obtain ⟨b,hb,eb⟩:=get s hs
 by_cases c:a<=b
 ·refine ⟨b - a,by omega,?_⟩
  rw [<-ea,<-zGy,show a+(b - a)=b by omega,eb]
 ·refine ⟨mask+1 - a+b,by omega,?_⟩
  rw [<-ea,<-zGy,show a+(mask+1 - a+b)=mask+1+b by omega,zGy,h2,eb]
theorem pr_all {mask:Nat} (hm:Msk mask) (h:Int) (s:Nat) (hs:s<=mask):∃r,r<=13+mask/\(rs mask h r).1=s:=by
 obtain ⟨r,hr,e⟩:=cyc hm (rs mask h 13).1 s (rs_le mask h 13) hs
 exact ⟨13+r,by omega,by rw [rs_it5,e]⟩
theorem free_slot {mask:Nat} {L:List Nat} (hL:L.length<=mask):∃s,s<=mask/\s∉L:=by
 apply Classical.byContradiction
 intro h
 have sub:∀s,s∈List.range (mask+1)->s∈L:=fun s hs=>by
  apply Classical.byContradiction
  intro q
  exact h ⟨s,by have:=List.mem_range.mp hs;omega,q⟩
 have:=(List.nodup_range (n:=mask+1)).length_le_of_subset sub
 rw [List.length_range] at this
 omega
theorem pr_free {mask:Nat} (hm:Msk mask) (h:Int) {L:List Nat} (hL:L.length<=mask):∃n,n<10*turns mask/\(pr mask h n).j∉L:=by
 obtain ⟨s,hs,q⟩:=free_slot hL
 obtain ⟨r,hr,e⟩:=pr_all hm h s hs
 refine ⟨stt mask h r,?_,?_⟩
 ·have:=stt_le mask h r
  unfold turns
  omega
 ·have:=zEo mask h r 0 (Nat.zero_le _)
  rw [Nat.add_zero] at this
  rw [this]
  show (rs mask h r).1+0∉L
  rw [Nat.add_zero,e];exact q
theorem zHx {mask:Nat} (hm:Msk mask) (h:Int) {L:List Nat} (hL:L.length<=mask):∃n,n<10*turns mask/\(pr mask h n).j∉L/\∀m,m<n->(pr mask h m).j∈L:=by
 obtain ⟨n,hn,q⟩:=pr_free hm h hL
 induction n using Nat.strongRecOn with
 | _ n ih =>
  by_cases c:∃m,m<n/\(pr mask h m).j∉L
  ·obtain ⟨m,hm',qm⟩:=c
   exact ih m hm' (by omega) qm
  ·refine ⟨n,hn,q,fun m hmn=>?_⟩
   apply Classical.byContradiction
   intro z
   exact c ⟨m,hmn,z⟩
structure TOk (t:SetTable) (hs:List Int):Prop where
 m:Msk t.mask
 d:t.dummies=#[]
 r:Rise t.place.toList
 l:∀j∈t.place.toList,j<=t.mask
 n:t.place.size=hs.length
 f:t.place.size<=t.mask
 reach:∀(i j:Nat) (h:Int),t.place[i]?=some j->hs[i]?=some h->∃n,(pr t.mask h n).j=j/\∀m,m<n->(pr t.mask h m).j∈t.place.toList
theorem fresh_ok (fi mo:Nat) (led:Bool):TOk (SetTable.fresh fi mo led) [] :=
 ⟨.inl rfl,rfl,List.Pairwise.nil,(fun j h=>absurd (show j∈([]:List Nat) from h) (by simp)),rfl,Nat.zero_le _,(fun i j h _ e=>by simp at e)⟩
theorem has_nil (j:Nat):has #[] j=false:=by
 unfold SetTable.has
 simp
section
variable {t:SetTable} {hs:List Int}
theorem slot_live (T:TOk t hs) {i j:Nat} (e:t.place[i]?=some j):t.slot j= .live i:=by
 have b:=(zD3 T.r j).at T.r e
 unfold slot
 rw [b]
 show (if (t.place[i]?==some j)=true then _ else _)=_
 rw [e]
 simp
theorem slot_empty (T:TOk t hs) {j:Nat} (h:j∉t.place.toList):t.slot j= .empty:=by
 unfold slot
 have e:(t.place[below t.place j]?==some j)=false:=by
  rw [beq_eq_false_iff_ne]
  intro z
  exact h (List.mem_of_getElem? (i:=below t.place j) (by rw [Array.getElem?_toList];exact z))
 simp only [e,T.d,has_nil]
 simp
theorem mem_at {xs:Array Nat} {j:Nat} (h:j∈xs.toList):∃i:Nat,xs[i]?=some j:=by
 obtain ⟨i,hi,e⟩:=List.mem_iff_getElem.mp h
 exact ⟨i,by rw [<-Array.getElem?_toList];exact List.getElem?_eq_some_iff.mpr ⟨hi,e⟩⟩
def Oth (t:SetTable) (hashAt:Nat->Int) (h:Int) (m:Nat):Prop:=∃i:Nat,t.place[i]?=some (pr t.mask h m).j/\hashAt i≠h
theorem adv_pr (t:SetTable) (h:Int) (n:Nat):t.advance (pr t.mask h n)=pr t.mask h (n+1):=rfl
theorem go_ok (T:TOk t hs) (hashAt:Nat->Int) (h:Int) {N:Nat} (hN:(pr t.mask h N).j∉t.place.toList) (hb:∀m,m<N->(pr t.mask h m).j∈t.place.toList):∀(d n fuel:Nat),N=n+d->d<fuel ->
  (probe.go t hashAt h fuel (pr t.mask h n)=some (.empty (pr t.mask h N).j none)/\∀m,n<=m->m<N->Oth t hashAt h m) \/
  ∃m i,n<=m/\m<N/\t.place[i]?=some (pr t.mask h m).j/\hashAt i=h/\probe.go t hashAt h fuel (pr t.mask h n)=some (.candidate (pr t.mask h m).j i (pr t.mask h (m+1)))/\∀m',n<=m'->m'<m->Oth t hashAt h m'
 | 0,n,fuel+1,e,_=>by
  have e:N=n:=by omega
  subst e
  left
  refine ⟨?_,fun m h1 h2=>by omega⟩
  unfold probe.go
  rw [slot_empty T hN]
  show some (Met.empty _ (pr t.mask h N).dummy)=_
  rw [pr_dummy]
 | d+1,n,fuel+1,e,hf=>by
  obtain ⟨i,ei⟩:=mem_at (hb n (by omega))
  unfold probe.go
  rw [slot_live T ei]
  by_cases c:hashAt i=h
  ·right
   refine ⟨n,i,Nat.le_refl _,by omega,ei,c,?_,fun m' h1 h2=>by omega⟩
   show (if (hashAt i==h)=true then _ else _)=_
   rw [if_pos (by simpa using c),adv_pr]
  ·have q:(if (hashAt i==h)=true then some (Met.candidate (pr t.mask h n).j i (t.advance (pr t.mask h n))) else probe.go t hashAt h fuel (t.advance (pr t.mask h n)))=probe.go t hashAt h fuel (pr t.mask h (n+1)):=by
    rw [if_neg (by simpa using c),adv_pr]
   rcases go_ok T hashAt h hN hb d (n+1) fuel (by omega) (by omega) with ⟨z1,z2⟩| ⟨m,i',z1,z2,z3,z4,z5,z6⟩
   ·left
    refine ⟨q.trans z1,fun m h1 h2=>?_⟩
    by_cases cm:m=n
    ·subst cm;exact ⟨i,ei,c⟩
    ·exact z2 m (by omega) h2
   ·right
    refine ⟨m,i',by omega,z2,z3,z4,q.trans z5,fun m' h1 h2=>?_⟩
    by_cases cm:m'=n
    ·subst cm;exact ⟨i,ei,c⟩
    ·exact z6 m' (by omega) h2
 | _,_,0,_,h=>by omega
theorem zIq {α:Type} (xs:Array α) (p:Nat) (x:α) (hp:p<=xs.size):(insertAt xs p x).toList=xs.toList.take p++x::xs.toList.drop p:=by
 unfold insertAt
 rw [Array.toList_append,Array.toList_push,Array.toList_extract,Array.toList_extract,List.extract_eq_drop_take,List.extract_eq_drop_take]
 rw [List.take_of_length_le (l:=xs.toList.drop p) (by simp)]
 simp
theorem ins_rise {xs:Array Nat} (hr:Rise xs.toList) {j:Nat} (hj:j∉xs.toList):Rise (insertAt xs (below xs j) j).toList:=by
 have B:=zD3 hr j
 rw [zIq _ _ _ B.le]
 refine List.pairwise_append.mpr ⟨hr.sublist (List.take_sublist _ _),List.pairwise_cons.mpr ⟨fun y hy=>?_,hr.sublist (List.drop_sublist _ _)⟩,fun x hx y hy=>?_⟩
 ·obtain ⟨i,hi,rfl⟩:=List.mem_iff_getElem.mp hy
  rw [List.length_drop] at hi
  have e:xs[below xs j+i]?=some (xs.toList.drop (below xs j))[i]:=by
   rw [<-Array.getElem?_toList,<-List.getElem?_drop];simp
  have h1:=B.hi _ _ (Nat.le_add_right _ i) e
  have h2:(xs.toList.drop (below xs j))[i]≠j:=fun z=>hj (z▸List.mem_of_mem_drop hy)
  omega
 ·have hxj:x<j:=by
   obtain ⟨i,hi,rfl⟩:=List.mem_iff_getElem.mp hx
   rw [List.length_take] at hi
   have e:xs[i]?=some (xs.toList.take (below xs j))[i]:=by
    rw [<-Array.getElem?_toList,<-List.getElem?_take_of_lt (show i<below xs j by omega)]
    exact List.getElem?_eq_getElem _
   exact B.lo i _ (by omega) e
  rcases List.mem_cons.mp hy with z| z
  ·rw [z];exact hxj
  ·obtain ⟨i,hi,rfl⟩:=List.mem_iff_getElem.mp z
   rw [List.length_drop] at hi
   have e:xs[below xs j+i]?=some (xs.toList.drop (below xs j))[i]:=by
    rw [<-Array.getElem?_toList,<-List.getElem?_drop];simp
   have h1:=B.hi _ _ (Nat.le_add_right _ i) e
   omega
theorem zFe {α β:Type} {L:List α} {M:List β} (hl:L.length=M.length) {p:Nat} (hp:p<=L.length) {x:α} {y:β} {i:Nat} {u:α} {v:β} (h1:(L.take p++x::L.drop p)[i]?=some u) (h2:(M.take p++y::M.drop p)[i]?=some v) :
  (u=x/\v=y)\/∃i':Nat,L[i']?=some u/\M[i']?=some v:=by
 have l1:(L.take p).length=p:=by rw [List.length_take];omega
 have l2:(M.take p).length=p:=by rw [List.length_take];omega
 by_cases c:i<p
 ·rw [List.getElem?_append_left (by omega),List.getElem?_take_of_lt c] at h1 h2
  exact .inr ⟨i,h1,h2⟩
 ·rw [List.getElem?_append_right (by omega)] at h1 h2
  rw [l1] at h1
  rw [l2] at h2
  cases e:i - p with
  | zero =>
   rw [e] at h1 h2
   exact .inl ⟨(by simpa using h1.symm),(by simpa using h2.symm)⟩
  | succ k =>
   rw [e] at h1 h2
   rw [List.getElem?_cons_succ,List.getElem?_drop] at h1 h2
   exact .inr ⟨p+k,h1,h2⟩
theorem put_ok (T:TOk t hs) (h:Int) {N:Nat} (hN:(pr t.mask h N).j∉t.place.toList) (hb:∀m,m<N->(pr t.mask h m).j∈t.place.toList) (hf:t.place.size+1<=t.mask) :
  TOk (t.put (pr t.mask h N).j).1 (hs.take (t.put (pr t.mask h N).j).2++h::hs.drop (t.put (pr t.mask h N).j).2):=by
 have B:=zD3 T.r (pr t.mask h N).j
 have ep:(t.put (pr t.mask h N).j).2=below t.place (pr t.mask h N).j:=rfl
 have el:(t.put (pr t.mask h N).j).1.place=insertAt t.place (below t.place (pr t.mask h N).j) (pr t.mask h N).j:=rfl
 have em:(t.put (pr t.mask h N).j).1.mask=t.mask:=rfl
 have tl:=zIq t.place (below t.place (pr t.mask h N).j) (pr t.mask h N).j B.le
 have mem:∀j,j∈t.place.toList->j∈(insertAt t.place (below t.place (pr t.mask h N).j) (pr t.mask h N).j).toList:=fun j hj=>by
  rw [tl]
  have:j∈t.place.toList.take (below t.place (pr t.mask h N).j)++t.place.toList.drop (below t.place (pr t.mask h N).j):=by rw [List.take_append_drop];exact hj
  rcases List.mem_append.mp this with z| z
  ·exact List.mem_append_left _ z
  ·exact List.mem_append_right _ (List.mem_cons_of_mem _ z)
 have sz:(insertAt t.place (below t.place (pr t.mask h N).j) (pr t.mask h N).j).size=t.place.size+1:=by
  have:=congrArg List.length tl
  simp only [Array.length_toList,List.length_append,List.length_cons,List.length_take,List.length_drop] at this
  have:=B.le
  omega
 refine ⟨T.m,?_,ins_rise T.r hN,fun j hj=>?_,?_,?_,fun i j h' e1 e2=>?_⟩
 ·show (if has t.dummies (pr t.mask h N).j then _ else t.dummies)=#[]
  rw [T.d,has_nil];rfl
 ·rw [em]
  rw [el,tl] at hj
  rcases List.mem_append.mp hj with z| z
  ·exact T.l j (List.mem_of_mem_take z)
  ·rcases List.mem_cons.mp z with z| z
   ·rw [z];exact pr_le _ _ _
   ·exact T.l j (List.mem_of_mem_drop z)
 ·rw [el,sz,ep,List.length_append,List.length_cons,List.length_take,List.length_drop]
  have:=B.le
  have:=T.n
  omega
 ·rw [el,sz];exact hf
 ·rw [em]
  rw [el,<-Array.getElem?_toList,tl] at e1
  rw [ep] at e2
  rw [el]
  rcases zFe (L:=t.place.toList) (M:=hs) (by simpa using T.n) (by simpa using B.le) e1 e2 with ⟨z1,z2⟩| ⟨i',z1,z2⟩
  ·subst z1 z2
   exact ⟨N,rfl,fun m hm=>mem _ (hb m hm)⟩
  ·obtain ⟨n,q1,q2⟩:=T.reach i' j h' (by rw [<-Array.getElem?_toList];exact z1) z2
   exact ⟨n,q1,fun m hm=>mem _ (q2 m hm)⟩
end
structure Ow (mask:Nat) (hs:List Int) (owner:Array (Option Nat)) (sl:List Nat):Prop where
 z:owner.size=mask+1
 n:sl.length=hs.length
 nd:sl.Nodup
 l:∀j∈sl,j<=mask
 a:∀(k j:Nat),sl[k]?=some j->owner[j]?=some (some k)
 e:∀j,j<=mask->j∉sl->owner[j]?=some none
 reach:∀(k j:Nat) (h:Int),sl[k]?=some j->hs[k]?=some h->∃n,(pr mask h n).j=j/\∀m,m<n->(pr mask h m).j∈sl
theorem zIm {mask:Nat} {hs:List Int} {owner:Array (Option Nat)} {sl:List Nat} (O:Ow mask hs owner sl) {j:Nat} (hj:j<=mask):((owner.getD j (some 0)).isNone=true)↔j∉sl:=by
 have hz:j<owner.size:=by rw [O.z];omega
 have eD:owner.getD j (some 0)=owner[j]:=by simp [Array.getD,hz]
 rw [eD]
 constructor
 ·intro h q
  obtain ⟨k,hk,e⟩:=List.mem_iff_getElem.mp q
  have:=O.a k j (List.getElem?_eq_some_iff.mpr ⟨hk,e⟩)
  rw [Array.getElem?_eq_getElem hz] at this
  rw [Option.some.inj this] at h
  simp at h
 ·intro q
  have:=O.e j hj q
  rw [Array.getElem?_eq_getElem hz] at this
  rw [Option.some.inj this]
  rfl
theorem free_go {mask:Nat} {hs:List Int} {owner:Array (Option Nat)} {sl:List Nat} (hm:Msk mask) (O:Ow mask hs owner sl) (hl:sl.length<=mask) (h:Int) {N:Nat} (hN:(pr mask h N).j∉sl) (hb:∀m,m<N->(pr mask h m).j∈sl) {R:Nat} (hR:(rs mask h R).1∉sl) :
  ∀(fuel r:Nat),stt mask h r<=N->R<r+fuel->layClean.free mask owner fuel (rs mask h r).1 (rs mask h r).2=some (pr mask h N).j
 | 0,r,h1,h2=>by
  exfalso
  have key:∀d,stt mask h R<=stt mask h (R+d)/\(0<d->stt mask h R<stt mask h (R+d)):=by
   intro d
   induction d with
   | zero=>exact ⟨Nat.le_refl _,fun z=>by omega⟩
   | succ d ih =>
    have e:stt mask h (R+(d+1))=stt mask h (R+d)+(runEnd mask (rs mask h (R+d)).1 - (rs mask h (R+d)).1+1):=rfl
    exact ⟨by omega,fun _=>by omega⟩
  obtain ⟨d,rfl⟩:∃d,r=R+d:=⟨r - R,by omega⟩
  have hd:0<d:=by omega
  have:=(key d).2 hd
  have q:=hb (stt mask h R) (by omega)
  have e:=zEo mask h R 0 (Nat.zero_le _)
  rw [Nat.add_zero] at e
  rw [e] at q
  exact hR (by simpa using q)
 | fuel+1,r,h1,h2=>by
  have rl:=run_le mask _ (rs_le mask h r)
  unfold layClean.free
  cases q:(List.range (runEnd mask (rs mask h r).1+1 - (rs mask h r).1)).find? fun k=>(owner.getD ((rs mask h r).1+k) (some 0)).isNone with
  | some k =>
   have q1:=List.find?_some q
   have q2:=List.mem_of_find?_eq_some q
   rw [List.mem_range] at q2
   have q1:((owner.getD ((rs mask h r).1+k) (some 0)).isNone)=true:=q1
   rw [zIm O (by omega)] at q1
   have e:=zEo mask h r k (by omega)
   have hk:(pr mask h (stt mask h r+k)).j=(rs mask h r).1+k:=by rw [e]
   have c1:¬stt mask h r+k<N:=fun z=>q1 (hk▸hb _ z)
   have c2:¬N<stt mask h r+k:=fun z=>by
    obtain ⟨d,hd⟩:∃d,N=stt mask h r+d:=⟨N - stt mask h r,by omega⟩
    have hdk:d<k:=by omega
    rw [List.find?_eq_some_iff_append] at q
    obtain ⟨_,as,bs,e1,e2⟩:=q
    have la:as.length=k:=by
     have:=congrArg (fun l=>l[as.length]?) e1
     simp at this
     by_cases cc:as.length<runEnd mask (rs mask h r).1+1 - (rs mask h r).1
     ·rw [List.getElem?_range cc] at this
      exact Option.some.inj this
     ·rw [List.getElem?_eq_none (by simp;omega)] at this
      cases this
    have mem:d∈as:=by
     have hd':(List.range (runEnd mask (rs mask h r).1+1 - (rs mask h r).1))[d]?=some d:=List.getElem?_range (by omega)
     rw [e1,List.getElem?_append_left (by omega)] at hd'
     exact List.mem_of_getElem? hd'
    have z1:=e2 d mem
    have ed:=zEo mask h r d (by omega)
    have hjd:(pr mask h N).j=(rs mask h r).1+d:=by rw [hd,ed]
    have z2:((owner.getD ((rs mask h r).1+d) (some 0)).isNone)=true:=(zIm O (by omega)).mpr (hjd▸hN)
    rw [z2] at z1
    simp at z1
   have eN:N=stt mask h r+k:=by omega
   show some ((rs mask h r).1+k)=_
   rw [eN,hk]
  | none =>
   have q1:=List.find?_eq_none.mp q
   refine free_go hm O hl h hN hb hR fuel (r+1) ?_ (by omega)
   show stt mask h r+(runEnd mask (rs mask h r).1 - (rs mask h r).1+1)<=N
   apply Classical.byContradiction
   intro c
   obtain ⟨d,hd⟩:∃d,N=stt mask h r+d:=⟨N - stt mask h r,by omega⟩
   have ed:=zEo mask h r d (by omega)
   have hjd:(pr mask h N).j=(rs mask h r).1+d:=by rw [hd,ed]
   have z1:=q1 d (List.mem_range.mpr (by omega))
   have z2:((owner.getD ((rs mask h r).1+d) (some 0)).isNone)=true:=(zIm O (by omega)).mpr (hjd▸hN)
   exact z1 z2
theorem free_ok {mask:Nat} {hs:List Int} {owner:Array (Option Nat)} {sl:List Nat} (hm:Msk mask) (O:Ow mask hs owner sl) (hl:sl.length<=mask) (h:Int) :
  ∃N,(pr mask h N).j∉sl/\(∀m,m<N->(pr mask h m).j∈sl)/\layClean.free mask owner (turns mask) (bits h % (mask+1)) (bits h)=some (pr mask h N).j:=by
 obtain ⟨N,_,hN,hb⟩:=zHx hm h hl
 obtain ⟨s,hs',q⟩:=free_slot hl
 obtain ⟨R,hR,e⟩:=pr_all hm h s hs'
 exact ⟨N,hN,hb,free_go hm O hl h hN hb (R:=R) (by rw [e];exact q) (turns mask) 0 (Nat.zero_le _) (by unfold turns;omega)⟩
theorem Ow.more {mask:Nat} {hs:List Int} {owner:Array (Option Nat)} {sl:List Nat} (O:Ow mask hs owner sl) (h:Int) {N:Nat} (hN:(pr mask h N).j∉sl) (hb:∀m,m<N->(pr mask h m).j∈sl) :
  Ow mask (hs++[h]) (owner.setIfInBounds (pr mask h N).j (some hs.length)) (sl++[(pr mask h N).j]):=by
 have hj:=pr_le mask h N
 have hz:(pr mask h N).j<owner.size:=by rw [O.z];omega
 have one:∀{k j:Nat},(sl++[(pr mask h N).j])[k]?=some j->(k<sl.length/\sl[k]?=some j)\/(k=sl.length/\j=(pr mask h N).j):=fun {k j} e=>by
  by_cases c:k<sl.length
  ·rw [List.getElem?_append_left c] at e;exact .inl ⟨c,e⟩
  ·rw [List.getElem?_append_right (by omega)] at e
   have hk:k=sl.length:=by
    have:=(List.getElem?_eq_some_iff.mp e).1
    simp at this;omega
   subst hk
   exact .inr ⟨rfl,by simpa using e.symm⟩
 refine ⟨by rw [Array.size_setIfInBounds];exact O.z,by simp [O.n],?_,fun j hj'=>?_,fun k j e=>?_,fun j hj1 hj2=>?_,fun k j h' e1 e2=>?_⟩
 ·refine List.nodup_append.mpr ⟨O.nd,List.nodup_cons.mpr ⟨by simp,List.nodup_nil⟩,fun a ha b hb'=>?_⟩
  have:b=(pr mask h N).j:=by simpa using hb'
  subst this
  intro z;subst z;exact hN ha
 ·rcases List.mem_append.mp hj' with z| z
  ·exact O.l j z
  ·have:j=(pr mask h N).j:=by simpa using z
   rw [this];exact hj
 ·rcases one e with ⟨_,z⟩| ⟨z1,z2⟩
  ·have hne:j≠(pr mask h N).j:=fun q=>hN (q▸List.mem_of_getElem? z)
   rw [Array.getElem?_setIfInBounds_ne (Ne.symm hne)]
   exact O.a k j z
  ·subst z1 z2
   rw [Array.getElem?_setIfInBounds_self_of_lt hz,O.n]
 ·have h1:j∉sl:=fun q=>hj2 (List.mem_append_left _ q)
  have h2:j≠(pr mask h N).j:=fun q=>hj2 (List.mem_append_right _ (by simp [q]))
  rw [Array.getElem?_setIfInBounds_ne (Ne.symm h2)]
  exact O.e j hj1 h1
 ·rcases one e1 with ⟨c,z⟩| ⟨z1,z2⟩
  ·rw [List.getElem?_append_left (by rw [<-O.n];exact c)] at e2
   obtain ⟨n,q1,q2⟩:=O.reach k j h' z e2
   exact ⟨n,q1,fun m hm=>List.mem_append_left _ (q2 m hm)⟩
  ·subst z1 z2
   rw [List.getElem?_append_right (by rw [O.n];exact Nat.le_refl _),O.n] at e2
   have:h'=h:=by simpa using e2.symm
   subst this
   exact ⟨N,rfl,fun m hm=>List.mem_append_left _ (hb m hm)⟩
theorem lay_ok {mask:Nat} (hm:Msk mask) (hs:List Int) (hl:hs.length<=mask):∃owner sl,Ow mask hs owner sl/\layClean mask hs.toArray=some owner:=by
 have key:∀(rest done:List Int) (owner:Array (Option Nat)) (sl:List Nat),Ow mask done owner sl->done.length+rest.length<=mask ->
   ∃owner' sl',Ow mask (done++rest) owner' sl'/\rest.foldl (fun (acc:Option (Array (Option Nat)×Nat)) h=>do
    let (owner,k)<-acc
    let j<-layClean.free mask owner (turns mask) (bits h % (mask+1)) (bits h)
    pure (owner.setIfInBounds j (some k),k+1)) (some (owner,done.length))=some (owner',(done++rest).length):=by
  intro rest
  induction rest with
  | nil=>intro done owner sl O _;exact ⟨owner,sl,by rw [List.append_nil];exact O,by rw [List.append_nil];rfl⟩
  | cons h rest ih =>
   intro done owner sl O hl
   rw [List.length_cons] at hl
   obtain ⟨N,hN,hb,ef⟩:=free_ok hm O (by rw [O.n];omega) h
   have O2:=O.more h hN hb
   obtain ⟨o',s',O3,e3⟩:=ih (done++[h]) _ _ O2 (by rw [List.length_append];simp;omega)
   refine ⟨o',s',by simpa using O3,?_⟩
   rw [List.foldl_cons]
   have e4:(do
    let (owner,k)<-(some (owner,done.length):Option (Array (Option Nat)×Nat))
    let j<-layClean.free mask owner (turns mask) (bits h % (mask+1)) (bits h)
    pure (owner.setIfInBounds j (some k),k+1))=some (owner.setIfInBounds (pr mask h N).j (some done.length),(done++[h]).length):=by
    show (do
     let j<-layClean.free mask owner (turns mask) (bits h % (mask+1)) (bits h)
     pure (owner.setIfInBounds j (some done.length),done.length+1))=_
    rw [ef]
    simp
   rw [e4,e3]
   simp
 have O0:Ow mask [] (Array.replicate (mask+1) none) []:=⟨Array.size_replicate,rfl,List.nodup_nil,(fun j h=>absurd h List.not_mem_nil),(fun k j e=>by rw [List.getElem?_nil] at e;cases e),(fun j hj _=>by rw [Array.getElem?_replicate,if_pos (by omega)]),(fun k j h e=>by rw [List.getElem?_nil] at e;cases e)⟩
 obtain ⟨o,sl,O,e⟩:=key hs [] _ _ O0 (by simpa using hl)
 refine ⟨o,sl,by simpa using O,?_⟩
 unfold layClean
 rw [List.foldl_toArray]
 have e':=e
 simp only [List.nil_append,List.length_nil] at e'
 show Option.map _ (hs.foldl _ (some (Array.replicate (mask+1) none,0)))=_
 rw [e']
 rfl
theorem laid_ok {mask:Nat} (hm:Msk mask) (hs:List Int) (hl:hs.length<=mask) (fi mo:Nat) (led plain:Bool):∃t order,laid mask fi mo led plain hs.toArray=some (t,order)/\t.mask=mask/\t.led=led/\t.plain=plain/\order.toList.Perm (List.range hs.length) /\
  TOk t (order.toList.map fun k=>hs.getD k 0):=by
 obtain ⟨owner,sl,O,e⟩:=lay_ok hm hs hl
 have hg:∀j,j<=mask->owner.getD j none=(owner[j]?).getD none:=fun j hj=>by
  have hz:j<owner.size:=by rw [O.z];omega
  simp [Array.getD,hz]
 have el:∀j,j<=mask->((owner.getD j none).map (j,·)=none↔j∉sl):=fun j hj=>by
  rw [hg j hj]
  constructor
  ·intro q z
   obtain ⟨k,hk,ek⟩:=List.mem_iff_getElem.mp z
   rw [O.a k j (List.getElem?_eq_some_iff.mpr ⟨hk,ek⟩)] at q
   cases q
  ·intro q
   rw [O.e j hj q];rfl
 have es:∀j k,j<=mask->((owner.getD j none).map (j,·)=some (j,k)↔sl[k]?=some j):=fun j k hj=>by
  rw [hg j hj]
  constructor
  ·intro q
   by_cases c:j∈sl
   ·obtain ⟨k',hk,ek⟩:=List.mem_iff_getElem.mp c
    have ek':=List.getElem?_eq_some_iff.mpr ⟨hk,ek⟩
    rw [O.a k' j ek'] at q
    have q:some (j,k')=some (j,k):=q
    injection q with q
    injection q with _ q
    rw [<-q];exact ek'
   ·rw [O.e j hj c] at q;cases q
  ·intro q
   rw [O.a k j q];rfl
 generalize hlive:(List.range (mask+1)).filterMap (fun j=>(owner.getD j none).map (j,·))=live
 have mem:∀p,p∈live↔sl[p.2]?=some p.1:=fun p=>by
  rw [<-hlive,List.mem_filterMap]
  constructor
  ·rintro ⟨j,hj,q⟩
   have hj':j<=mask:=by have:=List.mem_range.mp hj;omega
   have:p.1=j:=by
    cases h:owner.getD j none with
    | none=>rw [h] at q;cases q
    | some k=>rw [h] at q;have q:some (j,k)=some p:=q;injection q with q;rw [<-q]
   subst this
   exact (es p.1 p.2 hj').mp q
  ·intro q
   have hj:p.1<=mask:=O.l _ (List.mem_of_getElem? q)
   exact ⟨p.1,List.mem_range.mpr (by omega),(es p.1 p.2 hj).mpr q⟩
 have rise:Rise (live.map (·.1)):=by
  have h1:(List.range (mask+1)).Pairwise (·<·):=List.pairwise_lt_range
  rw [<-hlive,List.map_filterMap]
  refine List.Pairwise.filterMap _ (fun a b hab x hx y hy=>?_) h1
  cases ha:owner.getD a none with
  | none=>rw [ha] at hx;cases hx
  | some k =>
   rw [ha] at hx
   have hx:some a=some x:=hx
   cases hb:owner.getD b none with
   | none=>rw [hb] at hy;cases hy
   | some k' =>
    rw [hb] at hy
    have hy:some b=some y:=hy
    injection hx with hx
    injection hy with hy
    omega
 have nd2:(live.map (·.2)).Nodup:=by
  have hr:live.Pairwise (fun a b=>a.1<b.1):=List.pairwise_map.mp rise
  refine List.pairwise_map.mpr (hr.imp_of_mem fun {a b} ha hb hab q=>?_)
  have h1:=(mem a).mp ha
  have h2:=(mem b).mp hb
  rw [q] at h1
  rw [h1] at h2
  have:=Option.some.inj h2
  omega
 have perm:(live.map (·.2)).Perm (List.range hs.length):=by
  refine (List.perm_ext_iff_of_nodup nd2 List.nodup_range).mpr fun k=>?_
  rw [List.mem_range,List.mem_map]
  constructor
  ·rintro ⟨p,hp,rfl⟩
   have:=(List.getElem?_eq_some_iff.mp ((mem p).mp hp)).1
   rw [O.n] at this;exact this
  ·intro hk
   have hk':k<sl.length:=by rw [O.n];exact hk
   exact ⟨(sl[k],k),(mem _).mpr (by simp),rfl⟩
 have pmem:∀j,j∈live.map (·.1)↔j∈sl:=fun j=>by
  rw [List.mem_map]
  constructor
  ·rintro ⟨p,hp,rfl⟩;exact List.mem_of_getElem? ((mem p).mp hp)
  ·intro q
   obtain ⟨k,hk,ek⟩:=List.mem_iff_getElem.mp q
   exact ⟨(j,k),(mem _).mpr (List.getElem?_eq_some_iff.mpr ⟨hk,ek⟩),rfl⟩
 have llen:live.length=hs.length:=by
  have:=perm.length_eq
  simpa using this
 refine ⟨{mask,place:=(live.map (·.1)).toArray,dummies:=#[],finger:=fi,led,moves:=mo,plain},(live.map (·.2)).toArray,?_,rfl,rfl,rfl,by simpa using perm,?_⟩
 ·unfold laid
  rw [e]
  show some (_,_)=some (_,_)
  rw [hlive]
 ·refine ⟨hm,rfl,by simpa using rise,fun j hj=>?_,by simp [llen],by simp [llen];exact hl,fun i j h e1 e2=>?_⟩
  ·exact O.l j ((pmem j).mp (by simpa using hj))
  ·have e1:(live.map (·.1))[i]?=some j:=by simpa using e1
   have e2:((live.map (·.2)).map fun k=>hs.getD k 0)[i]?=some h:=by simpa using e2
   cases q:live[i]? with
   | none=>rw [List.getElem?_map,q] at e1;cases e1
   | some p =>
    rw [List.getElem?_map,q] at e1
    rw [List.getElem?_map,List.getElem?_map,q] at e2
    have e1:p.1=j:=by simpa using e1
    have e2:hs.getD p.2 0=h:=by simpa using e2
    have hp:=(mem p).mp (List.mem_of_getElem? q)
    rw [e1] at hp
    have hk:p.2<hs.length:=by rw [<-O.n];exact (List.getElem?_eq_some_iff.mp hp).1
    have hh:hs[p.2]?=some h:=by
     rw [<-e2,List.getD_eq_getElem?_getD]
     simp [hk]
    obtain ⟨n,q1,q2⟩:=O.reach p.2 j h hp hh
    exact ⟨n,q1,fun m hm=>by
     have:=(pmem _).mpr (q2 m hm)
     simpa using this⟩
section
variable {prog:Program} {w:World} {K:Type} [DecidableEq K] {knd:KeyKind prog w K} {A:Around} {E:Value->Shared->Prop} {s:Shared}
theorem byv_noref {v:Value} (h:carriedByValue v=true):∀a,v≠.ref a:=by
 intro a e;subst e;simp [carriedByValue] at h
theorem cls_byv (n:Nat) {v:Value} (h:carriedByValue v=true):ofAClassStatement n v=pure false:=by
 cases v with
 | ref a=>exact absurd rfl (byv_noref h a)
 | _=>cases n<;>(unfold ofAClassStatement;rfl)
theorem w_cls {k:List K} {b:Addr} {Q:Bool->Shared->Prop} (hk:IsTupleKey knd s.heap k b) (h:Q false s):wpAny (model prog w) A (ofAClassStatement 8 (.ref b)) Q E s:=by
 have hT:=hk.typeIs
 obtain ⟨o,items,n,ho,_,hd,hi⟩:=hk
 unfold ofAClassStatement
 refine wpAny_bind (wpAny_typeOf hT ?_)
 show wpAny _ _ (if ("tuple" == "tuple")=true then _ else _) _ _ _
 rw [if_pos (by decide)]
 refine wpAny_bind (wpAny_pure ?_)
 show wpAny _ _ (if (!true)=true then _ else _) _ _ _
 rw [if_neg (by decide)]
 show wpAny _ _ (seqItems? (.ref b) >>= _) _ _ _
 refine wpAny_bind ?_
 show wpAny _ _ (load b >>= _) _ _ _
 refine wpAny_bind (wpAny_load ho ?_)
 rw [hd]
 refine wpAny_pure ?_
 dsimp only
 refine wpAny_bind ?_
 show wpAny _ _ (forIn items _ _) _ _ s
 rw [<-Array.forIn_toList]
 refine wpAny_forIn_list _ (fun rest r s'=>r.1=none/\s'=s/\∀v∈rest,carriedByValue v=true) _ ?_ ?_ _ _ ⟨rfl,rfl,hi.byValue⟩
 ·rintro v rest r s' ⟨hr,rfl,hall⟩
  refine wpAny_bind (wpAny_of_eq (cls_byv _ (hall v List.mem_cons_self)) ?_)
  rw [if_neg (by decide)]
  exact wpAny_pure ⟨rfl,rfl,fun u hu'=>hall u (List.mem_cons_of_mem _ hu')⟩
 ·rintro ⟨r1,r2⟩ s' ⟨hr,rfl,_⟩
  have hr:r1=none:=hr
  subst hr
  exact wpAny_pure h
theorem w_seen {k:List K} {b:Addr} {stored:List Value} {Q:Bool->Shared->Prop} (hk:IsTupleKey knd s.heap k b) (hs:∀v∈stored,∃k' b',v= .ref b'/\IsTupleKey knd s.heap k' b') (h:Q false s):wpAny (model prog w) A (searchCouldBeSeen (.ref b) stored) Q E s:=by
 unfold searchCouldBeSeen
 refine wpAny_bind ?_
 refine wpAny_forIn_list _ (fun rest r s'=>r.1=none/\s'=s/\∀v∈rest,∃k' b',v= .ref b'/\IsTupleKey knd s.heap k' b') _ ?_ ?_ _ _ ⟨rfl,rfl,hs⟩
 ·rintro v rest r s' ⟨hr,rfl,hall⟩
  obtain ⟨k',b',rfl,hk'⟩:=hall v List.mem_cons_self
  have hall':∀u∈rest,∃k' b',u= .ref b'/\IsTupleKey knd s'.heap k' b':=fun u hu'=>hall u (List.mem_cons_of_mem _ hu')
  dsimp only
  by_cases c:((b==b')||(carriedByValue (.ref b)&&carriedByValue (.ref b')))=true
  ·rw [if_pos c]
   exact wpAny_pure ⟨rfl,rfl,hall'⟩
  ·rw [if_neg c]
   refine wpAny_bind (wpAny_eqIsQuiet_tuple hk ?_)
   rw [if_neg (by decide)]
   refine wpAny_bind (wpAny_eqIsQuiet_tuple hk' ?_)
   rw [if_neg (by decide)]
   refine wpAny_bind (w_cls hk ?_)
   rw [if_neg (by decide)]
   refine wpAny_bind (w_cls hk' ?_)
   rw [if_neg (by decide)]
   exact wpAny_pure ⟨rfl,rfl,hall'⟩
 ·rintro ⟨r1,r2⟩ s' ⟨hr,rfl,_⟩
  have hr:r1=none:=hr
  subst hr
  exact wpAny_pure h
theorem hbv_byv (n:Nat) {v:Value} (h:carriedByValue v=true):∃c,hashByValue n v=pure c:=by
 cases v with
 | ref a=>exact absurd rfl (byv_noref h a)
 | _=>cases n<;>(unfold hashByValue;exact ⟨_,rfl⟩)
theorem w_hbv {k:List K} {b:Addr} {Q:Bool->Shared->Prop} (hk:IsTupleKey knd s.heap k b) (h:∀c,Q c s):wpAny (model prog w) A (hashByValue 8 (.ref b)) Q E s:=by
 have hT:=hk.typeIs
 obtain ⟨o,items,n,ho,_,hd,hi⟩:=hk
 unfold hashByValue
 refine wpAny_bind (wpAny_specialOf hT F.slot_tuple_hash.lookup ?_)
 show wpAny _ _ (seqItems? (.ref b) >>= _) _ _ _
 refine wpAny_bind ?_
 show wpAny _ _ (load b >>= _) _ _ _
 refine wpAny_bind (wpAny_load ho ?_)
 rw [hd]
 refine wpAny_pure ?_
 dsimp only
 refine wpAny_bind ?_
 show wpAny _ _ (forIn items _ _) _ _ s
 rw [<-Array.forIn_toList]
 refine wpAny_forIn_list _ (fun rest r s'=>s'=s/\∀v∈rest,carriedByValue v=true) _ ?_ ?_ _ _ ⟨rfl,hi.byValue⟩
 ·rintro v rest r s' ⟨rfl,hall⟩
  obtain ⟨c,ec⟩:=hbv_byv 7 (hall v List.mem_cons_self)
  rw [ec]
  refine wpAny_bind (wpAny_pure ?_)
  split
  ·exact wpAny_pure (wpAny_pure (h _))
  ·exact wpAny_pure ⟨rfl,fun u hu'=>hall u (List.mem_cons_of_mem _ hu')⟩
 ·rintro ⟨r1,r2⟩ s' ⟨rfl,_⟩
  cases r1 with
  | none=>exact wpAny_pure (h _)
  | some c=>exact wpAny_pure (h _)
end
section
variable {prog:Program} {w:World} {K:Type} [DecidableEq K] {knd:KeyKind prog w K} {A:Around} {E:Value->Shared->Prop} {s:Shared}
def en (knd:KeyKind prog w K) (p:List K×Addr):Int×Value:=(tupleKeyHash knd p.1,.ref p.2)
def byt (w:World):Bool:=w.params.followText "set-order"
structure SetX (knd:KeyKind prog w K) (h:Heap) (a:Addr) (xs:List (List K×Addr)) (o:Obj) (es:Array (Int×Value)) (ep:Nat) (t:SetTable):Prop where
 ho:h.get? a=some o
 ex:o.ExactSet
 hd:o.data= .set es ep t
 el:es.toList=xs.map (en knd)
 ok:TOk t (xs.map fun p=>tupleKeyHash knd p.1)
 room:xs.length*5<t.mask*3
 nd:(xs.map (·.1)).Nodup
 ky:∀p∈xs,IsTupleKey knd h p.1 p.2
 ld:t.led= !byt w
section
variable {a:Addr} {xs:List (List K×Addr)} {o:Obj} {es:Array (Int×Value)} {ep:Nat} {t:SetTable}
theorem SetX.at (X:SetX knd s.heap a xs o es ep t) (i:Nat):es[i]?=(xs[i]?).map (en knd):=by
 rw [<-Array.getElem?_toList,X.el,List.getElem?_map]
theorem SetX.size (X:SetX knd s.heap a xs o es ep t):es.size=xs.length:=by
 have:=congrArg List.length X.el
 simpa using this
theorem SetX.fits (X:SetX knd s.heap a xs o es ep t):t.fits es.size=true:=by
 unfold SetTable.fits
 have h1:t.place.size=es.size:=by rw [X.ok.n,X.size];simp
 have h2:t.fill<=t.mask:=by
  unfold fill
  rw [X.ok.d]
  exact X.ok.f
 rw [h1]
 simp [h2]
theorem SetX.state (X:SetX knd s.heap a xs o es ep t) {Q:(Array (Int×Value)×Nat×SetTable)->Shared->Prop} (h:Q (es,ep,t) s):wpAny (model prog w) A (setState a) Q E s:=wpAny_setState_of X.ho X.hd X.fits h
theorem msk_odd {m:Nat} (h:Msk m):(m % 2==0)=false:=by
 rcases h with rfl| rfl| rfl| rfl<;>decide
theorem SetX.has (X:SetX knd s.heap a xs o es ep t) {i j:Nat} (e:t.place[i]?=some j):∃p,xs[i]?=some p:=by
 have h1:i<t.place.size:=(Array.getElem?_eq_some_iff.mp e).1
 have h2:=X.ok.n
 rw [List.length_map] at h2
 exact ⟨xs[i]'(by omega),by simp⟩
theorem split_seen {α:Type} {c:Bool} {m:Sem Bool} {u:String} {jp:Unit->Sem α} {Q:α->Shared->Prop} (hm:∀f:Bool->Sem α,wpAny (model prog w) A (f false) Q E s->wpAny (model prog w) A (m >>= f) Q E s) (h:wpAny (model prog w) A (jp ()) Q E s) :
  wpAny (model prog w) A (if c=true then (m >>= fun l=>if l=true then (unsupported u >>= jp) else jp ()) else jp ()) Q E s:=by
 by_cases z:c=true
 ·rw [if_pos z]
  exact hm _ h
 ·rw [if_neg z]
  exact h
theorem w_search (hu:A.units<cLine) (X:SetX knd s.heap a xs o es ep t) {k:List K} {b:Addr} (hk:IsTupleKey knd s.heap k b) {N:Nat} (hN:(pr t.mask (tupleKeyHash knd k) N).j∉t.place.toList) (hb:∀m,m<N->(pr t.mask (tupleKeyHash knd k) m).j∈t.place.toList) (hNf:N<10*turns t.mask)
  {Q:SetFound->Shared->Prop} (h1:k∈xs.map (·.1)->Q (.there none) s) (h2:k∉xs.map (·.1)->Q (.free (pr t.mask (tupleKeyHash knd k) N).j false) s) :
  ∀(d n fuel:Nat) (stand:Option Probe),N=n+d->d<fuel->stand.getD (t.probeStart (tupleKeyHash knd k))=pr t.mask (tupleKeyHash knd k) n ->
   (∀m,m<n->∃(i:Nat) (p:List K×Addr),t.place[i]?=some (pr t.mask (tupleKeyHash knd k) m).j/\xs[i]?=some p/\p.1≠k)->wpAny (model prog w) A (setSearchFrom a (.ref b) (tupleKeyHash knd k) true fuel stand) Q E s:=by
 intro d
 induction d using Nat.strongRecOn with
 | _ d ih =>
  intro n fuel stand e hf hst hseen
  obtain ⟨fuel,rfl⟩:∃f,fuel=f+1:=⟨fuel - 1,by omega⟩
  unfold setSearchFrom
  refine wpAny_bind (X.state ?_)
  show wpAny _ _ (if (t.mask % 2==0)=true then _ else _) _ _ _
  rw [msk_odd X.ok.m,if_neg (by decide)]
  have oth:∀m,Oth t (fun i=>(es[i]?.map (·.1)).getD 0) (tupleKeyHash knd k) m->∃(i:Nat) (p:List K×Addr),t.place[i]?=some (pr t.mask (tupleKeyHash knd k) m).j/\xs[i]?=some p/\p.1≠k:=fun m ⟨i,ei,hi⟩=>by
   obtain ⟨p,ep'⟩:=X.has ei
   refine ⟨i,p,ei,ep',fun z=>hi ?_⟩
   show (es[i]?.map (·.1)).getD 0=_
   rw [X.at i,ep',<-z];rfl
  rw [hst]
  rcases go_ok X.ok (fun i=>(es[i]?.map (·.1)).getD 0) (tupleKeyHash knd k) hN hb d n (10*turns t.mask) e (by omega) with ⟨z1,z2⟩| ⟨m,i,z1,z2,z3,z4,z5,z6⟩
  ·have z1:t.probe (fun i=>(es[i]?.map (·.1)).getD 0) (tupleKeyHash knd k) (pr t.mask (tupleKeyHash knd k) n)=some (.empty (pr t.mask (tupleKeyHash knd k) N).j none):=z1
   erw [z1]
   refine wpAny_pure (h2 fun hm=>?_)
   obtain ⟨p,hp,rfl⟩:=List.mem_map.mp hm
   obtain ⟨i,hi,ei⟩:=List.mem_iff_getElem.mp hp
   have exi:xs[i]?=some p:=List.getElem?_eq_some_iff.mpr ⟨hi,ei⟩
   have hpl:i<t.place.size:=by rw [X.ok.n,List.length_map];exact hi
   have epl:t.place[i]?=some t.place[i]:=by simp
   obtain ⟨q,q1,q2⟩:=X.ok.reach i t.place[i] (tupleKeyHash knd p.1) epl (by rw [List.getElem?_map,exi];rfl)
   have hqN:q<N:=by
    apply Classical.byContradiction
    intro c
    by_cases cq:q=N
    ·subst cq
     exact hN (by rw [q1];exact List.mem_of_getElem? (i:=i) (by rw [Array.getElem?_toList];exact epl))
    ·exact hN (q2 N (by omega))
   have:∃(i':Nat) (p':List K×Addr),t.place[i']?=some (pr t.mask (tupleKeyHash knd p.1) q).j/\xs[i']?=some p'/\p'.1≠p.1:=by
    by_cases c:q<n
    ·exact hseen q c
    ·exact oth q (z2 q (by omega) hqN)
   obtain ⟨i',p',w1,w2,w3⟩:=this
   rw [q1] at w1
   have:i'=i:=by
    rcases Nat.lt_trichotomy i' i with z| z| z
    ·have:=zDx X.ok.r z w1 epl;omega
    ·exact z
    ·have:=zDx X.ok.r z epl w1;omega
   subst this
   rw [exi] at w2
   cases w2
   exact w3 rfl
  ·have z5:t.probe (fun i=>(es[i]?.map (·.1)).getD 0) (tupleKeyHash knd k) (pr t.mask (tupleKeyHash knd k) n)=some (.candidate (pr t.mask (tupleKeyHash knd k) m).j i (pr t.mask (tupleKeyHash knd k) (m+1))):=z5
   erw [z5]
   obtain ⟨p,exi⟩:=X.has z3
   have hp:=X.ky p (List.mem_of_getElem? exi)
   have eei:es[i]?=some (tupleKeyHash knd p.1,.ref p.2):=by rw [X.at i,exi];rfl
   refine split_seen (fun f hf=>wpAny_bind (w_seen hk ?_ hf)) ?_
   ·intro v hv
    obtain ⟨q,hq,rfl⟩:=List.mem_map.mp hv
    have hq:q∈es.toList:=by
     have:=(Array.mem_filter.mp (Array.mem_toList_iff.mp hq)).1
     exact Array.mem_toList_iff.mpr this
    rw [X.el] at hq
    obtain ⟨p',hp',rfl⟩:=List.mem_map.mp hq
    exact ⟨p'.1,p'.2,rfl,X.ky p' hp'⟩
   dsimp only
   rw [eei]
   dsimp only
   refine wpAny_bind (wpAny_holding (wpAny_eqBool_tuple hu hp hk ?_))
   refine wpAny_bind (X.state ?_)
   dsimp only
   by_cases c:p.1=k
   ·rw [if_pos (by simp [c])]
    exact wpAny_pure (h1 (List.mem_map.mpr ⟨p,List.mem_of_getElem? exi,c⟩))
   ·rw [if_neg (by simp [c])]
    have esm:t.sameMemory t.moves t.mask=some true:=by unfold SetTable.sameMemory;simp
    rw [esm]
    dsimp only
    rw [if_pos rfl,slot_live X.ok z3]
    dsimp only
    rw [eei]
    dsimp only
    refine wpAny_bind (wpAny_isSame_ref_self ?_)
    rw [if_pos rfl]
    refine wpAny_bind (wpAny_pure ?_)
    dsimp only
    rw [if_neg (by simp [c])]
    refine ih (N - (m+1)) (by omega) (m+1) fuel (some _) (by omega) (by omega) rfl ?_
    intro q hq
    by_cases cq:q<n
    ·exact hseen q cq
    by_cases cm:q=m
    ·subst cm
     exact ⟨i,p,z3,exi,c⟩
    ·exact oth q (z6 q (by omega) (by omega))
end
end
section
variable {prog:Program} {w:World} {K:Type} [DecidableEq K] {knd:KeyKind prog w K} {A:Around} {E:Value->Shared->Prop} {s:Shared}
variable {a:Addr} {xs:List (List K×Addr)} {o:Obj} {es:Array (Int×Value)} {ep:Nat} {t:SetTable}
theorem key_but {h h':Heap} {k:List K} {b:Addr} (x:IsTupleKey knd h k b) (ho:h.get? a=some o) (hd:o.data= .set es ep t) (hs:Heap.SameBut a h h'):IsTupleKey knd h' k b:=by
 obtain ⟨o1,its,n,p1,p2,p3,p4⟩:=x
 refine ⟨o1,its,n,(hs.2 b fun z=>?_).trans p1,p2,p3,p4⟩
 subst z
 have:=Option.some.inj (p1.symm.trans ho)
 subst this
 rw [hd] at p3
 exact nomatch p3
theorem put_get {h:Heap} (ho:h.get? a=some o) (hd:o.data= .set es ep t) (es':Array (Int×Value)) (t':SetTable):(h.update a (Obj.putSet es' t')).get? a=some {o with data:=.set es' (ep+1) t'}:=by
 have:=Heap.get?_update_self (Obj.putSet es' t') ho (by rw [putSet_of es' t' hd];rfl)
 rwa [putSet_of es' t' hd] at this
theorem put_X {h:Heap} (ho:h.get? a=some o) (ex:o.ExactSet) (hd:o.data= .set es ep t) {es':Array (Int×Value)} {t':SetTable} {ys:List (List K×Addr)} (e1:es'.toList=ys.map (en knd)) (e2:TOk t' (ys.map fun p=>tupleKeyHash knd p.1)) (e3:ys.length*5<t'.mask*3) (e4:(ys.map (·.1)).Nodup) (e5:∀p∈ys,IsTupleKey knd h p.1 p.2) (e6:t'.led= !byt w) :
  SetX knd (h.update a (Obj.putSet es' t')) a ys {o with data:=.set es' (ep+1) t'} es' (ep+1) t' :=
 ⟨put_get ho hd es' t',ex,rfl,e1,e2,e3,e4,fun p hp=>key_but (e5 p hp) ho hd (Heap.SameBut.update h a _),e6⟩
theorem not_scan (b:Addr) (es:Array (Int×Value)):byScan (.ref b) es=false:=by
 unfold byScan
 rfl
theorem grow_mask {m n:Nat} (hm:Msk m) (h0:n*5<m*3) (h1:m*3<=(n+1)*5) (hc:n+1<=306):Msk (sizeAbove (grown (n+1)) - 1)/\n+1<=sizeAbove (grown (n+1)) - 1/\(n+1)*5<(sizeAbove (grown (n+1)) - 1)*3/\sizeAbove (grown (n+1))<=512:=by
 rcases hm with rfl| rfl| rfl| rfl
 ·obtain rfl:n=4:=by omega
  refine ⟨by unfold Msk;decide +kernel,by decide +kernel,by decide +kernel,by decide +kernel⟩
 ·obtain rfl:n=18:=by omega
  refine ⟨by unfold Msk;decide +kernel,by decide +kernel,by decide +kernel,by decide +kernel⟩
 ·obtain rfl:n=76:=by omega
  refine ⟨by unfold Msk;decide +kernel,by decide +kernel,by decide +kernel,by decide +kernel⟩
 ·omega
theorem getD_hash (ys:List (List K×Addr)) (order:List Nat) (hp:order.Perm (List.range ys.length)):(order.filterMap (ys[·]?)).map (fun p=>tupleKeyHash knd p.1)=order.map (fun k=>(ys.map fun p=>tupleKeyHash knd p.1).getD k 0):=by
 have hall:∀k∈order,k<ys.length:=fun k hk=>List.mem_range.mp (hp.mem_iff.mp hk)
 clear hp
 induction order with
 | nil=>rfl
 | cons k ks ih =>
  have hk:=hall k List.mem_cons_self
  have e:ys[k]?=some ys[k]:=by simp [hk]
  rw [List.filterMap_cons,e]
  show tupleKeyHash knd ys[k].1::_=_::_
  rw [ih (fun q hq=>hall q (List.mem_cons_of_mem _ hq))]
  congr 1
  show _=(List.map (fun p=>tupleKeyHash knd p.fst) ys).getD k 0
  rw [List.getD_eq_getElem?_getD,List.getElem?_map,e]
  rfl
theorem range_get {α:Type} (ys:List α):(List.range ys.length).filterMap (ys[·]?)=ys:=by
 induction ys with
 | nil=>rfl
 | cons y ys ih =>
  rw [List.length_cons,List.range_succ_eq_map,List.filterMap_cons]
  show y::_=_
  rw [List.filterMap_map]
  congr 1
theorem perm_get {α:Type} (ys:List α) {order:List Nat} (hp:order.Perm (List.range ys.length)):(order.filterMap (ys[·]?)).Perm ys:=by
 have:=hp.filterMap (ys[·]?)
 rwa [range_get] at this
theorem w_relay {s:Shared} {m n:Nat} (ho:s.heap.get? a=some o) (ex:o.ExactSet) (hd:o.data= .set es ep t) (e1:es.toList=xs.map (en knd)) (e2:TOk t (xs.map fun p=>tupleKeyHash knd p.1)) (hn:xs.length=n+1) (h0:n*5<t.mask*3) (h1:t.mask*3<=(n+1)*5) (hc:n+1<=306)
  (e4:(xs.map (·.1)).Nodup) (e5:∀p∈xs,IsTupleKey knd s.heap p.1 p.2) (e6:t.led= !byt w) {Q:Unit->Shared->Prop} (h:∀h' ys o' es' ep' t',Heap.SameBut a s.heap h'->ys.Perm xs->SetX knd h' a ys o' es' ep' t'->Q () {s with heap:=h'}) :
  wpAny (model prog w) A (setRelay a (grown (n+1))) Q E s:=by
 obtain ⟨g1,g2,g3,g4⟩:=grow_mask e2.m h0 h1 hc
 have ez:es.size=xs.length:=by have:=congrArg List.length e1;simpa using this
 have hfit:t.fits es.size=true:=by
  unfold SetTable.fits
  have z1:t.place.size=es.size:=by rw [e2.n,ez];simp
  have z2:t.fill<=t.mask:=by unfold fill;rw [e2.d];exact e2.f
  rw [z1];simp [z2]
 unfold setRelay
 refine wpAny_bind (wpAny_setState_of ho hd hfit ?_)
 dsimp only
 have hsl:sizeAbove (grown (n+1))<=sizeLine:=Nat.le_trans g4 (by decide +kernel)
 rw [if_neg (Nat.not_lt.mpr hsl)]
 obtain ⟨t',order,l1,l2,l3,l4,l5,l6⟩:=laid_ok g1 (xs.map fun p=>tupleKeyHash knd p.1) (by rw [List.length_map];omega) t.finger (t.movedTo (sizeAbove (grown (n+1)) - 1)) t.led t.plain
 have lr:t.relaid (es.map (·.1)) (grown (n+1))=some (t',order):=by
  unfold relaid
  have:es.map (·.1)=(xs.map fun p=>tupleKeyHash knd p.1).toArray:=by
   apply Array.ext'
   rw [Array.toList_map,e1,List.map_map]
   rfl
  rw [this]
  exact l1
 rw [lr]
 rw [List.length_map] at l5
 have lp:=perm_get xs l5
 have el':(order.filterMap (es[·]?)).toList=(order.toList.filterMap (xs[·]?)).map (en knd):=by
  rw [Array.toList_filterMap,List.map_filterMap]
  congr 1
  funext k
  rw [<-Array.getElem?_toList,e1,List.getElem?_map]
 have ez':(order.filterMap (es[·]?)).size=es.size:=by
  rw [<-Array.length_toList,el',List.length_map,lp.length_eq,ez]
 refine wpAny_bind ?_
 show wpAny _ _ (if ((order.filterMap (es[·]?)).size != es.size)=true then _ else _) _ _ _
 rw [if_neg (by rw [ez'];simp)]
 refine wpAny_pure ?_
 dsimp only
 refine wpAny_storeSet_of ho hd ?_ (by rw [ez',ez,hn];exact Nat.le_trans hc (by decide +kernel))
 refine h _ _ _ _ _ _ (Heap.SameBut.update _ a _) lp (put_X ho ex hd el' ?_ ?_ ?_ (fun p hp=>e5 p (lp.mem_iff.mp hp)) (l3.trans e6))
 ·rw [getD_hash xs order.toList l5];exact l6
 ·rw [lp.length_eq,hn,l2];exact g3
 ·exact (lp.map (·.1)).nodup_iff.mpr e4
theorem ins_perm {α:Type} (L:List α) (p:Nat) (x:α):(L.take p++x::L.drop p).Perm (x::L):=by
 have h1:(L.take p++x::L.drop p).Perm (x::(L.take p++L.drop p)):=List.perm_middle
 rwa [List.take_append_drop] at h1
theorem plain_off {t:SetTable} {hs:List Int} (T:TOk t hs) (c:Bool):TOk (if c=true then t else {t with plain:=false}) hs/\(if c=true then t else {t with plain:=false}).mask=t.mask/\(if c=true then t else {t with plain:=false}).tooFull=t.tooFull/\(if c=true then t else {t with plain:=false}).led=t.led:=by
 cases c
 ·exact ⟨⟨T.m,T.d,T.r,T.l,T.n,T.f,T.reach⟩,rfl,rfl,rfl⟩
 ·exact ⟨T,rfl,rfl,rfl⟩
theorem w_add (hu:A.units<cLine) (X:SetX knd s.heap a xs o es ep t) {k:List K} {b:Addr} (hk:IsTupleKey knd s.heap k b) (hc:xs.length+1<=306) {Q:Bool->Shared->Prop} (h1:k∈xs.map (·.1)->Q false s)
  (h2:k∉xs.map (·.1)->∀h' ys o' es' ep' t',Heap.SameBut a s.heap h'->ys.Perm ((k,b)::xs)->SetX knd h' a ys o' es' ep' t'->Q true {s with heap:=h'}) :
  wpAny (model prog w) A (setAddHashed a (.ref b) (tupleKeyHash knd k)) Q E s:=by
 unfold setAddHashed setAddHashedIn
 refine wpAny_holding (wpAny_bind (X.state ?_))
 dsimp only
 rw [not_scan,if_neg (by decide)]
 have hpl:t.place.toList.length=xs.length:=by
  have:=X.ok.n
  rw [List.length_map] at this
  simpa using this
 have hroom:=X.room
 obtain ⟨N,hNf,hN,hb⟩:=zHx X.ok.m (tupleKeyHash knd k) (L:=t.place.toList) (by rw [hpl];omega)
 have hT:10*turns t.mask<100000:=by
  rcases X.ok.m with z| z| z| z<;>rw [z]<;>decide +kernel
 unfold setSearch
 refine wpAny_bind (w_search hu X hk hN hb hNf ?_ ?_ N 0 100000 none (by omega) (by omega) rfl (fun m hm=>absurd hm (Nat.not_lt_zero m)))
 ·intro z
  exact wpAny_pure (h1 z)
 ·intro z
  dsimp only
  refine wpAny_bind (X.state ?_)
  dsimp only
  have hf1:t.place.size+1<=t.mask:=by
   have:t.place.size=xs.length:=by simpa using hpl
   rcases X.ok.m with z| z| z| z<;>omega
  have T1:=put_ok X.ok (tupleKeyHash knd k) hN hb hf1
  have em:(t.put (pr t.mask (tupleKeyHash knd k) N).j).1.mask=t.mask:=rfl
  have ed:(t.put (pr t.mask (tupleKeyHash knd k) N).j).1.led=t.led:=rfl
  have B:=(zD3 X.ok.r (pr t.mask (tupleKeyHash knd k) N).j).le
  have ep2:(t.put (pr t.mask (tupleKeyHash knd k) N).j).2=below t.place (pr t.mask (tupleKeyHash knd k) N).j:=rfl
  have fin:∀c:Bool,wpAny (model prog w) A (do
    storeSet a (SetTable.insertAt es (t.put (pr t.mask (tupleKeyHash knd k) N).j).2 (tupleKeyHash knd k,.ref b)) (if c=true then (t.put (pr t.mask (tupleKeyHash knd k) N).j).1 else {(t.put (pr t.mask (tupleKeyHash knd k) N).j).1 with plain:=false})
    if (!false&&(if c=true then (t.put (pr t.mask (tupleKeyHash knd k) N).j).1 else {(t.put (pr t.mask (tupleKeyHash knd k) N).j).1 with plain:=false}).tooFull)=true then do
     setRelay a (SetTable.grown (es.size+1))
     pure true
    else pure true) Q E s:=by
   intro c
   generalize hp:(t.put (pr t.mask (tupleKeyHash knd k) N).j).2=p at *
   generalize ht:(t.put (pr t.mask (tupleKeyHash knd k) N).j).1=t1 at *
   have hple:p<=es.size:=by
    rw [X.size,ep2]
    have:t.place.size=xs.length:=by simpa using hpl
    omega
   obtain ⟨T2,m2,f2,d2⟩:=plain_off T1 c
   generalize ht2:(if c=true then t1 else {t1 with plain:=false})=t2 at *
   have el:(SetTable.insertAt es p (tupleKeyHash knd k,Value.ref b)).toList=(xs.take p++(k,b)::xs.drop p).map (en knd):=by
    rw [zIq es p _ hple,X.el,List.map_append,List.map_cons,List.map_take,List.map_drop]
    rfl
   have ip:=ins_perm xs p (k,b)
   have eT:(xs.map fun p=>tupleKeyHash knd p.1).take p++tupleKeyHash knd k::(xs.map fun p=>tupleKeyHash knd p.1).drop p=(xs.take p++(k,b)::xs.drop p).map fun p=>tupleKeyHash knd p.1:=by
    rw [List.map_append,List.map_cons,List.map_take,List.map_drop]
   rw [eT] at T2
   have len:(xs.take p++(k,b)::xs.drop p).length=xs.length+1:=by rw [ip.length_eq];rfl
   have nd:((xs.take p++(k,b)::xs.drop p).map (·.1)).Nodup:=by
    refine (ip.map (·.1)).nodup_iff.mpr ?_
    exact List.nodup_cons.mpr ⟨z,X.nd⟩
   have ky:∀q∈xs.take p++(k,b)::xs.drop p,IsTupleKey knd s.heap q.1 q.2:=fun q hq=>by
    rcases List.mem_cons.mp (ip.mem_iff.mp hq) with y| y
    ·subst y;exact hk
    ·exact X.ky q y
   have sz:(SetTable.insertAt es p (tupleKeyHash knd k,Value.ref b)).size=xs.length+1:=by
    have:=congrArg List.length el
    rw [List.length_map,len] at this
    simpa using this
   refine wpAny_bind (wpAny_storeSet_of X.ho X.hd ?_ (by rw [sz];exact Nat.le_trans hc (by decide +kernel)))
   have fl:t2.tooFull=decide (t.mask*3<=(xs.length+1)*5):=by
    unfold tooFull fill
    rw [T2.d,T2.n,List.length_map,len,m2,em]
    rfl
   by_cases cf:t.mask*3<=(xs.length+1)*5
   ·rw [if_pos (by rw [fl];simp [cf])]
    rw [X.size]
    refine wpAny_bind ?_
    refine w_relay (m:=0) (o:={o with data:=.set (insertAt es p (tupleKeyHash knd k,Value.ref b)) (ep+1) t2}) (put_get X.ho X.hd _ _) X.ex rfl el T2 len ?_ ?_ hc nd ?_ (d2.trans (ed.trans X.ld)) ?_
    ·rw [m2,em];exact hroom
    ·rw [m2,em];exact cf
    ·intro q hq
     exact key_but (ky q hq) X.ho X.hd (Heap.SameBut.update _ a _)
    ·intro h' ys o' es' ep' t' q1 q2 q3
     exact wpAny_pure (h2 z h' ys o' es' ep' t' ((Heap.SameBut.update _ a _).trans q1) (q2.trans ip) q3)
   ·rw [if_neg (by rw [fl];simp [cf])]
    refine wpAny_pure (h2 z _ _ _ _ _ _ (Heap.SameBut.update _ a _) ip (put_X X.ho X.ex X.hd el T2 ?_ nd ky (d2.trans (ed.trans X.ld))))
    rw [len,m2,em];omega
  by_cases cp:(t.put (pr t.mask (tupleKeyHash knd k) N).j).1.plain=true
  ·rw [if_pos cp]
   exact wpAny_bind (w_hbv hk fin)
  ·rw [if_neg cp]
   exact wpAny_bind (wpAny_pure (fin true))
end
end ST
namespace ST
open PySem PySem.SetTable PyProof.Rows
section
variable {prog:Program} {w:World} {K:Type} [DecidableEq K] {knd:KeyKind prog w K} {A:Around} {E:Value->Shared->Prop} {s:Shared}
variable {a:Addr} {xs:List (List K×Addr)} {o:Obj} {es:Array (Int×Value)} {ep:Nat} {t:SetTable}
theorem key_kept {h h':Heap} {k:List K} {b:Addr} (x:IsTupleKey knd h k b) (e:∀o,h.get? b=some o->h'.get? b=some o):IsTupleKey knd h' k b :=
 let ⟨o,its,n,p1,r⟩:=x;⟨o,its,n,e o p1,r⟩
theorem SetX.kept {h h':Heap} (X:SetX knd h a xs o es ep t) (e:∀b o,(b=a\/∃p∈xs,p.2=b)->h.get? b=some o->h'.get? b=some o):SetX knd h' a xs o es ep t :=
 ⟨e a o (.inl rfl) X.ho,X.ex,X.hd,X.el,X.ok,X.room,X.nd,fun p hp=>key_kept (X.ky p hp) fun o q=>e _ o (.inr ⟨p,hp,rfl⟩) q,X.ld⟩
def Got (knd:KeyKind prog w K) (h:Heap) (a:Addr) (ks:List (List K×Addr)):Prop :=
 ∃xs o es ep t,SetX knd h a xs o es ep t/\(∀p∈xs,p∈ks)/\(∀p∈ks,p.1∈xs.map (·.1))/\xs.length<=ks.length
theorem Got.kept {h h':Heap} {ks:List (List K×Addr)} (g:Got knd h a ks) (e:∀b o,(b=a\/∃p∈ks,p.2=b)->h.get? b=some o->h'.get? b=some o):Got knd h' a ks:=by
 obtain ⟨xs,o,es,ep,t,X,g1,g2,g3⟩:=g
 exact ⟨xs,o,es,ep,t,X.kept fun b o hb=>e b o (hb.imp id fun ⟨p,hp,q⟩=>⟨p,g1 p hp,q⟩),g1,g2,g3⟩
theorem Got.fresh {h:Heap} {a:Addr} (ho:h.get? a=some {cls:=.type "set",dict:=none,data:=.set #[] 0 (.fresh 0 0 (!byt w))}):Got knd h a [] :=
 ⟨[],_,_,_,_,⟨ho,⟨rfl,rfl,rfl⟩,rfl,rfl,fresh_ok 0 0 _,(show 0*5<7*3 by decide),List.nodup_nil,(fun p hp=>nomatch hp),rfl⟩,(fun p hp=>nomatch hp),(fun p hp=>nomatch hp),Nat.le_refl _⟩
theorem w_more {ks:List (List K×Addr)} {k:List K} {b:Addr} (hu:A.units<cLine) (g:Got knd s.heap a ks) (hk:IsTupleKey knd s.heap k b) (hc:ks.length+1<=306) {Q:Bool->Shared->Prop}
  (h:∀c h',Heap.SameBut a s.heap h'->Got knd h' a (ks++[(k,b)])->Q c {s with heap:=h',toks:=s.toks+(k.length+1)}):wpAny (model prog w) A (setAdd a (.ref b)) Q E s:=by
 obtain ⟨xs,o,es,ep,t,X,g1,g2,g3⟩:=g
 unfold setAdd
 refine wpAny_holding (wpAny_bind (wpAny_pyHash_tuple hu hk ?_))
 refine w_add (s:={s with toks:=s.toks+(k.length+1)}) hu X hk (by omega) (fun z=>?_) fun z h' ys o' es' ep' t' q1 q2 q3=>?_
 ·refine h false s.heap (Heap.SameBut.refl a s.heap) ⟨xs,o,es,ep,t,X,fun p hp=>List.mem_append_left _ (g1 p hp),fun p hp=>?_,by rw [List.length_append];exact Nat.le_succ_of_le g3⟩
  rcases List.mem_append.mp hp with y| y
  ·exact g2 p y
  ·rw [List.mem_singleton.mp y];exact z
 ·refine h true h' q1 ⟨ys,o',es',ep',t',q3,fun p hp=>?_,fun p hp=>?_,?_⟩
  ·rcases List.mem_cons.mp (q2.mem_iff.mp hp) with y| y
   ·rw [y];exact List.mem_append_right _ (List.mem_singleton.mpr rfl)
   ·exact List.mem_append_left _ (g1 p y)
  ·have m:=(q2.map (·.1)).mem_iff (a:=p.1)
   refine m.mpr ?_
   rcases List.mem_append.mp hp with y| y
   ·exact List.mem_cons_of_mem _ (g2 p y)
   ·rw [List.mem_singleton.mp y];exact List.mem_cons_self
  ·rw [q2.length_eq,List.length_append]
   exact Nat.succ_le_succ g3
end
section
variable {prog:Program} {w:World} {K:Type} [DecidableEq K] {knd:KeyKind prog w K} {A:Around} {R:Result->Shared->Prop} {I:Addr} {fp wr:List Addr} {G:Array GenState->Array GenState->Prop} {P:Nat->Value->Prop} {St:Nat->Shared->Prop}
theorem c_fill {ks:List (List K×Addr)} (hu:A.in1.units<cLine) (W:WalksS prog w A.in1 I fp wr G ks.length P St) (a:Addr) (haf:a∉fp) (hP:∀i v,P i v->∃p,ks[i]?=some p/\v= .ref p.2) (hka:∀p∈ks,p.2≠a/\p.2∉wr) (hc:ks.length<=306) :
  ∀(k i:Nat) (s:Shared),ks.length=i+k->St i s->Got knd s.heap a (ks.take i)->(∀p∈ks,IsTupleKey knd s.heap p.1 p.2) ->
   (∀s',Moved (a::wr) G s s'->Got knd s'.heap a ks->R (.ok (.ret .none)) s')->codeAny (model prog w) A (.builtin "set.update.loop" ⟨[.ref a,.ref I],[]⟩) R s:=by
 have haw:a∉wr:=fun z=>haf (W.sub a z)
 intro k
 induction k with
 | zero =>
  intro i s e st g ky hR
  have e:i=ks.length:=by omega
  subst e
  rw [List.take_length] at g
  refine codeAny_builtin PyProof.Rows.F.entry_set_update_loop ?_
  rw [Around.under_plainId PyProof.Rows.F.plain_set_update_loop _]
  change wpAny _ A.in1 (pyNext (Value.ref I) >>= _) _ _ s
  refine wpAny_bind (W.done s _ _ st fun s1 mv=>?_)
  refine wpAny_pure (hR s1 (mv.mono fun b hb=>List.mem_cons_of_mem a hb) (g.kept fun b o hb q=>mv.heap b o ?_ q))
  rcases hb with rfl| ⟨p,hp,rfl⟩
  ·exact haw
  ·exact (hka p hp).2
 | succ k ih =>
  intro i s e st g ky hR
  have hi:i<ks.length:=by omega
  refine codeAny_builtin PyProof.Rows.F.entry_set_update_loop ?_
  rw [Around.under_plainId PyProof.Rows.F.plain_set_update_loop _]
  change wpAny _ A.in1 (pyNext (Value.ref I) >>= _) _ _ s
  refine wpAny_bind (W.item i s _ _ hi st fun v s1 pv st1 mv=>?_)
  obtain ⟨p,ep,rfl⟩:=hP i v pv
  have pm:p∈ks:=List.mem_of_getElem? ep
  have up:∀b o,(b=a\/∃q∈ks,q.2=b)->s.heap.get? b=some o->s1.heap.get? b=some o:=fun b o hb q=>mv.heap b o (by
   rcases hb with rfl| ⟨p,hp,rfl⟩
   ·exact haw
   ·exact (hka p hp).2) q
  have g1:=g.kept (h':=s1.heap) fun b o hb=>up b o (hb.imp id fun ⟨q,hq,z⟩=>⟨q,List.mem_of_mem_take hq,z⟩)
  have ky1:∀q∈ks,IsTupleKey knd s1.heap q.1 q.2:=fun q hq=>key_kept (ky q hq) fun o=>up _ o (.inr ⟨q,hq,rfl⟩)
  change wpAny _ A.in1 (holding [Value.ref p.2] (setAdd a (.ref p.2)) >>= _) _ _ s1
  refine wpAny_bind (wpAny_holding (w_more (knd:=knd) hu g1 (ky1 p pm) (by rw [List.length_take];omega) fun c h' sb g2=>?_))
  have et:ks.take i++[(p.1,p.2)]=ks.take (i+1):=by
   rw [List.take_succ,ep];rfl
  rw [et] at g2
  have st2:=W.frame (i+1) s1 h' (s1.toks+(p.1.length+1)) st1 (Nat.le_add_right _ _) fun b hb o q=>by
   rw [sb.2 b fun z=>haf (z▸hb)];exact q
  refine wpAny_pure ⟨plainId_quiet PyProof.Rows.F.plain_set_update_loop _,ih (i+1) _ (by omega) st2 g2 (fun q hq=>key_kept (ky1 q hq) fun o z=>(sb.2 _ (hka q hq).1).trans z) fun s2 mv2 g3=>hR s2 ?_ g3⟩
  refine Moved.trans W.gtrans ((mv.mono fun b hb=>List.mem_cons_of_mem a hb).then_heap (Nat.le_add_right _ _) fun b o hb z=>?_) mv2
  exact (sb.2 b fun y=>hb (y▸List.mem_cons_self)).trans z
end
section
variable {prog:Program} {w:World} {K:Type} [DecidableEq K] {knd:KeyKind prog w K} {A:Around} {E:Value->Shared->Prop} {s:Shared}
def set0 (w:World):Obj:={cls:=.type "set",dict:=none,data:=.set #[] 0 (.fresh 0 0 (!byt w))}
theorem c_new (v:Value) {Q:Value->Shared->Prop} (h:Q (.ref s.heap.objs.size) {s with heap:=s.heap.push (set0 w)}):codeAny (model prog w) A (.call (.builtin "set.__new__") ⟨[.type "set",v],[]⟩) (wants Q E) s:=by
 refine codeAny_of_tree ?_
 change wpAny _ A.in1 (checkBuiltinCall "set.__new__" ⟨[.type "set",v],[]⟩ >>= fun _=>again (.builtin "set.__new__" ⟨[.type "set",v],[]⟩)) _ _ s
 refine wpAny_bind (wpAny_of_eq (F.newCall_set_1 v) (wpAny_pure ⟨plainId_quiet F.plain_set_new _,codeAny_builtin F.entry_set_new ?_⟩))
 rw [Around.under_plainId F.plain_set_new _]
 unfold Builtin.«set.__new__» Builtin.Frozenset.newClass
 have q:=sub_set_self
 obtain ⟨hp,g,d,tk,os⟩:=s
 dsimp only
 wp_walk
 refine wpAny_askSetting (wpAny_pure ?_)
 dsimp only
 simp only [newObj]
 refine wpAny_bind (wpAny_alloc (wpAny_pure (wpAny_pure ?_)))
 exact h
theorem w_setBy {l:Addr} {its:Array Value} {Z:Heap->Prop} {Q:Value->Shared->Prop} (hh:A.handled=none) (hl:s.heap.IsList l its)
  (fill:∀(A1:Around) (R:Result->Shared->Prop) (s3:Shared) (fp:List Addr) (G:Array GenState->Array GenState->Prop) (St:Nat->Shared->Prop),A1.in1.units<=A.units+3->WalksS prog w A1.in1 (s.heap.objs.size+1) fp [s.heap.objs.size+1] G its.size (fun i v=>its[i]?=some v) St->s.heap.objs.size∉fp ->
   s3.heap.get? s.heap.objs.size=some (set0 w)->(∀b o,s.heap.get? b=some o->s3.heap.get? b=some o)->St 0 s3->(∀s',Moved [s.heap.objs.size,s.heap.objs.size+1] G s3 s'->Z s'.heap->R (.ok (.ret .none)) s') ->
   codeAny (model prog w) A1 (.builtin "set.update.loop" ⟨[.ref s.heap.objs.size,.ref (s.heap.objs.size+1)],[]⟩) R s3)
  (h:∀(h':Heap) (tk:Nat),s.toks<=tk->Z h'->(∀b o,s.heap.get? b=some o->h'.get? b=some o)->Q (.ref s.heap.objs.size) {s with heap:=h',toks:=tk}) :
  wpAny (model prog w) A (call (.type "set") [.ref l]) Q E s:=by
 obtain ⟨c,tl,hmro⟩:=F.called_set.mro
 have k1:=F.called_set.made
 have k2:=F.called_set.sub
 refine wpAny_call (codeAny_of_tree ?_)
 change wpAny _ _ (callAny (.type "set") _) _ _ _
 refine wpAny_pure ⟨Code.quiet_builtin _ (by decide +kernel),codeAny_builtin F.entry_type_call ?_⟩
 rw [Around.under_plain (weight_type_call_type "set" [.ref l] []) rfl]
 have k3:=F.called_set.notType
 have k4:=F.called_set.canCreate
 have k5:=F.typeCall_set_1 (.ref l)
 repeat (any_goals (first| assumption| wp_step))
 have hne:∀b o,s.heap.get? b=some o->b≠s.heap.objs.size:=fun b o q=>Nat.ne_of_lt (Heap.lt_size q)
 refine codeAny_mono (c_new (w:=w) (.ref l) (E:=E) (Q:=fun ob s1=>ob= .ref s.heap.objs.size/\s1={s with heap:=s.heap.push (set0 w)}) ⟨rfl,rfl⟩) fun r s1 hr=>?_
 cases r with
 | error e=>exact hr
 | ok fl =>
  cases fl with
  | ret ob =>
   obtain ⟨rfl,rfl⟩:=hr
   have hS:(s.heap.push (set0 w)).get? s.heap.objs.size=some (set0 w):=Heap.get?_push_size _ rfl
   have hT:Shared.TypeIs {s with heap:=s.heap.push (set0 w)} (.ref s.heap.objs.size) "set" := ⟨_,hS,rfl⟩
   have k6:=F.called_set.init.lookup
   have k7:=F.called_set.init.bind (.ref s.heap.objs.size)
   repeat (any_goals (first| assumption| wp_step))
   refine codeAny_mono (codeAny_call_builtin (R:=wants (fun r s2=>r= .none/\∃h' tk,s2={s with heap:=h',toks:=tk}/\s.toks<=tk/\Z h'/\(∀b o,s.heap.get? b=some o->h'.get? b=some o)) E) F.called_set.init.plain F.entry_set_init (check_set_init_1 hT ?_)) fun r2 s2 hr2=>?_
   ·obtain ⟨ol,hol,hcl,nl,hdl⟩:=hl
    obtain ⟨o1,o2,o3,o4⟩:=ol
    simp only at hcl hdl
    subst hcl hdl
    have hol1:(s.heap.push (set0 w)).get? l=some {cls:=.type "list",dict:=o2,data:=.seq its nl,slots:=o4}:=Heap.get?_push_of_some _ hol
    have k8:=F.sub_list_set
    have k9:=F.sub_list_frozenset
    have k10:(Value.type "list" == Value.type "dict")=false:=by decide
    have hl1:(s.heap.push (set0 w)).IsList l its:=⟨_,hol1,rfl,nl,rfl⟩
    unfold Builtin.«set.__init__» noKeywords Builtin.Frozenset.updateFrom
    generalize hPI:pyIter=PI
    wp_walk
    subst hPI
    refine wpAny_pyIter_list hl1 ?_
    refine wpAny_bind (wpAny_runValue ?_)
    have esz:(s.heap.push (set0 w)).objs.size=s.heap.objs.size+1:=Heap.size_push _ _
    have hls:l<s.heap.objs.size:=Heap.lt_size hol
    have W:=(Walks.list (prog:=prog) (w:=w) (A:=A.in1.in1.in1) (by simpa using hh) (s.heap.push (set0 w)).objs.size l (by rw [esz];exact Nat.ne_of_lt (Nat.lt_succ_of_lt hls)) its).toS
    rw [esz] at W
    rw [esz]
    refine fill A.in1.in1 _ _ _ _ _ (by show A.units+1+1+1<=A.units+3;omega) W ?_ (Heap.get?_push_of_some _ hS) (fun b o q=>Heap.get?_push_of_some _ (Heap.get?_push_of_some _ q)) ⟨⟨_,by rw [<-esz];exact Heap.get?_push_size _ rfl,rfl,rfl⟩,hl1.push _⟩ ?_
    ·simp only [List.mem_cons,List.not_mem_nil,or_false,not_or]
     exact ⟨Nat.ne_of_lt (Nat.lt_succ_self _),Nat.ne_of_gt hls⟩
    ·intro s1 mv g
     obtain ⟨h1,g1,d1,tk1,os1⟩:=s1
     have e1:g1=s.gens:=mv.gens
     have e2:d1=s.drawn:=mv.drawn
     have e3:os1=s.os:=mv.os
     subst e1 e2 e3
     show wpAny _ _ _ _ _ _
     refine wpAny_pure (wpAny_pure ⟨rfl,h1,tk1,rfl,mv.toks,g,fun b o q=>?_⟩)
     have:=Heap.lt_size q
     exact mv.heap b o (by
      simp only [List.mem_cons,List.not_mem_nil,or_false,not_or]
      exact ⟨Nat.ne_of_lt this,Nat.ne_of_lt (Nat.lt_succ_of_lt this)⟩) (Heap.get?_push_of_some _ (Heap.get?_push_of_some _ q))
   ·cases r2 with
    | error e=>exact hr2
    | ok f2 =>
     cases f2 with
     | ret r =>
      obtain ⟨rfl,h',tk,rfl,q1,q2,q3⟩:=hr2
      repeat (any_goals (first| assumption| wp_step))
      exact h _ _ q1 q2 q3
     | _=>exact hr2.elim
  | _=>exact hr.elim
theorem w_mkset {l:Addr} {its:Array Value} {ks:List (List K×Addr)} {Q:Value->Shared->Prop} (hh:A.handled=none) (hu:A.units+8<cLine) (hl:s.heap.IsList l its) (ei:its.toList=ks.map fun p=>.ref p.2) (ky:∀p∈ks,IsTupleKey knd s.heap p.1 p.2) (hc:ks.length<=306)
  (h:∀(h':Heap) (tk:Nat),s.toks<=tk->Got knd h' s.heap.objs.size ks->(∀b o,s.heap.get? b=some o->h'.get? b=some o)->Q (.ref s.heap.objs.size) {s with heap:=h',toks:=tk}) :
  wpAny (model prog w) A (call (.type "set") [.ref l]) Q E s:=by
 refine w_setBy hh hl (fun A1 R s3 fp G St hv W hf hS kp st hR=>?_) h
 have ez:its.size=ks.length:=by
  have:=congrArg List.length ei
  simpa using this
 rw [ez] at W
 refine c_fill (knd:=knd) (by omega) W s.heap.objs.size hf (fun i v hv=>?_) (fun p hp=>?_) hc ks.length 0 _ (by omega) st (Got.fresh hS) (fun p hp=>key_kept (ky p hp) fun o q=>kp _ o q) hR
 ·have:its.toList[i]?=some v:=by rw [Array.getElem?_toList];exact hv
  rw [ei,List.getElem?_map] at this
  cases hk:ks[i]? with
  | none=>rw [hk] at this;exact nomatch this
  | some p=>rw [hk] at this;exact ⟨p,rfl,(Option.some.inj this).symm⟩
 ·obtain ⟨o,_,_,ho,_⟩:=ky p hp
  have:=Heap.lt_size ho
  simp only [List.mem_cons,List.not_mem_nil,or_false]
  exact ⟨Nat.ne_of_lt this,Nat.ne_of_lt (Nat.lt_succ_of_lt this)⟩
end
theorem zD8:Slot "set_iterator" "__next__" "set_iterator.__next__" :=
 .of (owner:= "set_iterator") (n:= "__next__") (by rw [typeLookup_type,builtinLookup_eq_fast];kernel_rfl) (by decide +kernel) (by decide +kernel) (by decide +kernel) (by first| exact .inl (by decide +kernel)| exact .inr (by decide +kernel)) (by rw [isSubtype_type];kernel_rfl)
theorem sl_self:Slot "set_iterator" "__iter__" "set_iterator.__iter__" :=
 .of (owner:= "set_iterator") (n:= "__iter__") (by rw [typeLookup_type,builtinLookup_eq_fast];kernel_rfl) (by decide +kernel) (by decide +kernel) (by decide +kernel) (by first| exact .inl (by decide +kernel)| exact .inr (by decide +kernel)) (by rw [isSubtype_type];kernel_rfl)
theorem en_next:entryFor table "set_iterator.__next__" = some Builtin.«set_iterator.__next__»:=entryFor_of_fast (by kernel_rfl)
theorem en_self:entryFor table "set_iterator.__iter__" = some Builtin.«dict_keyiterator.__iter__»:=entryFor_alias (id':= "dict_keyiterator.__iter__") (by kernel_rfl) rfl (by decide +kernel) (by kernel_rfl)
theorem en_iter:entryFor table "set.__iter__" = some Builtin.«frozenset.__iter__»:=entryFor_alias (id':= "frozenset.__iter__") (by kernel_rfl) rfl (by decide +kernel) (by kernel_rfl)
theorem ar_next (a:Value):argsOk "set_iterator.__next__" ⟨[a],[]⟩:=by unfold argsOk;kernel_rfl
theorem ar_self (a:Value):argsOk "set_iterator.__iter__" ⟨[a],[]⟩:=by unfold argsOk;kernel_rfl
theorem zCs {α:Type} {M:Model} {A:Around} {E:Value->Shared->Prop} {s:Shared} {c:Prop} [Decidable c] {x y:Sem α} {Q:α->Shared->Prop} (hc:¬c) (h:wpAny M A y Q E s):wpAny M A (if c then x else y) Q E s:=by rw [if_neg hc];exact h
theorem zEg {α:Type} {M:Model} {A:Around} {E:Value->Shared->Prop} {s:Shared} {c:Prop} [Decidable c] {x y:Sem α} {Q:α->Shared->Prop} (hc:c) (h:wpAny M A x Q E s):wpAny M A (if c then x else y) Q E s:=by rw [if_pos hc];exact h
theorem zFj {α:Type}:∀{L:List α} {i:Nat} {x:α},L[i]?=some x->(x::L.eraseIdx i).Perm L
 | [],i,x,h=>by simp at h
 | y::r,0,x,h=>by
  have:y=x:=Option.some.inj h
  subst this
  exact List.Perm.refl _
 | y::r,i+1,x,h=>by
  rw [List.getElem?_cons_succ] at h
  exact (List.Perm.swap y x _).trans (List.Perm.cons y (zFj h))
theorem pick_go {α:Type} (next:Nat->Nat):∀(fuel k:Nat) (left:List α) (out:Array α),left.length<=fuel->(pickOrder.go next fuel k left out).toList.Perm (out.toList++left)
 | 0,k,left,out,h=>by
  have:left=[]:=List.length_eq_zero_iff.mp (Nat.le_zero.mp h)
  subst this
  unfold pickOrder.go
  rw [List.append_nil]
 | fuel+1,k,left,out,h=>by
  unfold pickOrder.go
  cases e:left[next k % left.length]? with
  | none =>
   have:left=[]:=by
    cases left with
    | nil=>rfl
    | cons x r =>
     have:=List.getElem?_eq_none_iff.mp e
     have h2:=Nat.mod_lt (next k) (show 0<(x::r).length from Nat.succ_pos _)
     exact absurd h2 (Nat.not_lt.mpr this)
   subst this
   dsimp only
   rw [List.append_nil]
  | some x =>
   dsimp only
   have p:=zFj e
   have hl:=p.length_eq
   rw [List.length_cons] at hl
   refine (pick_go next fuel (k+1) _ _ (by omega)).trans ?_
   rw [Array.toList_push,List.append_assoc]
   exact List.Perm.append_left _ p
theorem pick_perm {α:Type} (next:Nat->Nat) (xs:Array α):(pickOrder next xs).toList.Perm xs.toList:=by
 have:=pick_go next xs.size 0 xs.toList #[] (by simp)
 show (pickOrder.go next xs.size 0 xs.toList #[]).toList.Perm _
 simpa using this
section
variable {prog:Program} {w:World} {K:Type} [DecidableEq K] {knd:KeyKind prog w K} {A:Around} {E:Value->Shared->Prop}
theorem w_choose {s:Shared} {src:Source} {n:Nat} (hn:n≠0) {Q:Nat->Shared->Prop} (h:∀i d,i<n->Q i {s with drawn:=d}):wpAny (model prog w) A (choose src n) Q E s:=fun _ _ _=>⟨hn,h _ _ (Nat.mod_lt _ (Nat.pos_of_ne_zero hn))⟩
theorem w_draw {α:Type}:∀(n:Nat) (L:List α) (s:Shared) (Q:List α->Shared->Prop),L.length=n->(∀M d,M.Perm L->Q M {s with drawn:=d})->wpAny (model prog w) A (drawOrder n L) Q E s
 | 0,L,s,Q,hl,h=>by
  have:L=[]:=List.length_eq_zero_iff.mp hl
  subst this
  unfold drawOrder
  exact wpAny_pure (h [] s.drawn (List.Perm.refl _))
 | n+1,[],s,Q,hl,h=>nomatch hl
 | n+1,x::r,s,Q,hl,h=>by
  unfold drawOrder
  refine wpAny_bind (w_choose (by rw [hl];exact Nat.succ_ne_zero n) fun i d hi=>?_)
  obtain ⟨y,ey⟩:∃y,(x::r)[i]?=some y:=⟨(x::r)[i],List.getElem?_eq_getElem hi⟩
  rw [ey]
  dsimp only
  have p:=zFj ey
  have hl2:=p.length_eq
  rw [List.length_cons] at hl2
  refine wpAny_bind (w_draw n _ _ _ (by omega) fun M d' hM=>wpAny_pure ?_)
  exact h (y::M) d' ((List.Perm.cons y hM).trans p)
end
def dr (es:Array (Int×Value)) (t:SetTable):Bool:=!t.plain&&decide (es.size>1)
def ItM (w:World) (h:Heap) (a:Addr) (es:Array (Int×Value)) (ep:Nat) (t:SetTable) (ord:List Value) (i:Nat) (first:Value):Prop :=
 (byt w=true/\(∃j:Nat,first= .int j 0)/\ord=(pickOrder (w.params.setOrder a ep) es).toList.map (·.2)) \/
 (byt w=false/\∃(T:Addr) (oT:Obj) (c:Nat) (pl:List Nat),first= .ref T/\h.get? T=some oT/\oT.data= .seq (pl.map fun (p:Nat)=>Value.int p 0).toArray c/\pl.Perm (List.range es.size)/\ord=pl.filterMap fun p=>(es[p]?).map (·.2)) \/
 (byt w=false/\dr es t=false/\∃slot:Nat,first= .int slot 0/\below t.place slot=i/\ord=es.toList.map (·.2))
structure ItS (w:World) (h:Heap) (I a:Addr) (es:Array (Int×Value)) (ep:Nat) (t:SetTable) (ord:List Value) (i:Nat) (o:Obj) (first:Value):Prop where
 ho:h.get? I=some o
 hc:o.cls= .type "set_iterator"
 hd:o.data= .fields #[first,.int i 0,.ref a,.int es.size 0,.int ep 0]
 hm:ItM w h a es ep t ord i first
section
variable {prog:Program} {w:World} {K:Type} [DecidableEq K] {knd:KeyKind prog w K} {A:Around} {E:Value->Shared->Prop} {s:Shared}
variable {a I:Addr} {xs:List (List K×Addr)} {o oI:Obj} {es:Array (Int×Value)} {ep i:Nat} {t:SetTable} {ord:List Value} {first:Value}
theorem below_zero (hr:Rise t.place.toList):below t.place 0=0:=by
 have B:=zD3 hr 0
 rcases Nat.eq_zero_or_pos (below t.place 0) with z| z
 ·exact z
 ·have hs:0<t.place.size:=Nat.lt_of_lt_of_le z B.le
  have e:t.place[0]?=some t.place[0]:=by simp [hs]
  exact absurd (B.lo 0 _ z e) (Nat.not_lt_zero _)
theorem below_next (hr:Rise t.place.toList) {i j:Nat} (e:t.place[i]?=some j):below t.place (j+1)=i+1:=by
 have B:=zD3 hr (j+1)
 have hi:i<t.place.size:=(Array.getElem?_eq_some_iff.mp e).1
 have h1:i<below t.place (j+1):=Nat.lt_of_not_le fun z=>by have:=B.hi i j z e;omega
 rcases Nat.lt_or_ge (i+1) (below t.place (j+1)) with z| z
 ·have hs:i+1<t.place.size:=Nat.lt_of_lt_of_le z B.le
  have e2:t.place[i+1]?=some t.place[i+1]:=by simp [hs]
  have q1:=B.lo (i+1) _ z e2
  have q2:=zDx hr (Nat.lt_succ_self i) e e2
  omega
 ·omega
theorem ItM.perm {h:Heap} (m:ItM w h a es ep t ord i first):ord.Perm (es.toList.map (·.2)):=by
 rcases m with ⟨_,_,rfl⟩| ⟨_,T,oT,c,pl,_,_,_,hp,rfl⟩| ⟨_,_,slot,_,_,rfl⟩
 ·exact (pick_perm _ es).map _
 ·have:=hp.filterMap fun p=>(es[p]?).map (·.2)
  refine this.trans (List.Perm.of_eq ?_)
  rw [<-List.map_filterMap]
  congr 1
  have:=range_get es.toList
  rw [Array.length_toList] at this
  simpa using this
 ·exact List.Perm.refl _
theorem ItM.len {h:Heap} (m:ItM w h a es ep t ord i first):ord.length=es.size:=by
 rw [m.perm.length_eq];simp
theorem ItS.typeIs (it:ItS w s.heap I a es ep t ord i oI first):s.TypeIs (.ref I) "set_iterator" := ⟨_,it.ho,it.hc⟩
theorem fm_at {pl:List Nat} (hp:pl.Perm (List.range es.size)) (i:Nat):(pl.filterMap fun p=>(es[p]?).map (·.2))[i]?=(pl[i]?).bind fun p=>(es[p]?).map (·.2):=by
 have hall:∀k∈pl,k<es.size:=fun k hk=>List.mem_range.mp (hp.mem_iff.mp hk)
 clear hp
 induction pl generalizing i with
 | nil=>simp
 | cons k ks ih =>
  have hk:=hall k List.mem_cons_self
  have e:es[k]?=some es[k]:=by simp [hk]
  have ih':=fun i=>ih i fun q hq=>hall q (List.mem_cons_of_mem _ hq)
  rw [List.filterMap_cons,e]
  cases i with
  | zero=>simp [e]
  | succ i =>
   show (_::_)[i+1]?=_
   rw [List.getElem?_cons_succ,ih' i,List.getElem?_cons_succ]
theorem w_item (X:SetX knd s.heap a xs o es ep t) (it:ItS w s.heap I a es ep t ord i oI first) (hne:I≠a) {v:Value} (hv:ord[i]?=some v) {Q:Option Value->Shared->Prop}
  (h:∀h' o' f',Heap.SameBut I s.heap h'->ItS w h' I a es ep t ord (i+1) o' f'->(∀T,f'= .ref T->first= .ref T)->Q (some v) {s with heap:=h'}):wpAny (model prog w) A (pyNext (.ref I)) Q E s:=by
 unfold pyNext
 refine wpAny_bind (wpAny_attempt (wpAny_callSpecial?_slot (name:=Str.ofString "__next__") it.typeIs zD8 (wpAny_call_entry zD8 it.typeIs en_next ?_ (ar_next _))))
 unfold Builtin.«set_iterator.__next__»
 refine wpAny_bind (m:=slotArgs "__next__" 0 _) (wpAny_pure ?_)
 refine wpAny_bind (wpAny_fieldsOf it.ho it.hd ?_)
 dsimp only
 refine wpAny_bind (wpAny_setEntries_of X.ho X.hd X.fits ?_)
 refine zCs (by simp) ?_
 rcases it.hm with ⟨m1,⟨j,rfl⟩,m3⟩| ⟨m1,T,oT,c,pl,rfl,m3,m4,m5,m6⟩| ⟨m1,m2,slot,rfl,m4,m5⟩
 ·dsimp only
  refine wpAny_bind ?_
  unfold setNext
  refine wpAny_bind (X.state ?_)
  dsimp only
  refine wpAny_bind (wpAny_bind (wpAny_askSetting (wpAny_pure ?_)))
  refine zEg m1 ?_
  refine zCs (by simp) ?_
  refine wpAny_bind ?_
  unfold setWalk
  refine wpAny_bind (X.state ?_)
  dsimp only
  refine wpAny_bind (wpAny_bind (wpAny_askSetting (wpAny_pure ?_)))
  refine zEg m1 ?_
  refine wpAny_bind (wpAny_askSetting (wpAny_pure (wpAny_pure ?_)))
  have e1:(pickOrder (w.params.setOrder a ep) es)[i]?.map (·.2)=some v:=by
   rw [m3,List.getElem?_map] at hv
   rw [<-Array.getElem?_toList];exact hv
  obtain ⟨q,q1,q2⟩:=Option.map_eq_some_iff.mp e1
  subst q2
  have e2:(pickOrder ((model prog w).w.params.setOrder a ep) es)[(i:Int).toNat]?=some q:=q1
  erw [e2]
  show wpAny _ _ (setField (.ref I) 0 (rawInt _) >>= _) _ _ _
  refine wpAny_bind (wpAny_setField it.ho it.hd (by simp) ?_)
  have g1:=Heap.get?_update_self (Obj.mapFields (·.setIfInBounds 0 (rawInt (j:Int).toNat))) it.ho (Obj.isFreed_of_fields (Obj.data_mapFields it.hd _))
  refine wpAny_bind (wpAny_setField g1 (Obj.data_mapFields it.hd _) (by simp) ?_)
  refine wpAny_pure ⟨_,rfl,wpAny_pure (h _ _ _ ((Heap.SameBut.update ..).trans (Heap.SameBut.update ..)) ⟨Heap.get?_update_self _ g1 (Obj.isFreed_of_fields (Obj.data_mapFields (Obj.data_mapFields it.hd _) _)),?_,?_,.inl ⟨m1,⟨j,rfl⟩,m3⟩⟩ (fun T z=>nomatch z))⟩
  ·rw [Obj.cls_mapFields,Obj.cls_mapFields];exact it.hc
  ·rw [Obj.data_mapFields (Obj.data_mapFields it.hd _)]
   simp [rawInt]
 ·dsimp only
  have hTI:T≠I:=fun z=>by
   subst z
   have:=Option.some.inj (m3.symm.trans it.ho)
   subst this
   rw [it.hd] at m4
   exact nomatch m4
  refine wpAny_bind (m:=seqItems? (.ref T)) (wpAny_seqItems m3 m4 ?_)
  dsimp only
  rw [m6,fm_at m5] at hv
  obtain ⟨p,p1,p2⟩:=Option.bind_eq_some_iff.mp hv
  obtain ⟨q,q1,q2⟩:=Option.map_eq_some_iff.mp p2
  subst q2
  have e1:(pl.map fun (p:Nat)=>Value.int p 0).toArray[(i:Int).toNat]?=some (.int p 0):=by
   simp [p1]
  rw [e1]
  dsimp only
  refine wpAny_bind ?_
  unfold setNextDrawn
  refine wpAny_bind (X.state ?_)
  dsimp only
  refine zCs (by simp) ?_
  have e2:es[(p:Int).toNat]?=some q:=q1
  rw [e2]
  refine wpAny_pure ?_
  refine wpAny_bind (wpAny_setField it.ho it.hd (by simp) ?_)
  refine wpAny_pure ⟨_,rfl,wpAny_pure (h _ _ _ (Heap.SameBut.update ..) ⟨Heap.get?_update_self _ it.ho (Obj.isFreed_of_fields (Obj.data_mapFields it.hd _)),(Obj.cls_mapFields ..).trans it.hc,?_,.inr (.inl ⟨m1,T,oT,c,pl,rfl,?_,m4,m5,m6⟩)⟩ (fun T z=>z))⟩
  ·rw [Obj.data_mapFields it.hd]
   simp [rawInt]
  ·exact ((Heap.SameBut.update s.heap I _).2 T hTI).trans m3
 ·dsimp only
  refine wpAny_bind ?_
  unfold setNext
  refine wpAny_bind (X.state ?_)
  dsimp only
  refine wpAny_bind (wpAny_bind (wpAny_askSetting (wpAny_pure ?_)))
  refine zCs (by show¬(byt w=true);rw [m1];decide) ?_
  refine zCs (show¬(dr es t=true) by rw [m2];decide) ?_
  refine wpAny_bind (zCs (show¬((!t.led&& !es.isEmpty)=true) by rw [X.ld,m1];simp) (wpAny_pure ?_))
  have hl:i<es.size:=by
   rw [<-it.hm.len]
   exact (List.getElem?_eq_some_iff.mp hv).1
  have hl2:i<t.place.size:=by
   rw [X.ok.n,List.length_map,<-X.size];exact hl
  have e1:es[i]?=some es[i]:=by simp [hl]
  have e2:t.place[i]?=some t.place[i]:=by simp [hl2]
  have e3:es[i].2=v:=by
   rw [m5,List.getElem?_map,Array.getElem?_toList,e1] at hv
   exact Option.some.inj hv
  have e4:below t.place (slot:Int).toNat=i:=m4
  rw [e4,e1,e2]
  refine wpAny_pure ?_
  show wpAny _ _ (setField (.ref I) 0 (rawInt _) >>= _) _ _ _
  refine wpAny_bind (wpAny_setField it.ho it.hd (by simp) ?_)
  have g1:=Heap.get?_update_self (Obj.mapFields (·.setIfInBounds 0 (rawInt ((t.place[i]+1:Nat):Int)))) it.ho (Obj.isFreed_of_fields (Obj.data_mapFields it.hd _))
  refine wpAny_bind (wpAny_setField g1 (Obj.data_mapFields it.hd _) (by simp) ?_)
  subst e3
  refine wpAny_pure ⟨_,rfl,wpAny_pure (h _ _ _ ((Heap.SameBut.update ..).trans (Heap.SameBut.update ..)) ⟨Heap.get?_update_self _ g1 (Obj.isFreed_of_fields (Obj.data_mapFields (Obj.data_mapFields it.hd _) _)),?_,?_,.inr (.inr ⟨m1,m2,t.place[i]+1,rfl,below_next X.ok.r e2,m5⟩)⟩ (fun T z=>nomatch z))⟩
  ·rw [Obj.cls_mapFields,Obj.cls_mapFields];exact it.hc
  ·rw [Obj.data_mapFields (Obj.data_mapFields it.hd _)]
   simp [rawInt]
theorem w_stop {s:Shared} {Q:Option Value->Shared->Prop} (hh:A.handled=none) (h:∀h',(∀b o,s.heap.get? b=some o->h'.get? b=some o)->Q none {s with heap:=h'}) :
  wpAny (model prog w) A.in1 (newExc (.type "StopIteration") [] >>= fun e=>(raiseNew e:Sem Fin)) (fun fin s'=>∃r,fin= .done (.ret r)/\wpAny (model prog w) A (pure (some r)) Q E s')
   (fun e s'=>wpAny (model prog w) A (isInstance e (.type "StopIteration") >>= fun b=>if b=true then pure none else throw e) Q E s') s:=by
 refine wpAny_bind ?_
 simp only [newExc,newTuple]
 refine wpAny_bind (wpAny_newObj_type ?_ (by size_fits))
 refine wpAny_bind (m:=firstArgMember _ _) (wpAny_of_eq (a:=Value.none) (by first| rfl| (simp only [firstArgMember];rfl)) ?_)
 refine wpAny_newObj_type ?_ (by size_fits)
 simp only [raiseNew]
 refine wpAny_bind (wpAny_handled ?_)
 rw [show A.in1.handled=none from hh]
 refine wpAny_bind (wpAny_pure (wpAny_throw ?_))
 refine wpAny_bind (wpAny_isInstance (T:= "StopIteration") (b:=true) ⟨_,Heap.get?_push_size _ rfl,rfl⟩ isSubtype_stop ?_)
 exact wpAny_pure (h _ fun b o q=>Heap.get?_push_of_some _ (Heap.get?_push_of_some _ q))
theorem w_done (hh:A.handled=none) (X:SetX knd s.heap a xs o es ep t) (it:ItS w s.heap I a es ep t ord i oI first) (hv:ord[i]?=none) {Q:Option Value->Shared->Prop}
  (h:∀h',(∀b o,b≠I->s.heap.get? b=some o->h'.get? b=some o)->Q none {s with heap:=h'}):wpAny (model prog w) A (pyNext (.ref I)) Q E s:=by
 unfold pyNext
 refine wpAny_bind (wpAny_attempt (wpAny_callSpecial?_slot (name:=Str.ofString "__next__") it.typeIs zD8 (wpAny_call_entry zD8 it.typeIs en_next ?_ (ar_next _))))
 unfold Builtin.«set_iterator.__next__»
 refine wpAny_bind (m:=slotArgs "__next__" 0 _) (wpAny_pure ?_)
 refine wpAny_bind (wpAny_fieldsOf it.ho it.hd ?_)
 dsimp only
 refine wpAny_bind (wpAny_setEntries_of X.ho X.hd X.fits ?_)
 refine zCs (by simp) ?_
 have up:∀h1,Heap.SameBut I s.heap h1->∀h',(∀b o,h1.get? b=some o->h'.get? b=some o)->Q none {s with heap:=h'}:=fun h1 sb h' q=>h h' fun b o hb z=>q b o ((sb.2 b hb).trans z)
 rcases it.hm with ⟨m1,⟨j,rfl⟩,m3⟩| ⟨m1,T,oT,c,pl,rfl,m3,m4,m5,m6⟩| ⟨m1,m2,slot,rfl,m4,m5⟩
 ·dsimp only
  refine wpAny_bind ?_
  unfold setNext
  refine wpAny_bind (X.state ?_)
  dsimp only
  refine wpAny_bind (wpAny_bind (wpAny_askSetting (wpAny_pure ?_)))
  refine zEg m1 ?_
  refine zCs (by simp) ?_
  refine wpAny_bind ?_
  unfold setWalk
  refine wpAny_bind (X.state ?_)
  dsimp only
  refine wpAny_bind (wpAny_bind (wpAny_askSetting (wpAny_pure ?_)))
  refine zEg m1 ?_
  refine wpAny_bind (wpAny_askSetting (wpAny_pure (wpAny_pure ?_)))
  have e1:(pickOrder (w.params.setOrder a ep) es)[i]?.map (·.2)=none:=by
   rw [m3,List.getElem?_map] at hv
   rw [<-Array.getElem?_toList];exact hv
  have e2:(pickOrder ((model prog w).w.params.setOrder a ep) es)[(i:Int).toNat]?=none:=Option.map_eq_none_iff.mp e1
  erw [e2]
  show wpAny _ _ (setField (.ref I) 2 Value.none >>= _) _ _ _
  refine wpAny_bind (wpAny_setField it.ho it.hd (by simp) ?_)
  refine w_stop hh ?_
  exact up _ (Heap.SameBut.update ..)
 ·dsimp only
  refine wpAny_bind (m:=seqItems? (.ref T)) (wpAny_seqItems m3 m4 ?_)
  dsimp only
  have e1:(pl.map fun (p:Nat)=>Value.int p 0).toArray[(i:Int).toNat]?=none:=by
   have h1:ord.length<=i:=List.getElem?_eq_none_iff.mp hv
   rw [it.hm.len] at h1
   have h2:=m5.length_eq
   rw [List.length_range] at h2
   simp only [Int.toNat_natCast,List.getElem?_toArray,List.getElem?_map,Option.map_eq_none_iff,List.getElem?_eq_none_iff]
   omega
  rw [e1]
  dsimp only
  refine wpAny_bind (wpAny_setField it.ho it.hd (by simp) ?_)
  have g1:=Heap.get?_update_self (Obj.mapFields (·.setIfInBounds 0 (rawInt 0))) it.ho (Obj.isFreed_of_fields (Obj.data_mapFields it.hd _))
  refine wpAny_bind (wpAny_setField g1 (Obj.data_mapFields it.hd _) (by simp) ?_)
  refine w_stop hh ?_
  exact up _ ((Heap.SameBut.update ..).trans (Heap.SameBut.update ..))
 ·dsimp only
  refine wpAny_bind ?_
  unfold setNext
  refine wpAny_bind (X.state ?_)
  dsimp only
  refine wpAny_bind (wpAny_bind (wpAny_askSetting (wpAny_pure ?_)))
  refine zCs (by show¬(byt w=true);rw [m1];decide) ?_
  refine zCs (show¬(dr es t=true) by rw [m2];decide) ?_
  refine wpAny_bind (zCs (show¬((!t.led&& !es.isEmpty)=true) by rw [X.ld,m1];simp) (wpAny_pure ?_))
  have e1:es[i]?=none:=by
   rw [m5,List.getElem?_map,Array.getElem?_toList] at hv
   exact Option.map_eq_none_iff.mp hv
  have e4:below t.place (slot:Int).toNat=i:=m4
  rw [e4,e1]
  refine wpAny_pure ?_
  show wpAny _ _ (setField (.ref I) 2 Value.none >>= _) _ _ _
  refine wpAny_bind (wpAny_setField it.ho it.hd (by simp) ?_)
  refine w_stop hh ?_
  exact up _ (Heap.SameBut.update ..)
theorem w_self (it:ItS w s.heap I a es ep t ord i oI first) {Q:Value->Shared->Prop} (h:Q (.ref I) s):wpAny (model prog w) A (pyIter (.ref I)) Q E s:=by
 refine wpAny_pyIter_slot it.typeIs sl_self (wpAny_call_entry sl_self it.typeIs en_self ?_ (ar_self _))
 show wpAny _ _ (ret (.ref I)) _ _ s
 exact wpAny_pure ⟨_,rfl, "set_iterator",_,it.typeIs,zD8.lookup,h⟩
theorem SetX.typeIs (X:SetX knd s.heap a xs o es ep t):s.TypeIs (.ref a) "set" := ⟨_,X.ho,X.ex.1⟩
theorem w_iter (X:SetX knd s.heap a xs o es ep t) (hn:xs.length<=306) {Q:Value->Shared->Prop}
  (h:∀I h' d ord oI first,(∀b o,s.heap.get? b=some o->h'.get? b=some o)->s.heap.objs.size<=I->ItS w h' I a es ep t ord 0 oI first->(∀T,first= .ref T->s.heap.objs.size<=T)->Q (.ref I) {s with heap:=h',drawn:=d}):wpAny (model prog w) A (pyIter (.ref a)) Q E s:=by
 refine wpAny_pyIter_slot X.typeIs F.slot_set_iter (wpAny_call_entry F.slot_set_iter X.typeIs en_iter ?_ (F.args_set_iter_1 _))
 unfold Builtin.«frozenset.__iter__» Builtin.Frozenset.slot0
 refine wpAny_bind (wpAny_bind (m:=slotArgs "__iter__" 0 _) (wpAny_pure (wpAny_pure ?_)))
 dsimp only
 unfold Builtin.Frozenset.sizeOf
 refine wpAny_bind (wpAny_bind (wpAny_setEntries_of X.ho X.hd X.fits (wpAny_pure ?_)))
 unfold setDrawn
 refine wpAny_bind (wpAny_bind (X.state (wpAny_bind (wpAny_bind (wpAny_askSetting (wpAny_pure (wpAny_pure ?_)))))))
 have hsz:es.size<=306:=by rw [X.size];exact hn
 by_cases c:(!byt w&&dr es t)=true
 ·refine zEg c ?_
  have c1:byt w=false:=by cases z:byt w<;>simp [z] at c ⊢
  refine wpAny_bind (w_draw es.size (List.range es.size) s _ (by simp) fun pl d hp=>?_)
  have hpl:pl.length=es.size:=by rw [hp.length_eq];simp
  refine wpAny_bind (wpAny_newTuple ?_ (by rw [List.length_map,hpl];exact Nat.le_trans hsz (by decide +kernel)))
  refine wpAny_bind (wpAny_setEpoch_of (Heap.get?_push_of_some _ X.ho) X.hd X.fits ?_)
  refine wpAny_bind (wpAny_newObj_type (wpAny_pure ⟨_,rfl, "set_iterator",_,⟨_,Heap.get?_push_size _ rfl,rfl⟩,zD8.lookup,?_⟩))
  refine h _ _ d (pl.filterMap fun p=>(es[p]?).map (·.2)) _ (.ref s.heap.objs.size) (fun b o q=>Heap.get?_push_of_some _ (Heap.get?_push_of_some _ q)) ?_ ⟨Heap.get?_push_size _ rfl,rfl,rfl,.inr (.inl ⟨c1,_,_,_,pl,rfl,Heap.get?_push_of_some _ (Heap.get?_push_size _ rfl),rfl,hp,rfl⟩)⟩ (fun T z=>by cases z;exact Nat.le_refl _)
  show s.heap.objs.size<=(s.heap.push _).objs.size
  rw [Heap.size_push];exact Nat.le_succ _
 ·refine zCs c ?_
  refine wpAny_bind (wpAny_pure ?_)
  refine wpAny_bind (wpAny_setEpoch_of X.ho X.hd X.fits ?_)
  refine wpAny_bind (wpAny_newObj_type (wpAny_pure ⟨_,rfl, "set_iterator",_,⟨_,Heap.get?_push_size _ rfl,rfl⟩,zD8.lookup,?_⟩))
  cases z:byt w with
  | true =>
   exact h _ _ s.drawn ((pickOrder (w.params.setOrder a ep) es).toList.map (·.2)) _ (.int 0 0) (fun b o q=>Heap.get?_push_of_some _ q) (Nat.le_refl _) ⟨Heap.get?_push_size _ rfl,rfl,rfl,.inl ⟨z,⟨0,rfl⟩,rfl⟩⟩ (fun T z=>nomatch z)
  | false =>
   have c2:dr es t=false:=by rw [z] at c;simpa using c
   exact h _ _ s.drawn (es.toList.map (·.2)) _ (.int 0 0) (fun b o q=>Heap.get?_push_of_some _ q) (Nat.le_refl _) ⟨Heap.get?_push_size _ rfl,rfl,rfl,.inr (.inr ⟨z,c2,0,rfl,below_zero X.ok.r,rfl⟩)⟩ (fun T z=>nomatch z)
end
theorem len_set:typeLookup (.type "set") "__len__" = pure (some (.builtin "set.__len__")):=by rw [typeLookup_type,builtinLookup_eq_fast];kernel_rfl
section
variable {prog:Program} {w:World} {K:Type} [DecidableEq K] {knd:KeyKind prog w K} {A:Around} {E:Value->Shared->Prop} {s:Shared}
variable {a I:Addr} {xs:List (List K×Addr)} {o oI:Obj} {es:Array (Int×Value)} {ep i:Nat} {t:SetTable} {ord:List Value} {first:Value}
def WSt (knd:KeyKind prog w K) (a I:Addr) (xs:List (List K×Addr)) (o:Obj) (es:Array (Int×Value)) (ep:Nat) (t:SetTable) (ord:List Value) (Ts:List Addr) (i:Nat) (s:Shared):Prop :=
 ∃oI first,SetX knd s.heap a xs o es ep t/\ItS w s.heap I a es ep t ord i oI first/\∀T,first= .ref T->T∈Ts
theorem w_walks (hh:A.handled=none) (a I:Addr) (hne:I≠a) (xs:List (List K×Addr)) (hx:∀p∈xs,p.2≠I) (o:Obj) (es:Array (Int×Value)) (ep:Nat) (t:SetTable) (ord:List Value) (Ts:List Addr) (hT:I∉Ts) :
  WalksS prog w A I (I::a::(xs.map (·.2)++Ts)) [I] (fun a b=>b=a) ord.length (fun i v=>ord[i]?=some v) (WSt knd a I xs o es ep t ord Ts) where
 sub:=fun b hb=>by rw [List.mem_singleton.mp hb];exact List.mem_cons_self
 grefl:=fun _=>rfl
 gtrans:=fun _ _ _ x y=>y.trans x
 frame:=fun i s h' tk ⟨oI,first,X,it,hf⟩ _ hk=>by
  refine ⟨oI,first,X.kept fun b o hb q=>hk b ?_ o q,⟨hk I List.mem_cons_self _ it.ho,it.hc,it.hd,?_⟩,hf⟩
  ·rcases hb with rfl| ⟨p,hp,rfl⟩
   ·exact List.mem_cons_of_mem _ List.mem_cons_self
   ·exact List.mem_cons_of_mem _ (List.mem_cons_of_mem _ (List.mem_append_left _ (List.mem_map.mpr ⟨p,hp,rfl⟩)))
  ·rcases it.hm with m| ⟨m1,T,oT,c,pl,m2,m3,m4⟩| m
   ·exact .inl m
   ·exact .inr (.inl ⟨m1,T,oT,c,pl,m2,hk T (List.mem_cons_of_mem _ (List.mem_cons_of_mem _ (List.mem_append_right _ (hf T m2)))) _ m3,m4⟩)
   ·exact .inr (.inr m)
 item:=fun i s Q E hi ⟨oI,first,X,it,hf⟩ hQ=>by
  refine w_item X it hne (v:=ord[i]) (by simp [hi]) fun h' o' f' sb it' hf'=>hQ _ _ (by simp [hi]) ⟨o',f',X.kept fun b o hb q=>?_,it',fun T z=>hf T (hf' T z)⟩ ⟨fun b o hb q=>(sb.2 b fun z=>hb (z▸List.mem_cons_self)).trans q,rfl,rfl,rfl,Nat.le_refl _⟩
  rcases hb with rfl| ⟨p,hp,rfl⟩
  ·exact (sb.2 _ (Ne.symm hne)).trans q
  ·exact (sb.2 _ (hx p hp)).trans q
 done:=fun s Q E ⟨oI,first,X,it,hf⟩ hQ=>w_done hh X it (by simp) fun h' q=>hQ _ ⟨fun b o hb=>q b o fun z=>hb (z▸List.mem_cons_self),rfl,rfl,rfl,Nat.le_refl _⟩
 self:=fun i s Q E ⟨oI,first,X,it,hf⟩ hQ=>w_self it hQ
theorem items_ord {acc:Array Value} (h:ItemsOf (fun i v=>ord[i]?=some v) acc ord.length):acc.toList=ord:=by
 refine List.ext_getElem? fun i=>?_
 rw [Array.getElem?_toList]
 cases e:acc[i]? with
 | some v=>exact (h.2 i v e).symm
 | none =>
  have:=Array.getElem?_eq_none_iff.mp e
  rw [h.1] at this
  exact (List.getElem?_eq_none this).symm
theorem w_collect (hh:A.handled=none) (X:SetX knd s.heap a xs o es ep t) (hn:xs.length<=306) {Q:List Value->Shared->Prop}
  (h:∀s' vs,vs.Perm (xs.map fun p=>.ref p.2)->(∀b o,s.heap.get? b=some o->s'.heap.get? b=some o)->s'.gens=s.gens->s'.os=s.os->s.toks<=s'.toks->Q vs s'):wpAny (model prog w) A (collect (.ref a)) Q E s:=by
 unfold collect
 refine wpAny_bind (wpAny_runValue (codeAny_builtin F.entry_proto_collect ?_))
 rw [Around.under_plainId F.plain_proto_collect _]
 change wpAny _ A.in1 (newList [] >>= fun l=>again (.builtin "list.__iadd__" ⟨[l,Value.ref a],[]⟩)) _ _ s
 refine wpAny_bind (wpAny_newObj_type ?_)
 refine wpAny_pure ⟨plainId_quiet F.plain_list_iadd _,codeAny_builtin F.entry_list_iadd ?_⟩
 rw [Around.under_plainId F.plain_list_iadd _]
 generalize hL:s.heap.objs.size=L
 have hS1:(s.heap.push {cls:=.type "list",data:=.seq ([]:List Value).toArray}).get? L=some {cls:=.type "list",data:=.seq ([]:List Value).toArray}:=by rw [<-hL];exact Heap.get?_push_size _ rfl
 generalize hH1:s.heap.push {cls:=.type "list",data:=.seq ([]:List Value).toArray}=H1 at hS1 ⊢
 have up1:∀b o,s.heap.get? b=some o->H1.get? b=some o:=fun b o q=>by rw [<-hH1];exact Heap.get?_push_of_some _ q
 have sz1:H1.objs.size=L+1:=by rw [<-hH1,Heap.size_push,hL]
 have below:∀b o,s.heap.get? b=some o->b<L:=fun b o q=>by rw [<-hL];exact Heap.lt_size q
 have X1:SetX knd H1 a xs o es ep t:=X.kept fun b o _ q=>up1 b o q
 have haL:a≠L:=Nat.ne_of_lt (below a _ X.ho)
 change wpAny _ A.in1 (Builtin.List.listExtendWith (Value.ref L) (.ref a) (.ref L)) _ _ _
 unfold Builtin.List.listExtendWith
 refine wpAny_bind (wpAny_typeOf (T:= "set") ⟨_,X1.ho,X1.ex.1⟩ ?_)
 have n1:Builtin.List.listSameRef (.ref L) (.ref a)=false:=by simp [Builtin.List.listSameRef,Ne.symm haL]
 refine zCs (by rw [n1];decide) ?_
 refine wpAny_bind (w_iter (s:={s with heap:=H1}) X1 hn fun I h2 d ord oI first up2 hI it hf=>?_)
 have hI:L+1<=I:=by rw [<-sz1];exact hI
 have X2:SetX knd h2 a xs o es ep t:=X1.kept fun b o _ q=>up2 b o q
 refine wpAny_bind (wpAny_holding ?_)
 unfold Builtin.List.listLengthHint
 have T2:Shared.TypeIs {s with heap:=h2,drawn:=d} (.ref a) "set" := ⟨_,X2.ho,X2.ex.1⟩
 refine wpAny_bind (wpAny_specialOf T2 len_set ?_)
 generalize hid:("set.__len__" : String)=id0
 dsimp only
 rw [show splitId id0=some ("set", "__len__") from by subst hid;decide +kernel]
 subst hid
 dsimp only
 refine wpAny_bind (wpAny_isInstance (b:=true) T2 sub_set_self ?_)
 refine zCs (by decide) ?_
 refine zEg (by decide +kernel) ?_
 refine wpAny_bind (wpAny_typeOf T2 ?_)
 refine wpAny_pure ?_
 refine zEg (by decide +kernel) ?_
 refine wpAny_bind (wpAny_rule ?_)
 have hS2:=up2 L _ hS1
 refine wpAny_bind ?_
 change wpAny _ A.in1 (updateSeq L (·.push Value.none) >>= fun _=>updateSeq L (·.pop)) _ _ _
 refine wpAny_bind (wpAny_updateSeq hS2 rfl ?_)
 have hS3:=Heap.get?_update_self (Obj.mapSeq (·.push Value.none)) hS2 rfl
 refine wpAny_updateSeq hS3 rfl ?_
 have hS4:=Heap.get?_update_self (Obj.mapSeq (·.pop)) hS3 rfl
 dsimp only
 have sb:Heap.SameBut L h2 ((h2.update L (Obj.mapSeq (·.push Value.none))).update L (Obj.mapSeq (·.pop))):=(Heap.SameBut.update ..).trans (Heap.SameBut.update ..)
 generalize hH4:(h2.update L (Obj.mapSeq (·.push Value.none))).update L (Obj.mapSeq (·.pop))=H4 at hS4 sb ⊢
 have hIa:I≠a:=fun z=>by
  have:=below a _ X.ho
  rw [<-z] at this
  exact absurd this (Nat.not_lt.mpr (Nat.le_of_succ_le hI))
 have hxI:∀p∈xs,p.2≠I:=fun p hp z=>by
  obtain ⟨ob,_,_,q,_⟩:=X.ky p hp
  have:=below _ _ q
  rw [z] at this
  exact absurd this (Nat.not_lt.mpr (Nat.le_of_succ_le hI))
 obtain ⟨Ts,hTs,hT1⟩:∃Ts:List Addr,(∀T,first= .ref T->T∈Ts)/\∀T∈Ts,first= .ref T:=by
  cases first with
  | ref T=>exact ⟨[T],fun T' z=>by cases z;exact List.mem_singleton.mpr rfl,fun T' z=>by rw [List.mem_singleton.mp z]⟩
  | _=>exact ⟨[],(fun T z=>nomatch z),(fun T z=>nomatch z)⟩
 have hTge:∀T∈Ts,L+1<=T:=fun T hT=>by rw [<-sz1];exact hf T (hT1 T hT)
 have hTI:I∉Ts:=fun z=>by
  rcases it.hm with ⟨_,⟨j,e⟩,_⟩| ⟨_,T,oT,c,pl,e,m3,m4,_⟩| ⟨_,_,j,e,_⟩
  ·have:=(hT1 _ z).symm.trans e;exact nomatch this
  ·have:=(hT1 _ z).symm.trans e
   cases this
   have:=Option.some.inj (m3.symm.trans it.ho)
   subst this
   rw [it.hd] at m4
   exact nomatch m4
  ·have:=(hT1 _ z).symm.trans e;exact nomatch this
 have W:=w_walks (prog:=prog) (w:=w) (knd:=knd) (A:=A.in1) hh a I hIa xs hxI o es ep t ord Ts hTI
 have hLf:L∉I::a::(xs.map (·.2)++Ts):=fun z=>by
  rcases List.mem_cons.mp z with z| z
  ·rw [<-z] at hI;exact absurd hI (Nat.not_succ_le_self L)
  rcases List.mem_cons.mp z with z| z
  ·exact haL z.symm
  rcases List.mem_append.mp z with z| z
  ·obtain ⟨p,hp,e⟩:=List.mem_map.mp z
   obtain ⟨ob,_,_,q,_⟩:=X.ky p hp
   have:=below _ _ q
   rw [e] at this
   exact Nat.lt_irrefl _ this
  ·exact absurd (hTge _ z) (Nat.not_succ_le_self L)
 have hol:ord.length<=sizeLine:=by
  rw [it.hm.len,X.size];exact Nat.le_trans hn (by decide +kernel)
 have st2:WSt knd a I xs o es ep t ord Ts 0 {s with heap:=h2,drawn:=d}:=⟨oI,first,X2,it,hTs⟩
 have st4:=W.frame 0 _ H4 s.toks st2 (Nat.le_refl _) fun b hb ob q=>(sb.2 b fun z=>hLf (z▸hb)).trans q
 refine wpAny_pure ⟨plainId_quiet F.plain_extend_loop _,codeAny_extend_loopS W hol L hLf _ ord.length 0 _ _ _ rfl (Nat.zero_le _) st4 hS4 (ItemsOf.nil _) fun s' acc c' mv hS' hacc=>?_⟩
 change wpAny _ A (load L >>= _) _ _ s'
 refine wpAny_bind (wpAny_load hS' ?_)
 refine wpAny_pure (h s' acc.toList ?_ (fun b ob q=>?_) mv.gens mv.os mv.toks)
 ·rw [items_ord hacc]
  refine it.hm.perm.trans (List.Perm.of_eq ?_)
  rw [X.el,List.map_map]
  rfl
 ·have hb:=below b ob q
  refine mv.heap b ob ?_ ((sb.2 b (Nat.ne_of_lt hb)).trans (up2 b ob (up1 b ob q)))
  intro z
  rcases List.mem_cons.mp z with z| z
  ·exact Nat.ne_of_lt hb z
  ·rw [List.mem_singleton.mp z] at hb
   exact absurd hb (Nat.not_lt.mpr (Nat.le_of_succ_le hI))
end
end ST
namespace ST
open PySem PyProof.Rows PySem.W
abbrev sg (x:Str):List Nat:=x.cps.toList
theorem sg_inj {x y:Str} (h:sg x=sg y):x=y:=by
 cases x;cases y
 exact congrArg Str.mk (Array.toList_inj.mp h)
def tlt:List Str->List Str->Bool
 | [],[]=>false
 | [],_::_=>true
 | _::_,[]=>false
 | x::r,y::q=>if x=y then tlt r q else decide (sg x<sg y)
theorem sg_tri (x y:Str):sg x<sg y\/x=y\/sg y<sg x:=by
 by_cases h1:sg x<sg y
 ·exact .inl h1
 by_cases h2:sg y<sg x
 ·exact .inr (.inr h2)
 ·exact .inr (.inl (sg_inj (List.le_antisymm (List.not_lt.mp h2) (List.not_lt.mp h1))))
theorem tlt_irr:∀a,tlt a a=false
 | []=>rfl
 | x::r=>by unfold tlt;rw [if_pos rfl];exact tlt_irr r
theorem zF7:∀a b c,tlt a b=true->tlt b c=true->tlt a c=true
 | [],[],c,h1,h2=>h2
 | [],_::_,[],h1,h2=>by simp [tlt] at h2
 | [],_::_,_::_,h1,h2=>rfl
 | _::_,[],c,h1,h2=>by simp [tlt] at h1
 | x::r,y::q,[],h1,h2=>by simp [tlt] at h2
 | x::r,y::q,z::p,h1,h2=>by
  unfold tlt at h1 h2 ⊢
  by_cases e1:x=y
  ·subst e1
   rw [if_pos rfl] at h1
   by_cases e2:x=z
   ·subst e2
    rw [if_pos rfl] at h2 ⊢
    exact zF7 r q p h1 h2
   ·rw [if_neg e2] at h2 ⊢
    exact h2
  ·rw [if_neg e1] at h1
   by_cases e2:y=z
   ·subst e2
    rw [if_neg e1];exact h1
   ·rw [if_neg e2] at h2
    have q1:=of_decide_eq_true h1
    have q2:=of_decide_eq_true h2
    have q3:=List.lt_trans q1 q2
    rw [if_neg fun e=>by subst e;exact List.lt_irrefl _ q3]
    exact decide_eq_true q3
theorem zH1:∀a b,tlt a b=false->tlt b a=false->a=b
 | [],[],_,_=>rfl
 | [],_::_,h,_=>by simp [tlt] at h
 | _::_,[],_,h=>by simp [tlt] at h
 | x::r,y::q,h1,h2=>by
  unfold tlt at h1 h2
  by_cases e:x=y
  ·subst e
   rw [if_pos rfl] at h1 h2
   rw [zH1 r q h1 h2]
  ·rw [if_neg e] at h1
   rw [if_neg (Ne.symm e)] at h2
   rcases sg_tri x y with z| z| z
   ·exact absurd z (of_decide_eq_false h1)
   ·exact absurd z e
   ·exact absurd z (of_decide_eq_false h2)
theorem tlt_neg (a b c:List Str) (h:tlt a c=true):tlt a b=true\/tlt b c=true:=by
 cases h1:tlt a b with
 | true=>exact .inl rfl
 | false =>
  right
  cases h2:tlt b a with
  | true=>exact zF7 b a c h2 h
  | false=>rw [<-zH1 a b h1 h2];exact h
@[reducible] def tupK (f:Addr->Option (List Str)):PyProof.Rows.KeyKind where
 α:=List Str
 blt:=tlt
 irrefl:=tlt_irr
 trans:=zF7
 negTrans:=tlt_neg
 total:=zH1
 keyOf v:=match v with| .ref b=>f b| _=>none
 dflt:=[]
section
variable {prog:Program} {w:World} {A:Around} {E:Value->Shared->Prop} {s:Shared}
theorem zFd {ks:List Str} {vs:List Value} (h:ItemsAre (PySem.strKind prog w) ks vs):StrsAre vs ks:=by
 induction h with
 | nil=>exact .nil
 | @cons k v ks vs h1 _ ih =>
  obtain ⟨t,rfl⟩:=Value.isStrOf_shape h1
  exact .cons k t ih
theorem kat_strs {b fin:Bool} {Q:Bool->Shared->Prop}:∀{xs ys:List Value} {ax ay:List Str},StrsAre xs ax->StrsAre ys ay->∀i,fin=decide (xs.length<ys.length)->Q (tlt ax ay) s->KatLex prog w A b fin Q (xs.zip ys) i s
 | _,_,_,_,.nil,.nil,i,e,h=>by subst e;exact kat_nil h
 | _,_,_,_,.nil,.cons y t hy,i,e,h=>by subst e;exact kat_nil h
 | _,_,_,_,.cons x t hx,.nil,i,e,h=>by subst e;exact kat_nil h
 | _,_,_,_,.cons x t hx,.cons y u hy,i,e,h=>by
  rw [List.zip_cons_cons]
  refine kat_cons (wpAny_eqBool_str ?_)
  unfold tlt at h
  by_cases c:x=y
  ·rw [if_pos c] at h
   rw [decide_eq_true c]
   refine kat_yes (kat_strs hx hy (i+1) ?_ h)
   rw [e]
   simp
  ·rw [if_neg c] at h
   rw [decide_eq_false c]
   refine kat_no ?_
   cases z:(b&&i==0) with
   | true=>exact oneLt_str h
   | false=>exact kat_one _ _ (lt_str h)
theorem tup_cmp (f:Addr->Option (List Str)) (hf:∀b k,f b=some k->IsTupleKey (PySem.strKind prog w) s.heap k b) (b:Bool):Tim.CmpOk prog w A s (tuples' b) (tupK f):=by
 intro E x y a c Q hx hy h
 cases x<;>simp only [reduceCtorEq] at hx
 cases y<;>simp only [reduceCtorEq] at hy
 obtain ⟨ox,ix,nx,x1,_,x2,x3⟩:=hf _ _ hx
 obtain ⟨oy,iy,ny,y1,_,y2,y3⟩:=hf _ _ hy
 exact kat_lt x1 x2 y1 y2 (kat_strs (zFd x3) (zFd y3) 0 (by simp) h)
end
theorem zFw {vs:List Value} {xs:Array Keyed} (hp:xs.Perm (pairsOf vs)):(xs.map (·.2)).toList.Perm vs:=by
 have hl:xs.toList.Perm (vs.zip vs):=by rw [<-pairsOf_toList];exact Array.perm_iff_toList_perm.mp hp
 have:=hl.map (·.2)
 rw [List.map_snd_zip (Nat.le_refl _)] at this
 rwa [Array.toList_map]
theorem snd_srt {κ:PyProof.Rows.KeyKind} {vs:List Value} {xs:Array Keyed} (hp:xs.Perm (pairsOf vs)) (hs:Tim.Srt κ xs.toList):(xs.map (·.2)).toList.Pairwise fun x y=>κ.kle ((κ.keyOf x).getD κ.dflt) ((κ.keyOf y).getD κ.dflt):=by
 have hl:xs.toList.Perm (vs.zip vs):=by rw [<-pairsOf_toList];exact Array.perm_iff_toList_perm.mp hp
 have hm:∀p∈xs.toList,p.1=p.2:=fun p h=>(mem_zip_self (hl.mem_iff.mp h)).1
 have e:(xs.map (·.2)).toList=xs.toList.map (·.1):=by
  rw [Array.toList_map];exact List.map_congr_left fun p h=>(hm p h).symm
 rw [e,List.pairwise_map]
 exact hs
theorem pw_small {α:Type} {R:α->α->Prop} {l:List α} (h:l.length<2):l.Pairwise R:=by
 match l,h with
 | [],_=>exact List.Pairwise.nil
 | [x],_=>exact List.pairwise_singleton _ _
section
variable {prog:Program} {w:World} {A:Around} {E:Value->Shared->Prop} {s:Shared}
structure Sortable (prog:Program) (w:World) (A:Around) (κ:PyProof.Rows.KeyKind) (kd:SortKind) (vs:List Value) (s:Shared):Prop where
 cmp:Tim.CmpOk prog w A s kd κ
 kind:2<=vs.length->∀(E:Value->Shared->Prop) (Q:SortKind->Shared->Prop),Q kd s->wpAny (model prog w) A (keyKind' vs.toArray) Q E s
 has:∀v∈vs,∃k,κ.keyOf v=some k
theorem srt_heap {h:Heap} {a:Addr} {vs:List Value} {n:Nat} {out:Array Value} (ho:h.get? a=some (seqObj "list" vs.toArray n)):(∃c,(sortedHeap h a vs out).get? a=some (seqObj "list" out c))/\∀b o,b≠a->h.get? b=some o->(sortedHeap h a vs out).get? b=some o:=by
 have ha:a<h.objs.size:=Heap.lt_size ho
 have h1:(h.update a (Obj.mapSeq fun _=>#[])).get? a=some (seqObj "list" #[] _):=get?_update_seq ho fun _=>#[]
 have h2:=Heap.get?_push_of_some (seqObj "list" #[] 0) (Heap.get?_push_of_some (seqObj "tuple" vs.toArray 0) h1)
 refine ⟨⟨_,get?_update_seq h2 fun _=>out⟩,fun b o hb q=>?_⟩
 unfold sortedHeap
 rw [Heap.get?_update_other _ _ (Ne.symm hb)]
 refine Heap.get?_push_of_some _ (Heap.get?_push_of_some _ ?_)
 rw [Heap.get?_update_other _ _ (Ne.symm hb)]
 exact q
end
section
variable {prog:Program} {w:World} {A:Around} {E:Value->Shared->Prop} {s:Shared}
abbrev Up (h h':Heap):Prop:=∀b o,h.get? b=some o->h'.get? b=some o
end
section
variable {prog:Program} {w:World} {A:Around} {E:Value->Shared->Prop} {s:Shared}
theorem tups_sortable {ks:List (List Str×Addr)} {vs:List Value} (hv:vs.Perm (ks.map fun p=>.ref p.2)) (ky:∀p∈ks,IsTupleKey (PySem.strKind prog w) s.heap p.1 p.2) (hne:∀p∈ks,p.1≠[]) :
  Sortable prog w A (tupK fun b=>(ks.find? fun p=>p.2==b).map (·.1)) (tuples' true) vs s:=by
 have look:∀p∈ks,∃q∈ks,(ks.find? fun p'=>p'.2==p.2)=some q/\q.2=p.2:=fun p hp=>by
  cases e:ks.find? fun p'=>p'.2==p.2 with
  | none=>exact absurd (List.find?_eq_none.mp e p hp) (by simp)
  | some q=>exact ⟨q,List.mem_of_find?_eq_some e,rfl,by simpa using List.find?_some e⟩
 refine ⟨tup_cmp _ (fun b k e=>?_) true,fun h2 E Q h=>?_,fun v hvm=>?_⟩
 ·obtain ⟨p,p1,p2⟩:=Option.map_eq_some_iff.mp e
  have p3:p.2=b:=by simpa using List.find?_some p1
  rw [<-p2,<-p3]
  exact ky p (List.mem_of_find?_eq_some p1)
 ·have go:∀(us:List Value),(∀u∈us,∃p∈ks,u= .ref p.2)->∃fs:List Value,KatTups s.heap us fs/\fs.length=us.length/\∀f∈fs,∃x t,f= .str x t:=by
   intro us
   induction us with
   | nil=>intro _;exact ⟨[],.nil,rfl,(fun f hf=>nomatch hf)⟩
   | cons u us ih =>
    intro hu
    obtain ⟨fs,t1,t2,t3⟩:=ih fun u hu'=>hu u (List.mem_cons_of_mem _ hu')
    obtain ⟨p,hp,rfl⟩:=hu u List.mem_cons_self
    obtain ⟨ob,its,n,q1,q2,q3,q4⟩:=ky p hp
    have q5:=zFd q4
    have q6:=hne p hp
    generalize hk:p.1=k at q5 q6
    generalize hl:its.toList=l at q5
    cases q5 with
    | nil=>exact absurd rfl q6
    | cons x t r =>
     refine ⟨.str x t::fs,.cons q1 q2 q3 ?_ t1,by simp [t2],fun f hf=>?_⟩
     ·rw [<-Array.getElem?_toList,hl];rfl
     ·rcases List.mem_cons.mp hf with z| z
      ·exact ⟨x,t,z⟩
      ·exact t3 f z
  obtain ⟨fs,t1,t2,t3⟩:=go vs fun u hu=>by
   obtain ⟨p,hp,e⟩:=List.mem_map.mp (hv.mem_iff.mp hu)
   exact ⟨p,hp,e.symm⟩
  refine kat_kind (T:=.type "str") t1 (by omega) (fun f hf=>?_) (by decide) h
  obtain ⟨x,t,rfl⟩:=t3 f hf
  exact .now
 ·obtain ⟨p,hp,rfl⟩:=List.mem_map.mp (hv.mem_iff.mp hvm)
  obtain ⟨q,hq,e,_⟩:=look p hp
  exact ⟨q.1,by show Option.map _ _=_;rw [e];rfl⟩
end
end ST
namespace L2
open PySem PySem.Spec PyProof.Rows
def TSt (P:Program) (w:World) (a:Addr) (xs:List (List Str×Addr)):HO :=
 .ext fun h=>∃o es ep t,h.get? a=some o/\o.ExactSet/\o.data= .set es ep t/\es.toList=xs.map (ST.en (PySem.strKind P w))/\ST.TOk t (xs.map fun p=>tupleKeyHash (PySem.strKind P w) p.1)/\xs.length*5<t.mask*3/\(xs.map (·.1)).Nodup/\t.led= !ST.byt w
def RowT (K:PySem.W.Frag) (H:Hp) (p:List Str×Addr):Prop:=SqT K H p.2 (p.1.map V.str)
section
variable {X:Cx} {pins:List (Addr×Obj)} {σ:St} {H:Hp} {s:Shared}
theorem zHi {prog:Program} {w:World}:∀{ks:List Str} {its:List Value},Vals (ks.map V.str) its->ItemsAre (PySem.strKind prog w) ks its
 | [],_,.nil=>.nil
 | k::ks,_,.cons ⟨t,e⟩ r=>by
  subst e
  exact .cons (by show Value.isStrOf k (.str k t)=true;simp [Value.isStrOf]) (zHi r)
theorem Inv.rowT (I:Inv X pins σ H s) {p:List Str×Addr} (h:RowT X.K H p):IsTupleKey (PySem.strKind X.prog X.w) s.heap p.1 p.2:=by
 obtain ⟨its,r,⟨o,ho,hc,n,hd⟩,_⟩:=I.tuple h
 exact ⟨o,its.toArray,n,ho,hc,hd,by simpa using zHi r⟩
theorem vals_refs:∀{ks:List (List Str×Addr)} {its:List Value},Vals (ks.map fun p=>V.ref p.2) its->its=ks.map fun p=>Value.ref p.2
 | [],_,.nil=>rfl
 | k::ks,_,.cons e r=>by
  have e:_=Value.ref k.2:=e
  subst e
  rw [vals_refs r];rfl
theorem refs_vals:∀(ks:List (List Str×Addr)),Vals (ks.map fun p=>V.ref p.2) (ks.map fun p=>Value.ref p.2)
 | []=>.nil
 | k::ks=>.cons rfl (refs_vals ks)
theorem got_ok {h:Heap} {H:Hp} {a:Addr} {xs:List (List Str×Addr)} {o:Obj} {es:Array (Int×Value)} {ep:Nat} {t:SetTable} (Z:ST.SetX (PySem.strKind X.prog X.w) h a xs o es ep t):zA8 X.prog X.w H h a (TSt X.prog X.w a xs) :=
 ⟨⟨o,es,ep,t,Z.ho,Z.ex,Z.hd,Z.el,Z.ok,Z.room,Z.nd,Z.ld⟩,⟨o,Z.ho⟩,fun h1 h2 ⟨o,es,ep,t,q,r⟩ k=>⟨o,es,ep,t,k o q,r⟩⟩
theorem call_setT {k:Nat} (hr:Room k X.A):zDe X (.type "set") (fun xs H Q=>∃(l:Addr) (ks:List (List Str×Addr)),xs=[.ref l]/\SqL X.K H l (ks.map fun p=>V.ref p.2)/\(∀p∈ks,RowT X.K H p)/\ks.length<=306 /\
  ∀a ys,H a=none->(∀p∈ys,p∈ks)->(∀p∈ks,p.1∈ys.map (·.1))->(ys.map (·.1)).Nodup->ys.length<=ks.length->Q (.ref a) (upd H a (TSt X.prog X.w a ys))):=by
 intro pins s σ H xs us Q I r h
 obtain ⟨l,ks,rfl,hl,hk,hc,q⟩:=h
 obtain ⟨u,rfl,rx⟩:=vals1 r
 cases rx
 obtain ⟨its,r',pl,hz⟩:=I.list hl
 have ei:=vals_refs r'
 refine ST.w_mkset (knd:=PySem.strKind X.prog X.w) (ks:=ks) hr.hd (by have:=hr.un;omega) pl.isList (by rw [ei]) (fun p hp=>I.rowT (hk p hp)) hc fun h' tk _ g kp=>?_
 obtain ⟨ys,o,es,ep,t,Z,g1,g2,g3⟩:=g
 exact ⟨.ref s.heap.objs.size,_,I.laid (t':=tk) kp (Nat.le_refl _) (got_ok Z),rfl,q _ ys (I.hok.fresh (Nat.le_refl _)) g1 g2 Z.nd g3⟩
theorem perm_back {α β:Type} (f:α->β):∀{vs:List β} {ks:List α},vs.Perm (ks.map f)->∃zs:List α,zs.Perm ks/\vs=zs.map f:=by
 intro vs ks h
 generalize hm:ks.map f=ms at h
 induction h generalizing ks with
 | nil=>exact ⟨[],by rw [List.map_eq_nil_iff.mp hm],rfl⟩
 | @cons x l₁ l₂ _ ih =>
  cases ks with
  | nil=>exact nomatch hm
  | cons k ks =>
   rw [List.map_cons] at hm
   obtain ⟨e1,e2⟩:=List.cons.inj hm
   obtain ⟨zs,p,e⟩:=ih e2
   exact ⟨k::zs,.cons k p,by rw [List.map_cons,<-e,e1]⟩
 | swap x y l =>
  match ks,hm with
  | a::b::ks,hm =>
   simp only [List.map_cons,List.cons.injEq] at hm
   obtain ⟨e1,e2,e3⟩:=hm
   exact ⟨b::a::ks,.swap a b ks,by simp [e1,e2,e3]⟩
 | trans _ _ ih1 ih2 =>
  obtain ⟨zs,p,e⟩:=ih2 hm
  obtain ⟨zs',p',e'⟩:=ih1 e.symm
  exact ⟨zs',p'.trans p,e'⟩
def RiseT (zs:List (List Str×Addr)):Prop:=zs.Pairwise fun p q=>ST.tlt q.1 p.1=false
theorem rise_of {prog:Program} {w:World} {h:Heap} {ys zs:List (List Str×Addr)} (hp:zs.Perm ys) (ky:∀p∈ys,IsTupleKey (PySem.strKind prog w) h p.1 p.2)
  (hs:(zs.map fun p=>Value.ref p.2).Pairwise fun x y=>(ST.tupK fun b=>(ys.find? fun p=>p.2==b).map (·.1)).kle (((ST.tupK fun b=>(ys.find? fun p=>p.2==b).map (·.1)).keyOf x).getD []) (((ST.tupK fun b=>(ys.find? fun p=>p.2==b).map (·.1)).keyOf y).getD [])):RiseT zs:=by
 rw [List.pairwise_map] at hs
 have key:∀p∈zs,((ys.find? fun q=>q.2==p.2).map (·.1)).getD []=p.1:=fun p hpz=>by
  have hpy:=hp.mem_iff.mp hpz
  cases e:ys.find? fun q=>q.2==p.2 with
  | none=>exact absurd (List.find?_eq_none.mp e p hpy) (by simp)
  | some q =>
   have q1:q.2=p.2:=by simpa using List.find?_some e
   have k1:=ky q (List.mem_of_find?_eq_some e)
   rw [q1] at k1
   exact k1.inj (ky p hpy)
 refine hs.imp_of_mem fun {p q} hp' hq' z=>?_
 have z:ST.tlt (((ys.find? fun r=>r.2==q.2).map (·.1)).getD []) (((ys.find? fun r=>r.2==p.2).map (·.1)).getD [])=false:=z
 rw [key p hp',key q hq'] at z
 exact z
end
end L2
namespace ST
theorem strict_of {xs:List (List PySem.Str)} (h:xs.Pairwise fun p q=>tlt q p=false) (hn:xs.Nodup):xs.Pairwise fun a b=>tlt a b=true:=by
 refine (List.pairwise_and_iff.mpr ⟨h,hn⟩).imp fun {a b} ⟨q1,q2⟩=>?_
 cases z:tlt a b with
 | true=>rfl
 | false=>exact absurd (zH1 a b z q1) q2
section
open PySem PyProof.Rows
variable {prog:Program} {w:World} {A:Around} {s:Shared}
end
end ST
namespace L2
open PySem PySem.Spec PyProof.Rows
section
variable {X:Cx}
def rInsert:V->List V->Hp->VK->Prop:=fun x vs H Q=>∃l xs i y,x= .ref l/\vs=[.int i,y]/\H l=some (.lst xs)/\xs.length<sizeLine/\0<=i/\i<=xs.length/\Q .non (upd H l (.lst (xs.take i.toNat++y::xs.drop i.toNat)))
theorem mt_insert:MtM X "list.insert" rInsert:=by
 intro pins s σ H x vs v us Q I rx rv h
 obtain ⟨l,xs,i,y,rfl,rfl,hH,hz,h0,h1,q⟩:=h
 cases rx
 obtain ⟨u1,u,rfl,r1,ru⟩:=rv.two
 obtain ⟨t,rfl⟩:=r1
 obtain ⟨z,its,n,r,hl,e⟩:=I.lstM hH
 have hsl:sizeLine<2^62:=by decide +kernel
 have hfit:¬(!Builtin.List.listFitsIndex i)=true:=by
  unfold Builtin.List.listFitsIndex
  have a1:-(2^63:Int)<=i:=by omega
  have a2:i<2^63:=by omega
  rw [decide_eq_true a1,decide_eq_true a2];decide
 refine call_meets F.slot_list_insert ⟨_,e,rfl⟩ F.entry_list_insert (F.args_list_insert_3 _ _ _) (PySem.AutoListH.list_insert_list_int_val_1 l its.toArray n i t u hfit (by rw [List.size_toArray];omega)) ⟨e,?_⟩
 refine ⟨.non,_,I.lset (its':=its.take i.toNat++u::its.drop i.toNat) hH e ?_ ((r.take _).append (.cons ru (r.drop _))) ?_,rfl,q⟩
 ·have hk:(if i<0 then (i+((its.toArray.size:Nat):Int)).toNat else min i.toNat its.toArray.size)=i.toNat:=by
   rw [if_neg (by omega),List.size_toArray];omega
  show (its.toArray.extract 0 _).push u++its.toArray.extract _=_
  rw [hk]
  apply Array.ext'
  rw [Array.toList_append,Array.toList_push,Array.toList_extract,Array.toList_extract,List.append_assoc]
  simp [List.extract_eq_drop_take,List.take_of_length_le]
 ·rw [List.length_append,List.length_cons,List.length_take,List.length_drop]
  omega
def mrg (kvs more:List (Key×V)):List (Key×V):=more.foldl (fun acc p=>putK acc p.1 p.2) kvs
theorem KV.mrg {kvs:List (Key×V)} {vs:List (Key×Value)} (r:KV kvs vs):∀{more:List (Key×V)} {ms:List (Key×Value)},KV more ms->KV (mrg kvs more) (merged vs ms):=by
 intro more ms r2
 unfold L2.mrg merged
 unfold KV at r2
 induction r2 generalizing kvs vs with
 | nil=>exact r
 | @cons p q l₁ l₂ h _ ih =>
  rw [List.foldl_cons,List.foldl_cons,h.1]
  exact ih (r.put q.1 h.2)
theorem mrg_len (kvs more:List (Key×V)):(mrg kvs more).length<=kvs.length+more.length:=by
 unfold mrg
 induction more generalizing kvs with
 | nil=>exact Nat.le_refl _
 | cons p r ih =>
  rw [List.foldl_cons,List.length_cons]
  have h1:=ih (putK kvs p.1 p.2)
  have h2:=zCj kvs p.1 p.2
  omega
def rDUpd:V->List V->Hp->VK->Prop:=fun x vs H Q=>∃a b kvs more,x= .ref a/\vs=[.ref b]/\H a=some (.dK kvs)/\H b=some (.dK more)/\a≠b/\kvs.length+more.length<=sizeLine/\Q .non (upd H a (.dK (mrg kvs more)))
theorem mt_dupd:MtR X "dict.update" rDUpd:=by
 intro pins s σ H x vs v us Q I rx rv h
 obtain ⟨a,b,kvs,more,rfl,rfl,hA,hB,hne,hz,q⟩:=h
 cases rx
 obtain ⟨u,rfl,ru⟩:=rv.one
 cases ru
 obtain ⟨_,a2,vs1,a3,a4⟩:=I.hok a _ hA
 obtain ⟨_,b2,vs2,b3,b4⟩:=I.hok b _ hB
 have l1:kvs.length=vs1.length:=Paired.length a3
 have l2:more.length=vs2.length:=Paired.length b3
 refine call_meetsIn F.slot_dict_update a4.typeIs F.entry_dict_update (F.args_dict_update_2 _ _) (meets_dict_update (zA2 X.prog X.w) a b hne b2) ⟨vs1,vs2,a4,b4,by omega,fun h' d1 d2 sb=>?_⟩
 have new:zA8 X.prog X.w (upd H a (.dK (mrg kvs more))) h' a (.dK (mrg kvs more)):=⟨Nat.le_trans (mrg_len kvs more) hz,a2,_,a3.mrg b3,d1⟩
 refine ⟨.non,_,I.write (x:=a) (e:=a) (t':=s.toks) (by rw [hA];exact trivial) (.inl rfl) (fun c o hc z=>(sb.2 c hc).trans z) ?_ new,rfl,q⟩
 obtain ⟨o,_,_,e,_⟩:=d1
 exact ⟨o,e⟩
end
section
variable {X:Cx}
theorem op_neU (hu:X.A.units<cLine):OpR X (compareOp .NotEq) (zGk X.K true):=by
 intro pins s σ H x y v u Q I rx ry h
 obtain ⟨a,c,xs,ys,rfl,rfl,hx,hy,hl,q⟩:=h
 cases rx
 cases ry
 obtain ⟨its,r,pl,hz⟩:=I.list hx
 obtain ⟨its2,r2,pl2,hz2⟩:=I.list hy
 have e1:=r.length
 have e2:=r2.length
 exact SeqAt.RcNeAt.lists_lengths pl.isList pl2.isList (by rw [List.size_toArray,List.size_toArray];simp;omega) hu X.prog X.w X.xe _ ⟨.bl true,H,I,rfl,q⟩
end
theorem op_neAU {X:Cx} {k:Nat} (hr:Room k X.A):OpR X (compareOp .NotEq) (fun x y H Q=>zGl X.K 8 false x y H Q\/zGk X.K true x y H Q):=(op_neA (hu2 hr)).either (op_neU (hu0 hr))
theorem un_laid {fs ex:List Addr} {H:Hp} {h h':Heap} {a:Addr} {o:HO} (k:∀b u,b∉ex->h.get? b=some u->h'.get? b=some u) (hp:h.objs.size<=a) (hn:H a=none):Un fs ex H (upd H a o) h h' where
 keep:=fun b u q _ _ hx=>k b u hx q
 slot:=fun b u q _ _ hx=>⟨u.slots,k b u hx q⟩
 free:=fun b u q n _=>by rw [upd_ne (Nat.ne_of_lt (Nat.lt_of_lt_of_le (Heap.lt_size q) hp))];exact n
 there:=fun b u q hx=>⟨u,k b u hx q⟩
 tups:=fun b xs q=>by rw [upd_ne (zAk q hn)];exact q
 frzs:=fun b u xs q=>by rw [upd_ne (zAk q hn)];exact q
 tbls:=fun b ps q=>⟨#[],by rw [upd_ne (zAk q hn),q];simp⟩
theorem hok_laid {P:Program} {w:World} {H:Hp} {h h':Heap} {ex:List Addr} {a:Addr} {o:HO} (x:HOk P w H h) (k:∀b u,b∉ex->h.get? b=some u->h'.get? b=some u) (hex:∀b∈ex,H b=none) (hp:h.objs.size<=a) (new:zA8 P w (upd H a o) h' a o):HOk P w (upd H a o) h':=fun b u e=>by
 have hn:=x.fresh hp
 by_cases hb:b=a
 ·subst hb;rw [upd_same] at e;cases e;exact new
 ·rw [upd_ne hb] at e
  refine (x b u e).stay (fun c v hc q=>k c v (fun z=>?_) q) (fun c q=>by rw [upd_ne (zAk q hn)];exact q) fun c xs q=>by rw [upd_ne (zAk q hn)];exact q
  have hz:=hex c z
  rcases hc with y| y
  ·rw [y,e] at hz;cases hz
  ·rw [y] at hz;cases hz
open AutoSeq1 (wpAny_loadPart')
section
variable {X:Cx}
theorem call_dict1:zDe X (.type "dict") (fun xs H Q=>∃a kvs,xs=[.ref a]/\Rd H a (.dK kvs)/\∀p,H p=none->Q (.ref p) (upd H p (.dK kvs))):=by
 intro pins s σ H xs us Q I rv h
 obtain ⟨a,kvs,rfl,e,q⟩:=h
 obtain ⟨u,rfl,ru⟩:=rv.one
 cases ru
 exact d_copyOf I e fun p s' hp I'=>⟨.ref p,_,I',rfl,q p hp⟩
end
end L2
namespace L2
open PySem PySem.Spec PyProof.Rows PySem.W PySem.Builtin PySem.Builtin.ObjectAttr PySem.Builtin.Getset_descriptor
end L2
namespace L2
open PySem PySem.Spec PyProof.Rows
theorem cut_to (xs:List V) {b:Int} (h:0<=b):cutV xs none (some b)=xs.take b.toNat:=by
 obtain ⟨k,rfl⟩:∃k:Nat,b=k:=⟨b.toNat,by omega⟩
 unfold cutV
 rw [HT.sIx_nat,HT.sIx_none,List.drop_zero,Nat.sub_zero]
 show xs.take (min k xs.length)=xs.take k
 rw [List.take_eq_take_min (i:=k)]
open AutoSeq1 (wpAny_loadPart')
def notStar:Expr->Bool
 | .Starred ..=>false
 | _=>true
theorem star_cons {e:Expr} {es:List Expr} {env:Env} (h:notStar e=true):starEach (e::es) env=(false,eval e env)::starEach es env:=by
 cases e<;>first| rfl| cases h
section
variable {X:Cx}
theorem op_fdivB:OpR X (binaryOp .FloorDiv) (rI (fun _ j=>0<j/\j<10^100) fun i j=>.int (i / j)):=opI fun i j _ _ _ _ _ hc q=>by
 have h1:(0:Int)<j:=hc.1
 have h2:j<10^100:=hc.2
 refine floordiv_int (by omega) (by rw [Int.fdiv_eq_ediv_of_nonneg i (by omega)];exact q) (.inl (PyProof.noPylong_of_log2 ?_))
 have hj:j.natAbs≠0:=by omega
 rw [Nat.log2_lt hj]
 have:j.natAbs<10^100:=by omega
 exact Nat.lt_of_lt_of_le this (by decide +kernel)
end
end L2
local macro_rules| `(tactic| walk_at "lc")=>`(tactic| first| exact Or.inl rfl| exact Or.inr rfl)
local macro_rules| `(tactic| walk_at "nm")=>`(tactic| first| assumption| exact List.not_mem_nil| (refine L2.nm1 ?_;walk_at "ne")| (refine L2.nm2 ?_ ?_<;>walk_at "ne")| (refine L2.nm3 ?_ ?_ ?_<;>walk_at "ne"))
local macro_rules| `(tactic| walk_at "lk")=>`(tactic| first| assumption| exact L2.upd_same| (refine (L2.upd_ne ?_).trans ?_;walk_at "ne";walk_at "lk")| (refine L2.Kp.look (by assumption) ?_ ?_;walk_at "lk";walk_at "nm"))
local macro_rules| `(tactic| walk_at "ne")=>`(tactic| first| assumption| (refine Ne.symm ?_;assumption)| (refine L2.ne_fre (by assumption) ?_;walk_at "lk")| (refine Ne.symm (L2.ne_fre (by assumption) ?_);walk_at "lk"))
local macro_rules| `(tactic| walk_at "bd")=>`(tactic| first| decide| omega| (dsimp only;first| decide| omega))
local macro_rules| `(tactic| walk_at "ml")=>`(tactic| first| exact Or.inr ⟨by decide,by decide⟩| exact Or.inl ⟨by omega,by omega⟩| exact Or.inr ⟨by omega,by omega⟩)
local macro_rules| `(tactic| walk_at "ln")=>`(tactic| first| decide| (have hsz:=PySem.sizeLine_eq;simp only [List.length_cons,List.length_nil,List.length_map,List.length_append] at *;omega))
local macro_rules| `(tactic| walk_at "ix")=>`(tactic| first| rfl| assumption| (refine L2.atI_natc ?_;assumption))
local macro_rules| `(tactic| walk_at "vs")=>`(tactic| first| exact Or.inl rfl| exact Or.inr (Or.inl rfl)| exact Or.inr (Or.inr rfl))
local macro_rules| `(tactic| walk_at "vk")=>`(tactic| first| exact Or.inl rfl| exact Or.inr rfl)
local macro_rules| `(tactic| walk_at "vf")=>`(tactic| first| decide +kernel| (simp only [List.mem_cons];decide))
namespace My
open PySem L2
def top (i:Nat):Stmt:=PySem.Challenge.pw_levelbench_k85_plans_counted.main.body.getD i (.Pass ⟨0,0,0,0⟩)
structure Txt (K:PySem.W.Frag) (mg:Str->Option Value):Prop where
 z_len:mg "len" = none
 z_max:mg "max" = none
 z_range:mg "range" = none
 z_int:mg "int" = none
 z_str:mg "str" = none
 z_list:mg "list" = none
 z_all:mg "all" = none
 z_min:mg "min" = none
 z_dict:mg "dict" = none
 z_bool:mg "bool" = none
 z_abs:mg "abs" = none
 z_reversed:mg "reversed" = none
 z_enumerate:mg "enumerate" = none
 z_any:mg "any" = none
 z_isinstance:mg "isinstance" = none
 z_sorted:mg "sorted" = none
 z_set:mg "set" = none
 z_tuple:mg "tuple" = none
 c_MOST_JOBS:∃t,mg "MOST_JOBS" = some (.int 20 t)
 c_MOST_TURNS:∃t,mg "MOST_TURNS" = some (.int 40 t)
 c_MOST_FEW:∃t,mg "MOST_FEW" = some (.int 7 t)
 c_LONGEST_NAME:∃t,mg "LONGEST_NAME" = some (.int 8 t)
section
variable {P:Program} {w:World} {K:PySem.W.Frag} {mg:Str->Option Value} {base:Heap}
def zB8 (H:Hp) (p:Addr):Prop:=∃a b:Int,H p=some (.lst [.int a,.int b])/\0<=a/\0<=b/\b<2147483629
theorem zB8.kp {M:List Addr} {H H':Hp} {p:Addr} (h:zB8 H p) (k:Kp M H H') (n:p∉M):zB8 H' p:=by
 obtain ⟨a,b,e,r⟩:=h
 exact ⟨a,b,k p _ e n,r⟩
def zHj:Sp:=fun vs H Q _=>∃(p:Addr) (m:Int),vs=[.ref p,.int m]/\zB8 H p/\1<=m/\m<10^100/\∀(d:Int) (H':Hp),0<=d->d<m->zB8 H' p->Kp [p] H H'->Q (.int d) H'
abbrev s_take:Stmt:=top 44
theorem sc_take:FnScope ["_law_purse_here", "_law_many", "_law_digit"] ["_law_purse_here", "_law_many"] (zAe s_take):=⟨rfl,rfl,rfl,by decide +kernel,rfl,by decide +kernel,by decide +kernel⟩
theorem ok_take {f:Addr} {fd:FuncData} (F:Fun K "_law_take" "_law_take" s_take f fd):FnOk P w K mg base CX0 1 f fd ["_law_purse_here", "_law_many"] zHj:=by
 refine F.ok sc_take (fun vs H Q E h=>?_) (fun cdv A outer s H vs Q E hr h=>?_)
 ·obtain ⟨p,m,rfl,_⟩:=h
  rfl
 ·obtain ⟨p,m,rfl,⟨a,b,hp,ha,hb,hb'⟩,hm,hm',k⟩:=h
  refine ⟨_,(zAb (zCb (zAn op_gt (zCc zA7 (pv 0) zAf (fun _ _=>rfl)) zAf (zAv _))
    (zAb (zAj (i:=2) sc_take.nd rfl (by walk_at "lc") (zAp zD6 (zCc zA7 (pv 0) zAf (fun _ _=>rfl)) (pv 1)))
    (zAb (ps_asg (zAp op_fdivB (zCc zA7 (pv 0) zAf (fun _ _=>rfl)) (pv 1)) (pg_sub (pv 0) zAf set_list))
    (zAd (zAs (pv 2)))))
    zAw)
   (zAb (ps_asg (zAp zD6 (zAp zCa (zAp zEr (zCc zA7 (pv 0) zAf (fun _ _=>rfl)) zAf) zAf) zAf) (pg_sub (pv 0) zAf set_list))
   (zAd (zAs (zAp zD6 (zAp zIh (zAp zD6 (zAp zEr (zCc zA7 (pv 0) zAf (fun _ _=>rfl)) (zCc zA7 (pv 0) zAf (fun _ _=>rfl))) zAf) zAf) (pv 1)))))),?_⟩
  refine ⟨_,rfl,_,_,_,_,rfl,rfl,SqL.of (by walk_at "lk"),(by walk_at "ix"),_,_,rfl,rfl,_,rfl,?_⟩
  refine ite2 (fun c=>?_) (fun c=>?_)
  ·have c':0<a:=by simpa using c
   refine ⟨_,rfl,_,_,_,_,rfl,rfl,SqL.of (by walk_at "lk"),(by walk_at "ix"),_,rfl,_,_,rfl,rfl,(by walk_at "bd"),?_⟩
   refine ⟨_,rfl,_,_,_,_,rfl,rfl,SqL.of (by walk_at "lk"),(by walk_at "ix"),_,rfl,_,_,rfl,rfl,⟨by walk_at "bd",hm'⟩,_,rfl,_,_,_,_,rfl,rfl,(by walk_at "lk"),(by walk_at "ix"),?_⟩
   refine ⟨_,rfl,?_⟩
   refine k _ _ (Int.emod_nonneg _ (by omega)) (Int.emod_lt_of_pos _ (by omega)) ⟨a / m,b,upd_same,Int.ediv_nonneg ha (by omega),hb,hb'⟩ (Kp.put Kp.refl (by simp))
  ·refine ⟨_,rfl,_,_,_,_,rfl,rfl,SqL.of (by walk_at "lk"),(by walk_at "ix"),_,_,rfl,rfl,(by walk_at "ml"),_,_,rfl,rfl,_,_,rfl,rfl,(by walk_at "bd"),_,rfl,_,_,_,_,rfl,rfl,(by walk_at "lk"),(by walk_at "ix"),?_⟩
   have h1:=Int.emod_nonneg (b*39373+7919) (show (2147483629:Int)≠0 by decide)
   have h2:=Int.emod_lt_of_pos (b*39373+7919) (show (0:Int)<2147483629 by decide)
   refine ⟨_,rfl,_,_,_,_,rfl,rfl,SqL.of (by walk_at "lk"),(by walk_at "ix"),_,rfl,_,_,_,_,rfl,rfl,SqL.of (by walk_at "lk"),(by walk_at "ix"),_,_,rfl,rfl,(by walk_at "ml"),_,_,rfl,rfl,(by walk_at "bd"),_,_,rfl,rfl,⟨by walk_at "bd",by walk_at "bd"⟩,_,rfl,_,_,rfl,rfl,(by walk_at "bd"),?_⟩
   refine k _ _ (Int.emod_nonneg _ (by omega)) (Int.emod_lt_of_pos _ (by omega)) ⟨a,_,upd_same,ha,h1,h2⟩ (Kp.put Kp.refl (by simp))
def spPurse:Sp:=fun vs H Q _=>∃(c k:Int),vs=[.int c,.int k]/\-(2^31)<k/\k<2^31/\∀(p:Addr) (H':Hp),Fre H p->zB8 H' p->Kp [] H H'->Q (.ref p) H'
abbrev s_purse:Stmt:=top 43
theorem sc_purse:FnScope ["_law_cell_here", "_law_k", "_law_number"] ["_law_cell_here", "_law_k"] (zAe s_purse):=⟨rfl,rfl,rfl,by decide +kernel,rfl,by decide +kernel,by decide +kernel⟩
theorem ok_purse {f:Addr} {fd:FuncData} (F:Fun K "_law_purse" "_law_purse" s_purse f fd) (T:Txt K mg):FnOk P w K mg base CX0 1 f fd ["_law_cell_here", "_law_k"] spPurse:=by
 refine F.ok sc_purse (fun vs H Q E h=>?_) (fun cdv A outer s H vs Q E hr h=>?_)
 ·obtain ⟨p,m,rfl,_⟩:=h
  rfl
 ·obtain ⟨c,n,rfl,hn,hn',k⟩:=h
  refine ⟨_,(zAb (zAj (i:=2) sc_purse.nd rfl (by walk_at "lc") (zAp zD6 (zAp zCa (zAp zCa (zAp zEr (zAp zD6 (pv 0) zAf) zAf) (zAp zEr (zAp zEr (pv 1) (pv 1)) zAf)) zAf) zAf))
   (zAd (zAs (zA0 (zAa (zAl (zG5 rfl) (by rfl) T.z_max bo_max (zAa zAf (zAa (zAp zGq (pv 0) (zAp op_pow zAf zAf)) zAc))) (zAa (zAp zD6 (zAp zEr (pv 2) (pv 2)) zAf) zAc)))))),?_⟩
  refine ⟨_,rfl,_,_,rfl,rfl,(by walk_at "bd"),_,_,rfl,rfl,(by walk_at "ml"),_,rfl,_,rfl,_,_,rfl,rfl,(by walk_at "ml"),_,_,rfl,rfl,(by walk_at "ml"),_,_,rfl,rfl,_,_,rfl,rfl,_,_,rfl,rfl,(by walk_at "bd"),?_⟩
  generalize c % 2147483629*48271+n*n*69623+11=y
  have h1:=Int.emod_nonneg y (show (2147483647:Int)≠0 by decide)
  have h2:=Int.emod_lt_of_pos y (show (0:Int)<2147483647 by decide)
  refine ⟨_,rfl,_,_,rfl,rfl,⟨by decide,by decide,by decide⟩,_,_,rfl,rfl,_,_,rfl,_,rfl,_,rfl,_,_,rfl,rfl,(by walk_at "ml"),_,_,rfl,rfl,(by walk_at "bd"),(by walk_at "ln"),fun p hp=>?_⟩
  refine k p _ hp ⟨_,_,upd_same,?_,Int.emod_nonneg _ (by decide),Int.emod_lt_of_pos _ (by decide)⟩ (Kp.new Kp.refl hp)
  split<;>omega
def spCell (K:PySem.W.Frag):Sp:=fun vs H Q _=>∃(a:Addr) (ns:List Int) (k:Int),vs=[.ref a,.int k]/\SqL K H a (ns.map V.int)/\0<=k/\∀c:Int,Q (.int c) H
abbrev s_cell:Stmt:=top 42
theorem sc_cell:FnScope ["_law_script", "_law_k"] ["_law_script", "_law_k"] (zAe s_cell):=⟨rfl,rfl,rfl,by decide +kernel,rfl,by decide +kernel,by decide +kernel⟩
theorem ok_cell {f:Addr} {fd:FuncData} (F:Fun K "_law_cell" "_law_cell" s_cell f fd) (T:Txt K mg):FnOk P w K mg base CX0 1 f fd ["_law_script", "_law_k"] (spCell K):=by
 refine F.ok sc_cell (fun vs H Q E h=>?_) (fun cdv A outer s H vs Q E hr h=>?_)
 ·obtain ⟨p,m,n,rfl,_⟩:=h
  rfl
 ·obtain ⟨a,ns,n,rfl,hS,hn,k⟩:=h
  refine ⟨_,(zAd (zAs (pe_ifExp (zAn op_lt (pv 1) (zAl zAo (by rfl) T.z_len zCt (zAa (pv 0) zAc)) (zAv _)) (zCc zA7 (pv 0) (pv 1) (fun _ _=>rfl)) zAf))),?_⟩
  refine ⟨_,rfl,_,rfl,_,_,rfl,.inl hS,_,_,rfl,rfl,_,rfl,?_⟩
  refine ite2 (fun c=>?_) (fun c=>?_)
  ·have c':n<ns.length:=by simpa using c
   have hx:(ns.map V.int)[n.toNat]?=some (V.int (ns[n.toNat]'(by omega))):=by simp
   refine ⟨_,rfl,_,rfl,_,_,_,_,rfl,rfl,hS,zFq hn hx,k _⟩
  ·exact k _
end
def zHh (s:Str):Prop:=1<=s.length/\s.length<=8/\∀c∈s.cps.toList,97<=c/\c<=122
def WordS (n:Nat) (s:Str):Prop:=s.length=n/\∀c∈s.cps.toList,97<=c/\c<=122
theorem len_app (a b:Str):(a++b).length=a.length+b.length:=by
 show (a++b).cps.size=_
 rw [Str.cps_append,Array.size_append];rfl
theorem WordS.more {n:Nat} {s:Str} (h:WordS n s) {c:Nat} (h1:97<=c) (h2:c<=122):WordS (n+1) (s++⟨#[c]⟩):=by
 refine ⟨by rw [len_app,h.1];rfl,fun x hx=>?_⟩
 rw [Str.cps_append,Array.toList_append] at hx
 rcases List.mem_append.mp hx with z| z
 ·exact h.2 x z
 ·have:x=c:=by simpa using z
  omega
def zDo:Str:= "abcdefghijklmnopqrstuvwxyz"
theorem zDn:zDo.cps.toList=(List.range 26).map (97+·):=by decide +kernel
theorem letters_at {d:Int} (h0:0<=d) (h1:d<26):atI zDo.cps.toList d=some (97+d.toNat):=by
 refine zFq h0 ?_
 have:d.toNat<26:=by omega
 rw [zDn,List.getElem?_map,List.getElem?_range this]
 rfl
theorem zEe (a c:Nat):(!(decide (([c]:List Nat)<[a])))=decide (a<=c):=by
 have:(([c]:List Nat)<[a])↔c<a:=by
  constructor
  ·intro h
   cases h with
   | rel h=>exact h
   | cons h=>cases h
  ·intro h
   exact List.Lex.rel h
 by_cases h:c<a
 ·rw [decide_eq_true (this.mpr h),decide_eq_false (by omega)];rfl
 ·rw [decide_eq_false (fun z=>h (this.mp z)),decide_eq_true (by omega)];rfl
section
variable {P:Program} {w:World} {K:PySem.W.Frag} {mg:Str->Option Value} {base:Heap}
def zIo (s:Str):Bool:=decide (1<=s.length)&&decide (s.length<=8)&&s.cps.toList.all fun c=>decide (97<=c)&&decide (c<=122)
theorem nameB_iff (s:Str):zIo s=true↔zHh s:=by
 unfold zIo zHh
 simp only [Bool.and_eq_true,decide_eq_true_eq,List.all_eq_true]
 exact ⟨fun ⟨⟨a,b⟩,c⟩=>⟨a,b,c⟩,fun ⟨a,b,c⟩=>⟨⟨a,b⟩,c⟩⟩
def spIsName:Sp:=fun vs H Q _=>∃(x:Str),vs=[.str x]/\x.length<=1000000/\∀H',Kp [] H H'->Q (.bl (zIo x)) H'
abbrev zEl:Stmt:=top 14
theorem sc_is_name:FnScope ["thing"] ["thing"] (zAe zEl):=⟨rfl,rfl,rfl,by decide +kernel,rfl,by decide +kernel,by decide +kernel⟩
theorem ok_is_name {f:Addr} {fd:FuncData} (F:Fun K "is_name" "is_name" zEl f fd) (T:Txt K mg):FnOk P w K mg base CX0 1 f fd ["thing"] spIsName:=by
 refine F.ok sc_is_name (fun vs H Q E h=>?_) (fun cdv A outer s H vs Q E hr h=>?_)
 ·obtain ⟨x,rfl,_⟩:=h
  rfl
 ·obtain ⟨x,rfl,hx,k⟩:=h
  obtain ⟨tL,hL⟩:=T.c_LONGEST_NAME
  refine ⟨_,(zAb (zCb (PW.pt (pw_or (zD5 (zD4 (zAl zD2 (by rfl) T.z_isinstance zBl (zAa (pv 0) (zAa (zFb (by rfl) T.z_str bo_str (v:=.ty "str") rfl) zAc))))) (zHn (zD5 (pt_chain op_le op_le zAf (zAl call_len_str (by rfl) T.z_len zCt (zAa (pv 0) zAc)) (zIf rfl hL (v:=.int 8) ⟨_,rfl⟩))))))
    (zAd (zAs pe_bl))
    zAw)
   (zAd (zAs (zAl (zIx _ rfl) (by rfl) T.z_all bo_all (zAa (zBh rfl (zBj (sc:=zAe zEl) rfl (by decide +kernel)) (Draws.own (x:= "sign") Draws.nil) (pi_str (pv 0)) (fun C s₀ H₀ ex=>(zAh (i:=0) (show List.Nodup (["sign"]:List Str) by decide +kernel) rfl (by walk_at "lc"))) (fun C s₀ H₀ ex=>zDk) (fun C s₀ H₀ ex=>(pe_chain op_le_str op_le_str pe_str (pv 0) pe_str))) zAc))))),?_⟩
  refine ⟨_,rfl,_,_,_,_,rfl,TyOf.str x,zF3,_,rfl,iteF ?_⟩
  refine ⟨_,rfl,_,rfl,?_,_,_,rfl,rfl,_,rfl,?_⟩
  ·rw [sizeLine_eq];omega
  refine ite2 (fun c=>?_) (fun c=>?_)
  ·have c1:1<=x.length:=by
    have:=of_decide_eq_true c
    omega
   refine ⟨_,_,rfl,rfl,_,rfl,?_⟩
   refine ite2 (fun c=>?_) (fun c=>?_)
   ·-- too long
    have c2:¬(x.length<=8):=fun z=>by
     have:decide ((x.length:Int)<=8)=true:=decide_eq_true (by omega)
     rw [this] at c;cases c
    have e:zIo x=false:=by
     unfold zIo
     rw [decide_eq_false c2];simp
    rw [<-e];exact k H Kp.refl
   ·have c2:x.length<=8:=by
     by_cases z:(x.length:Int)<=8
     ·omega
     ·rw [decide_eq_false z] at c;exact absurd rfl c
    refine ⟨_,rfl,_,rfl,fun D hD=>comp_str0 (z:=x) (fun i ys τ H'=>(∃o0,τ=[o0])/\ys=((x.cps.toList.take i).map fun c=>V.bl (decide (97<=c)&&decide (c<=122)))/\H'=upd H D (.lst ys)) ⟨⟨_,rfl⟩,rfl,rfl⟩ ?_ ?_⟩
    ·rintro i c ys τ H' hc ⟨⟨o0,rfl⟩,rfl,rfl⟩
     have ei:x.cps.toList.take (i+1)=x.cps.toList.take i++[c]:=by rw [List.take_succ,hc];rfl
     have hi:i<x.cps.toList.length:=(List.getElem?_eq_some_iff.mp hc).1
     have hlen:x.cps.toList.length=x.length:=by simp [Str.length]
     have fin:∀b:Bool,b=(decide (97<=c)&&decide (c<=122))->(upd H D (.lst ((x.cps.toList.take i).map fun c=>V.bl (decide (97<=c)&&decide (c<=122))))) D=some (.lst ((x.cps.toList.take i).map fun c=>V.bl (decide (97<=c)&&decide (c<=122))))/\((x.cps.toList.take i).map fun c=>V.bl (decide (97<=c)&&decide (c<=122))).length<sizeLine /\
       ((∃o0,([some (V.str ⟨#[c]⟩)]:St)=[o0])/\((x.cps.toList.take i).map fun c=>V.bl (decide (97<=c)&&decide (c<=122)))++[V.bl b]=((x.cps.toList.take (i+1)).map fun c=>V.bl (decide (97<=c)&&decide (c<=122))) /\
       upd (upd H D (.lst ((x.cps.toList.take i).map fun c=>V.bl (decide (97<=c)&&decide (c<=122))))) D (.lst (((x.cps.toList.take i).map fun c=>V.bl (decide (97<=c)&&decide (c<=122)))++[V.bl b]))=upd H D (.lst (((x.cps.toList.take i).map fun c=>V.bl (decide (97<=c)&&decide (c<=122)))++[V.bl b]))):=fun b hb=>by
      refine ⟨upd_same,?_,⟨_,rfl⟩,?_,zBg⟩
      ·rw [List.length_map,List.length_take,sizeLine_eq];omega
      ·rw [ei,List.map_append,hb];rfl
     refine ⟨_,rfl,_,_,rfl,rfl,_,rfl,?_⟩
     refine ite2 (fun c1=>?_) (fun c1=>?_)
     ·refine ⟨_,_,rfl,rfl,fin _ ?_⟩
      have c1:(!(decide (([c]:List Nat)<[97])))=true:=c1
      rw [zEe] at c1
      show (!(decide (([122]:List Nat)<[c])))=_
      rw [zEe,c1];rfl
     ·refine fin _ ?_
      have c1:¬(!(decide (([c]:List Nat)<[97])))=true:=c1
      rw [zEe] at c1
      rw [Bool.not_eq_true] at c1
      rw [c1];rfl
    ·rintro ys τ H' ⟨⟨o0,rfl⟩,rfl,rfl⟩
     have hlen:x.cps.toList.take x.length=x.cps.toList:=List.take_of_length_le (by simp [Str.length])
     refine ⟨D,x.cps.toList.map (fun c=>decide (97<=c)&&decide (c<=122)),rfl,SqL.of ?_,?_⟩
     ·rw [upd_same,hlen,List.map_map];rfl
     ·have e:((x.cps.toList.map (fun c=>decide (97<=c)&&decide (c<=122))).all id)=zIo x:=by
       unfold zIo
       rw [decide_eq_true c1,decide_eq_true c2,List.all_map];rfl
      rw [e]
      exact k _ (Kp.new Kp.refl hD)
  ·-- empty
   have c1:¬(1<=x.length):=fun z=>c (decide_eq_true (by omega))
   refine ⟨_,rfl,?_⟩
   refine iteT ?_
   have e:zIo x=false:=by
    unfold zIo
    rw [decide_eq_false c1];simp
   rw [<-e];exact k H Kp.refl
end
abbrev Txs (H:Hp) (l:Addr) (ns:List Str):Prop:=H l=some (.lst (ns.map V.str))
structure Ords (H:Hp) (l:Addr) (qs:List (List Str×Addr)):Prop where
 top:H l=some (.lst (qs.map fun q=>V.ref q.2))
 row:∀q∈qs,H q.2=some (.tup (q.1.map V.str))
 two:∀q∈qs,∃a b,q.1=[a,b]
theorem zCl (x:Str) (ns:List Str):inV (.str x) (ns.map V.str)=decide (x∈ns):=by
 unfold inV
 induction ns with
 | nil=>rfl
 | cons n r ih =>
  rw [List.map_cons,List.any_cons,ih]
  show ((n==x)||_)=_
  by_cases e:n=x
  ·subst e;simp
  ·have e':¬x=n:=fun z=>e z.symm
   rw [beq_eq_false_iff_ne.mpr e]
   simp [e']
theorem zBi (ns:List Str):(ns.map V.str).all zFh=true:=by simp [zFh]
section
variable {P:Program} {w:World} {K:PySem.W.Frag} {mg:Str->Option Value} {base:Heap}
def spIsOneOf:Sp:=fun vs H Q _=>∃(x:Str) (l:Addr) (ns:List Str),vs=[.str x,.ref l]/\Txs H l ns/\Q (.bl (decide (x∈ns))) H
abbrev zEa:Stmt:=top 15
theorem sc_is_one_of:FnScope ["thing", "names"] ["thing", "names"] (zAe zEa):=⟨rfl,rfl,rfl,by decide +kernel,rfl,by decide +kernel,by decide +kernel⟩
theorem ok_is_one_of {f:Addr} {fd:FuncData} (F:Fun K "is_one_of" "is_one_of" zEa f fd) (T:Txt K mg):FnOk P w K mg base CX0 1 f fd ["thing", "names"] spIsOneOf:=by
 refine F.ok sc_is_one_of (fun vs H Q E h=>?_) (fun cdv A outer s H vs Q E hr h=>?_)
 ·obtain ⟨x,l,ns,rfl,_⟩:=h
  rfl
 ·obtain ⟨x,l,ns,rfl,hl,k⟩:=h
  refine ⟨_,(zAd (zAs (pe_and (zAl zD2 (by rfl) T.z_isinstance zBl (zAa (pv 0) (zAa (zFb (by rfl) T.z_str bo_str (v:=.ty "str") rfl) zAc))) (pe_one (zCh zGr (pv 0) (pv 1) (by rfl)))))),?_⟩
  refine ⟨_,rfl,_,_,_,_,rfl,TyOf.str x,zF3,_,rfl,iteT ?_⟩
  refine ⟨_,rfl,_,rfl,_,_,rfl,.inl (SqL.of hl),rfl,zBi ns,?_⟩
  rw [zCl];exact k
def zE7:Sp:=fun vs H Q _=>∃(x:Str) (l:Addr) (ns:List Str),vs=[.ref l,.str x]/\Txs H l ns/\x∈ns/\Q .non H
abbrev zEb:Stmt:=top 34
theorem sc_check_job:FnScope ["names", "thing"] ["names", "thing"] (zAe zEb):=⟨rfl,rfl,rfl,by decide +kernel,rfl,by decide +kernel,by decide +kernel⟩
theorem ok_check_job {f:Addr} {fd:FuncData} (F:Fun K "check_job" "check_job" zEb f fd) (T:Txt K mg) (C_is_one_of:Cal P w K mg base "is_one_of" 1 ["thing", "names"] spIsOneOf):FnOk P w K mg base CX0 2 f fd ["names", "thing"] zE7:=by
 refine F.ok sc_check_job (fun vs H Q E h=>?_) (fun cdv A outer s H vs Q E hr h=>?_)
 ·obtain ⟨x,l,ns,rfl,_⟩:=h
  rfl
 ·obtain ⟨x,l,ns,rfl,hl,hx,k⟩:=h
  have HR_is_one_of:=hr
  refine ⟨_,(zAd (zCb (zD5 (zD4 (zAg C_is_one_of HR_is_one_of rfl (zAa (pv 1) (zAa (pv 0) zAc)))))
    (zAd zBp)
    zAw)),?_⟩
  refine ⟨_,rfl,_,rfl,x,l,ns,rfl,hl,?_⟩
  rw [decide_eq_true hx]
  exact ⟨_,rfl,iteF k⟩
end
abbrev dT1 (ns:List Str) (g:Str->V):List (Key×V):=ns.map fun n=>(Sum.inr n,g n)
theorem zBu (g:Str->V) (x:Str):∀ns:List Str,valV (dT1 ns g) (.inr x)=if x∈ns then some (g x) else none
 | []=>rfl
 | n::r=>by
  by_cases e:n=x
  ·subst e
   have h1:valV (dT1 (n::r) g) (.inr n)=some (g n):=zA9 rfl
   rw [h1];simp
  ·have h1:valV (dT1 (n::r) g) (.inr x)=valV (dT1 r g) (.inr x):=zA3 fun z=>e (Sum.inr.inj z)
   rw [h1,zBu g x r]
   have e':¬x=n:=fun z=>e z.symm
   simp [e']
theorem zDj {g:Str->V} {ns:List Str} {x:Str} (v:V) (h:x∉ns):putK (dT1 ns g) (.inr x) v=dT1 ns g++[(.inr x,v)]:=zDy v (by rw [zBu];simp [h])
theorem zAi {α:Type} {xs:List α} {i:Nat} {x:α} (h:xs[i]?=some x):xs.take (i+1)=xs.take i++[x]:=by rw [List.take_succ,h];rfl
theorem zBm {ns:List Str} {i:Nat} {v:V} (h:(ns.map V.str)[i]?=some v):∃n,ns[i]?=some n/\v= .str n:=by
 rw [List.getElem?_map] at h
 obtain ⟨n,e,r⟩:=Option.map_eq_some_iff.mp h
 exact ⟨n,e,r.symm⟩
theorem zDb {α:Type} {xs:List α} (h:xs.Nodup) {i:Nat} {x:α} (e:xs[i]?=some x):x∉xs.take i:=fun z=>by
 obtain ⟨hi,rfl⟩:=List.getElem?_eq_some_iff.mp e
 obtain ⟨j,hj,e2⟩:=List.mem_iff_getElem.mp z
 rw [List.length_take] at hj
 rw [List.getElem_take] at e2
 have:=(List.getElem_inj h).mp e2
 omega
section
variable {P:Program} {w:World} {K:PySem.W.Frag} {mg:Str->Option Value} {base:Heap}
def zFm:Sp:=fun vs H Q _=>∃(l:Addr) (ns:List Str),vs=[.ref l]/\Txs H l ns/\ns.length<=20/\(∀n∈ns,zHh n)/\ns.Nodup/\∀H',Kp [] H H'->Q .non H'
abbrev zC7:Stmt:=top 32
theorem zB2:FnScope ["names", "thing", "seen", "name"] ["names"] (zAe zC7):=⟨rfl,rfl,rfl,by decide +kernel,rfl,by decide +kernel,by decide +kernel⟩
theorem zHd {f:Addr} {fd:FuncData} (F:Fun K "check_names" "check_names" zC7 f fd) (T:Txt K mg) (C_is_name:Cal P w K mg base "is_name" 1 ["thing"] spIsName):FnOk P w K mg base CX0 2 f fd ["names"] zFm:=by
 refine F.ok zB2 (fun vs H Q E h=>?_) (fun cdv A outer s H vs Q E hr h=>?_)
 ·obtain ⟨l,ns,rfl,_⟩:=h
  rfl
 ·obtain ⟨l,ns,rfl,hl,hn,hN,hD,k⟩:=h
  have HR_is_name:=hr
  have hu:=zEy hr
  obtain ⟨tM,hM⟩:=T.c_MOST_JOBS
  refine ⟨_,(zAb (zCb (zAn op_gt (zAl zAo (by rfl) T.z_len zCt (zAa (pv 0) zAc)) (zIf rfl hM (v:=.int 20) ⟨_,rfl⟩) (zAv _))
    (zAd zBp)
    zAw)
   (zAb (zAx PassesOwn.never rfl (zAm (pv 0)) (zAh (i:=1) zB2.nd rfl (by walk_at "lc"))
    (zAd (zCb (zD5 (zD4 (zAg C_is_name HR_is_name rfl (zAa (pv 1) zAc))))
     (zAd zBp)
     zAw)))
   (zAb (zAj (i:=2) zB2.nd rfl (by walk_at "lc") zCd)
   (zAd (zAx PassesOwn.never rfl (zAm (pv 0)) (zAh (i:=3) zB2.nd rfl (by walk_at "lc"))
    (zAb (zCb (zFo (zHp hu (pv 3) (pv 2)))
     (zAd zBp)
     zAw)
    (zAd (zB9 hu (pv 2) (pv 3) pe_bl rfl)))))))),?_⟩
  refine ⟨_,rfl,_,_,rfl,.inl (SqL.of hl),_,_,rfl,rfl,_,rfl,?_⟩
  rw [decide_eq_false (by rw [List.length_map];omega)]
  refine iteF ?_
  refine ⟨_,rfl,_,rfl,⟨_,SqL.of hl⟩,zAy (fun i σ H2=>(∃o1 o2 o3:Option V,σ=[some (.ref l),o1,o2,o3])/\Kp [] H H2) ⟨⟨_,_,_,rfl⟩,Kp.refl⟩ (fun i σ H2 _ ⟨_,k2⟩=>SqL.of (k2 l _ hl (by simp))) ?_ ?_⟩
  ·rintro i v σ H2 hv ⟨⟨o1,o2,o3,rfl⟩,k2⟩
   obtain ⟨n,en,rfl⟩:=zBm hv
   have nn:=hN n (List.mem_of_getElem? en)
   refine ⟨_,rfl,n,rfl,by have:=nn.2.1;omega,fun H3 k3=>?_⟩
   rw [(nameB_iff n).mpr nn]
   exact ⟨_,rfl,iteF ⟨⟨_,_,_,rfl⟩,k2.trans k3⟩⟩
  ·rintro σ H2 ⟨⟨o1,o2,o3,rfl⟩,k2⟩
   have hl2:Txs H2 l ns:=k2 l _ hl (by simp)
   refine fun d hd=>?_
   have fd:Fre H2 d:=hd
   have fdH:Fre H d:=k2.fre fd (by simp)
   refine ⟨_,rfl,_,rfl,⟨_,SqL.of ((Kp.new (M:=[]) Kp.refl fd) l _ hl2 (by simp))⟩,zAy (fun i σ H3=>(∃o1 o3:Option V,σ=[some (.ref l),o1,some (.ref d),o3])/\Kp [] H H3/\H3 d=some (.dK (dT1 (ns.take i) fun _=>.bl true))) ⟨⟨_,_,rfl⟩,Kp.new k2 fdH,upd_same⟩ (fun i σ H3 _ ⟨_,k3,_⟩=>SqL.of (k3 l _ hl (by simp))) ?_ ?_⟩
   ·rintro i v σ H3 hv ⟨⟨o1,o3,rfl⟩,k3,h3⟩
    obtain ⟨n,en,rfl⟩:=zBm hv
    have ni:=zDb hD en
    refine ⟨_,rfl,_,rfl,_,_,rfl,DGet.k (k:=Sum.inr n) h3,_,rfl,?_⟩
    rw [zBu,if_neg ni]
    refine iteF ?_
    refine ⟨_,rfl,_,rfl,_,_,rfl,DPut.k (k:=Sum.inr n) h3 ?_,?_⟩
    ·rw [List.length_map,List.length_take,sizeLine_eq];omega
    ·refine ⟨⟨_,_,rfl⟩,Kp.new k3 fdH,?_⟩
     rw [upd_same,zDj _ ni,zAi en]
     unfold dT1
     rw [List.map_append];rfl
   ·rintro σ H3 ⟨⟨o1,o3,rfl⟩,k3,h3⟩
    exact k H3 k3
end
theorem ref_at {qs:List (List Str×Addr)} {i:Nat} {v:V} (h:(qs.map fun q=>V.ref q.2)[i]?=some v):∃q,qs[i]?=some q/\v= .ref q.2:=by
 rw [List.getElem?_map] at h
 obtain ⟨n,e,r⟩:=Option.map_eq_some_iff.mp h
 exact ⟨n,e,r.symm⟩
theorem Ords.kp {M:List Addr} {H H':Hp} {l:Addr} {qs:List (List Str×Addr)} (o:Ords H l qs) (k:Kp M H H') (h1:l∉M) (h2:∀q∈qs,q.2∉M):Ords H' l qs:=⟨k l _ o.top h1,fun q hq=>k _ _ (o.row q hq) (h2 q hq),o.two⟩
section
variable {P:Program} {w:World} {K:PySem.W.Frag} {mg:Str->Option Value} {base:Heap}
def zFl:Sp:=fun vs H Q _=>∃(l m:Addr) (ns:List Str) (qs:List (List Str×Addr)),vs=[.ref l,.ref m]/\Txs H l ns/\Ords H m qs/\(∀q∈qs,∀x∈q.1,x∈ns)/\Q .non H
abbrev zC6:Stmt:=top 33
theorem zCu:FnScope ["names", "orders", "order", "part"] ["names", "orders"] (zAe zC6):=⟨rfl,rfl,rfl,by decide +kernel,rfl,by decide +kernel,by decide +kernel⟩
theorem zHc {f:Addr} {fd:FuncData} (F:Fun K "check_parts" "check_parts" zC6 f fd) (T:Txt K mg) (C_check_job:Cal P w K mg base "check_job" 2 ["names", "thing"] zE7):FnOk P w K mg base CX0 3 f fd ["names", "orders"] zFl:=by
 refine F.ok zCu (fun vs H Q E h=>?_) (fun cdv A outer s H vs Q E hr h=>?_)
 ·obtain ⟨l,m,ns,qs,rfl,_⟩:=h
  rfl
 ·obtain ⟨l,m,ns,qs,rfl,hl,hm,hq,k⟩:=h
  have HR_check_job:=hr
  refine ⟨_,(zAd (zAx PassesOwn.never rfl (zAm (pv 1)) (zAh (i:=2) zCu.nd rfl (by walk_at "lc"))
    (zAd (zAx PassesOwn.never rfl (pi_tup (pv 2)) (zAh (i:=3) zCu.nd rfl (by walk_at "lc"))
     (zAd (zA4 (zAg C_check_job HR_check_job rfl (zAa (pv 0) (zAa (pv 3) zAc))))))))),?_⟩
  refine ⟨_,rfl,_,rfl,⟨_,SqL.of hm.top⟩,zAy (fun i σ H2=>(∃o2 o3:Option V,σ=[some (.ref l),some (.ref m),o2,o3])/\H2=H) ⟨⟨_,_,rfl⟩,rfl⟩ (fun i σ H2 _ ⟨_,e⟩=>by subst e;exact SqL.of hm.top) ?_ ?_⟩
  ·rintro i v σ H2 hv ⟨⟨o2,o3,rfl⟩,rfl⟩
   obtain ⟨q,eq,rfl⟩:=ref_at hv
   have mq:=List.mem_of_getElem? eq
   refine ⟨_,rfl,_,rfl,⟨_,.inl (.inl (hm.row q mq))⟩,for_tup (fun j σ H3=>(∃o3:Option V,σ=[some (.ref l),some (.ref m),some (.ref q.2),o3])/\H3=H2) ⟨⟨_,rfl⟩,rfl⟩ (fun j σ H3 _ ⟨_,e⟩=>by subst e;exact .inl (.inl (hm.row q mq))) ?_ ?_⟩
   ·rintro j v σ H3 hv ⟨⟨o3,rfl⟩,rfl⟩
    obtain ⟨x,ex,rfl⟩:=zBm hv
    exact ⟨_,rfl,_,rfl,x,l,ns,rfl,hl,hq q mq x (List.mem_of_getElem? ex),⟨_,rfl⟩,rfl⟩
   ·rintro σ H3 ⟨⟨o3,rfl⟩,rfl⟩
    exact ⟨⟨_,_,rfl⟩,rfl⟩
  ·rintro σ H2 ⟨⟨o2,o3,rfl⟩,rfl⟩
   exact k
end
def fst (q:List Str×Addr):Str:=q.1.getD 0 Str.empty
def snd (q:List Str×Addr):Str:=q.1.getD 1 Str.empty
def told (qs:List (List Str×Addr)) (n:Str):List Str:=(qs.filter fun q=>decide (snd q=n)).map fst
theorem told_snoc (qs:List (List Str×Addr)) (q:List Str×Addr) (n:Str):told (qs++[q]) n=if snd q=n then told qs n++[fst q] else told qs n:=by
 unfold told
 rw [List.filter_append]
 by_cases e:snd q=n
 ·rw [if_pos e];simp [e]
 ·rw [if_neg e];simp [e]
theorem told_len (qs:List (List Str×Addr)) (n:Str):(told qs n).length<=qs.length:=by
 unfold told
 rw [List.length_map];exact List.length_filter_le _ _
structure DL (H0 H:Hp) (d:Addr) (ns:List Str) (la:Str->Addr) (f:Str->List Str):Prop where
 top:H d=some (.dK (dT1 ns fun n=>.ref (la n)))
 row:∀n∈ns,Txs H (la n) (f n)
 ne:∀n∈ns,la n≠d
 inj:∀n∈ns,∀m∈ns,la n=la m->n=m
 fr:Fre H0 d
 frs:∀n∈ns,Fre H0 (la n)
theorem zG2 {ns:List Str} {g g':Str->V} (h:∀n∈ns,g n=g' n):dT1 ns g=dT1 ns g':=List.map_congr_left fun n hn=>by rw [h n hn]
section
variable {P:Program} {w:World} {K:PySem.W.Frag} {mg:Str->Option Value} {base:Heap}
def zGa:Sp:=fun vs H Q _=>∃(l m:Addr) (ns:List Str) (qs:List (List Str×Addr)),vs=[.ref l,.ref m]/\Txs H l ns/\Ords H m qs/\ns.Nodup/\ns.length<=20/\qs.length<=4096/\(∀q∈qs,∀x∈q.1,x∈ns) /\
 ∀d la H',DL H H' d ns la (told qs)->Kp [] H H'->Q (.ref d) H'
abbrev zDg:Stmt:=top 35
theorem zBv:FnScope ["names", "orders", "told", "name", "one", "other"] ["names", "orders"] (zAe zDg):=⟨rfl,rfl,rfl,by decide +kernel,rfl,by decide +kernel,by decide +kernel⟩
theorem zIi {f:Addr} {fd:FuncData} (F:Fun K "told_ahead" "told_ahead" zDg f fd):FnOk P w K mg base CX0 1 f fd ["names", "orders"] zGa:=by
 refine F.ok zBv (fun vs H Q E h=>?_) (fun cdv A outer s H vs Q E hr h=>?_)
 ·obtain ⟨l,m,ns,qs,rfl,_⟩:=h
  rfl
 ·obtain ⟨l,m,ns,qs,rfl,hl,hm,hN,hn,hz,hq,k⟩:=h
  have hu:=zEy hr
  refine ⟨_,(zAb (zAj (i:=2) zBv.nd rfl (by walk_at "lc") zCd)
   (zAb (zAx PassesOwn.never rfl (zAm (pv 0)) (zAh (i:=3) zBv.nd rfl (by walk_at "lc"))
    (zAd (zB9 hu (pv 2) (pv 3) (zA0 zAc) rfl)))
   (zAb (zAx PassesOwn.never rfl (zAm (pv 1)) (zHo rfl (zAt (zAh (i:=4) zBv.nd rfl (by walk_at "lc")) (zAt (zAh (i:=5) zBv.nd rfl (by walk_at "lc")) zC9)))
    (zAd (zA4 (zEq PySem.F.plainAttrs_list PySem.F.slot_list_append PySem.F.type_list_append zB5 (zBa hu (pv 2) (pv 5) (fun _ _=>rfl)) (zAa (pv 4) zAc)))))
   (zAd (zAs (pv 2)))))),?_⟩
  refine fun d hd=>?_
  have fd:Fre H d:=hd
  refine ⟨_,rfl,_,rfl,⟨_,SqL.of ((Kp.new (M:=[]) Kp.refl fd) l _ hl (by simp))⟩,zAy (fun i σ H2=>(∃o3 o4 o5:Option V,σ=[some (.ref l),some (.ref m),some (.ref d),o3,o4,o5])/\Kp [] H H2/\∃la,DL H H2 d (ns.take i) la fun _=>[])
   ⟨⟨_,_,_,rfl⟩,Kp.new Kp.refl fd,fun _=>0,upd_same,(fun n h=>nomatch h),(fun n h=>nomatch h),(fun n h=>nomatch h),fd,(fun n h=>nomatch h)⟩ (fun i σ H2 _ ⟨_,k2,_⟩=>SqL.of (k2 l _ hl (by simp))) ?_ ?_⟩
  ·rintro i v σ H2 hv ⟨⟨o3,o4,o5,rfl⟩,k2,la,D⟩
   obtain ⟨n,en,rfl⟩:=zBm hv
   have ni:=zDb hN en
   refine ⟨(by walk_at "ln"),fun b hb=>?_⟩
   have fb:Fre H2 b:=hb
   have ndb:d≠b:=ne_fre fb D.top
   have fbH:Fre H b:=k2.fre fb (by simp)
   refine ⟨_,rfl,_,rfl,_,_,rfl,DPut.k (k:=Sum.inr n) ((upd_ne ndb).trans D.top) ?_,?_⟩
   ·rw [List.length_map,List.length_take,sizeLine_eq];omega
   ·have nlb:∀x∈ns.take i,la x≠b:=fun x hx=>ne_fre fb (D.row x hx)
    refine ⟨⟨_,_,_,rfl⟩,Kp.new (Kp.new k2 fbH) fd,fun x=>if x=n then b else la x,?_,fun x hx=>?_,fun x hx=>?_,fun x hx y hy e=>?_,fd,fun x hx=>?_⟩
    ·rw [upd_same,zDj _ ni,zAi en]
     have:dT1 (ns.take i) (fun n=>V.ref (la n))=dT1 (ns.take i) (fun x=>V.ref (if x=n then b else la x)):=zG2 fun x hx=>by rw [if_neg fun (z:x=n)=>ni (z▸hx)]
     rw [this]
     unfold dT1
     rw [List.map_append]
     simp
    ·rw [zAi en] at hx
     by_cases z:x=n
     ·rw [if_pos z]
      exact (upd_ne ndb.symm).trans upd_same
     ·rw [if_neg z]
      have hx':x∈ns.take i:=by
       rcases List.mem_append.mp hx with y| y
       ·exact y
       ·exact absurd (List.mem_singleton.mp y) z
      exact (upd_ne (D.ne x hx')).trans ((upd_ne (nlb x hx')).trans (D.row x hx'))
    ·rw [zAi en] at hx
     by_cases z:x=n
     ·rw [if_pos z];exact ndb.symm
     ·rw [if_neg z]
      rcases List.mem_append.mp hx with y| y
      ·exact D.ne x y
      ·exact absurd (List.mem_singleton.mp y) z
    ·rw [zAi en] at hx hy
     have mem:∀x,x∈ns.take i++[n]->x≠n->x∈ns.take i:=fun x hx z=>by
      rcases List.mem_append.mp hx with y| y
      ·exact y
      ·exact absurd (List.mem_singleton.mp y) z
     by_cases z:x=n
     ·by_cases z':y=n
      ·rw [z,z']
      ·rw [if_pos z,if_neg z'] at e
       exact absurd e.symm (nlb y (mem y hy z'))
     ·by_cases z':y=n
      ·rw [if_neg z,if_pos z'] at e
       exact absurd e (nlb x (mem x hx z))
      ·rw [if_neg z,if_neg z'] at e
       exact D.inj x (mem x hx z) y (mem y hy z') e
    ·rw [zAi en] at hx
     by_cases z:x=n
     ·rw [if_pos z];exact fbH
     ·rw [if_neg z]
      rcases List.mem_append.mp hx with y| y
      ·exact D.frs x y
      ·exact absurd (List.mem_singleton.mp y) z
  ·rintro σ H2 ⟨⟨o3,o4,o5,rfl⟩,k2,la,D⟩
   have eN:ns.take (ns.map V.str).length=ns:=by rw [List.length_map,List.take_length]
   rw [eN] at D
   refine ⟨_,rfl,_,rfl,⟨_,SqL.of (k2 m _ hm.top (by simp))⟩,zAy (fun i σ H3=>(∃o3 o4 o5:Option V,σ=[some (.ref l),some (.ref m),some (.ref d),o3,o4,o5])/\Kp [] H H3/\DL H H3 d ns la (told (qs.take i)))
    ⟨⟨_,_,_,rfl⟩,k2,D⟩ (fun i σ H3 _ ⟨_,k3,_⟩=>SqL.of (k3 m _ hm.top (by simp))) ?_ ?_⟩
   ·rintro i v σ H3 hv ⟨⟨o3,o4,o5,rfl⟩,k3,D⟩
    obtain ⟨q,eq,rfl⟩:=ref_at hv
    have mq:=List.mem_of_getElem? eq
    obtain ⟨a,b,eab⟩:=hm.two q mq
    have hrow:H3 q.2=some (.tup [.str a,.str b]):=by
     have:=k3 q.2 _ (hm.row q mq) (by simp)
     rw [eab] at this;exact this
    have hb:b∈ns:=hq q mq b (by rw [eab];simp)
    have esnd:snd q=b:=by unfold snd;rw [eab];rfl
    have efst:fst q=a:=by unfold fst;rw [eab];rfl
    refine ⟨_,_,rfl,.inl (.inl hrow),rfl,_,_,rfl,_,_,rfl,rfl,?_⟩
    refine ⟨_,rfl,_,rfl,_,.ref (la b),rfl,?_,.inl ⟨rfl,_,SqL.of (D.row b hb)⟩,_,rfl,_,_,_,rfl,rfl,D.row b hb,?_,?_⟩
    ·have:=DGet.k (k:=Sum.inr b) D.top
     rw [zBu,if_pos hb] at this;exact this
    ·have:=told_len (qs.take i) b
     rw [List.length_take] at this
     rw [List.length_map,sizeLine_eq];omega
    ·refine ⟨⟨_,_,_,rfl⟩,Kp.new k3 (D.frs b hb),?_⟩
     rw [zAi eq]
     refine ⟨(upd_ne (D.ne b hb).symm).trans D.top,fun x hx=>?_,D.ne,D.inj,D.fr,D.frs⟩
     show upd H3 (la b) _ (la x)=some (.lst ((told (qs.take i++[q]) x).map V.str))
     rw [told_snoc,esnd,efst]
     by_cases z:b=x
     ·subst z
      rw [if_pos rfl,upd_same,List.map_append];rfl
     ·rw [if_neg z,upd_ne fun y=>z (D.inj b hb x hx y.symm)]
      exact D.row x hx
   ·rintro σ H3 ⟨⟨o3,o4,o5,rfl⟩,k3,D⟩
    have eQ:qs.take (qs.map fun q=>V.ref q.2).length=qs:=by rw [List.length_map,List.take_length]
    rw [eQ] at D
    exact ⟨_,rfl,k d la H3 D k3⟩
end
def addA (A:List Str) (x:Str):List Str:=if x∈A then A else A++[x]
theorem mem_addA {A:List Str} {x y:Str}:y∈addA A x↔y∈A\/y=x:=by
 unfold addA
 by_cases h:x∈A
 ·rw [if_pos h]
  exact ⟨.inl,fun z=>z.elim id fun e=>e▸h⟩
 ·rw [if_neg h];simp
theorem zHq {A:List Str} {x:Str} (h:A.Nodup):(addA A x).Nodup:=by
 unfold addA
 by_cases hx:x∈A
 ·rw [if_pos hx];exact h
 ·rw [if_neg hx]
  refine List.nodup_append.mpr ⟨h,by simp,fun a ha b hb=>?_⟩
  rw [List.mem_singleton.mp hb]
  rintro rfl
  exact hx ha
theorem zEw {y:Str}:∀(B A:List Str),y∈B.foldl addA A↔y∈A\/y∈B
 | [],A=>by simp
 | b::B,A=>by
  rw [List.foldl_cons,zEw B (addA A b),mem_addA,List.mem_cons,or_assoc]
theorem zGt:∀(B A:List Str),A.Nodup->(B.foldl addA A).Nodup
 | [],A,h=>h
 | b::B,A,h=>zGt B _ (zHq h)
def zBz (S:Str->List Str) (ms:List Str):List Str:=ms.foldl (fun A m=>(S m).foldl addA (addA A m)) []
theorem joinA_snoc (S:Str->List Str) (ms:List Str) (m:Str):zBz S (ms++[m])=(S m).foldl addA (addA (zBz S ms) m):=by unfold zBz;rw [List.foldl_append];rfl
theorem zHr {S:Str->List Str} {y:Str}:∀(ms A:List Str),y∈ms.foldl (fun A m=>(S m).foldl addA (addA A m)) A↔y∈A\/y∈ms\/∃m∈ms,y∈S m
 | [],A=>by simp
 | m::ms,A=>by
  rw [List.foldl_cons,zHr ms,zEw,mem_addA]
  constructor
  ·rintro (((h| h)| h)| h| ⟨q,h1,h2⟩)
   ·exact .inl h
   ·exact .inr (.inl (h▸List.mem_cons_self))
   ·exact .inr (.inr ⟨m,List.mem_cons_self,h⟩)
   ·exact .inr (.inl (List.mem_cons_of_mem _ h))
   ·exact .inr (.inr ⟨q,List.mem_cons_of_mem _ h1,h2⟩)
  ·rintro (h| h| ⟨q,h1,h2⟩)
   ·exact .inl (.inl (.inl h))
   ·rcases List.mem_cons.mp h with e| e
    ·exact .inl (.inl (.inr e))
    ·exact .inr (.inl e)
   ·rcases List.mem_cons.mp h1 with e| e
    ·exact .inl (.inr (e▸h2))
    ·exact .inr (.inr ⟨q,e,h2⟩)
theorem zGu {S:Str->List Str} {ms:List Str} {y:Str}:y∈zBz S ms↔y∈ms\/∃m∈ms,y∈S m:=by
 unfold zBz
 rw [zHr];simp
theorem zFp {S:Str->List Str}:∀(ms A:List Str),A.Nodup->(ms.foldl (fun A m=>(S m).foldl addA (addA A m)) A).Nodup
 | [],A,h=>h
 | m::ms,A,h=>zFp ms _ (zGt _ _ (zHq h))
theorem zGs (S:Str->List Str) (ms:List Str):(zBz S ms).Nodup:=zFp ms [] List.nodup_nil
theorem zD7:∀{A B:List Str},A.Nodup->(∀x∈A,x∈B)->A.length<=B.length
 | [],B,_,_=>Nat.zero_le _
 | a::A,B,h,hs=>by
  obtain ⟨h1,h2⟩:=List.nodup_cons.mp h
  have hb:=hs a List.mem_cons_self
  have:=zD7 (B:=B.erase a) h2 fun x hx=>(List.mem_erase_of_ne fun e=>h1 (by rw [<-e];exact hx)).mpr (hs x (List.mem_cons_of_mem _ hx))
  rw [List.length_erase_of_mem hb] at this
  have:=List.length_pos_of_mem hb
  rw [List.length_cons];omega
abbrev SetD (H:Hp) (e:Addr) (A:List Str):Prop:=H e=some (.dK (dT1 A fun _=>.bl true))
theorem put_set (A:List Str) (x:Str):putK (dT1 A fun _=>.bl true) (.inr x) (.bl true)=dT1 (addA A x) fun _=>.bl true:=by
 unfold addA
 by_cases h:x∈A
 ·rw [if_pos h]
  unfold putK
  rw [zDt,zBu,if_pos h]
  refine (if_pos (by rfl)).trans ?_
  unfold dT1
  rw [List.map_map]
  refine List.map_congr_left fun y _=>?_
  show (if (Sum.inr y:Key)=Sum.inr x then ((Sum.inr y:Key),V.bl true) else (Sum.inr y,V.bl true))=_
  split<;>rfl
 ·rw [if_neg h,zDj _ h]
  unfold dT1
  rw [List.map_append];rfl
theorem mrg_set:∀(B A:List Str),mrg (dT1 A fun _=>.bl true) (dT1 B fun _=>.bl true)=dT1 (B.foldl addA A) fun _=>.bl true
 | [],A=>rfl
 | b::B,A=>by
  show mrg (putK (dT1 A fun _=>.bl true) (.inr b) (.bl true)) (dT1 B fun _=>.bl true)=_
  rw [put_set,mrg_set B];rfl
section
variable {P:Program} {w:World} {K:PySem.W.Frag} {mg:Str->Option Value} {base:Heap}
def spHasAll:Sp:=fun vs H Q _=>∃(d l:Addr) (kvs:List (Key×V)) (ms:List Str),vs=[.ref d,.ref l]/\H d=some (.dK kvs)/\Txs H l ms/\ms.length<=4096/\∀H',Kp [] H H'->Q (.bl (ms.all fun m=>(valV kvs (.inr m)).isSome)) H'
abbrev zEm:Stmt:=top 36
theorem sc_has_all:FnScope ["done", "names"] ["done", "names"] (zAe zEm):=⟨rfl,rfl,rfl,by decide +kernel,rfl,by decide +kernel,by decide +kernel⟩
theorem ok_has_all {f:Addr} {fd:FuncData} (F:Fun K "has_all" "has_all" zEm f fd) (T:Txt K mg):FnOk P w K mg base CX0 1 f fd ["done", "names"] spHasAll:=by
 refine F.ok sc_has_all (fun vs H Q E h=>?_) (fun cdv A outer s H vs Q E hr h=>?_)
 ·obtain ⟨d,l,kvs,ms,rfl,_⟩:=h
  rfl
 ·obtain ⟨d,l,kvs,ms,rfl,hd,hl,hz,k⟩:=h
  have hu:=zEy hr
  refine ⟨_,(zAd (zAs (zAl (zIx _ rfl) (by rfl) T.z_all bo_all (zAa (zBh rfl (zBj (sc:=zAe zEm) rfl (by decide +kernel)) (Draws.own (x:= "name") (Draws.tk (i:=0) rfl (by walk_at "vs") (by walk_at "vk") (by walk_at "vf") Draws.nil)) (zAm (pv 1)) (fun C s₀ H₀ ex=>(zAh (i:=0) (show List.Nodup (["name", "done"]:List Str) by decide +kernel) rfl (by walk_at "lc"))) (fun C s₀ H₀ ex=>zDk) (fun C s₀ H₀ ex=>(pe_cmp (zHp hu (pv 0) (pv 1))))) zAc)))),?_⟩
  refine ⟨_,rfl,_,rfl,⟨_,SqL.of hl⟩,fun D hD=>zB1 (ms.map V.str) (fun i ys τ H'=>(∃o0,τ=[o0,some (.ref d)])/\ys=((ms.take i).map fun m=>V.bl (valV kvs (.inr m)).isSome)/\H'=upd H D (.lst ys)) ⟨⟨_,rfl⟩,rfl,rfl⟩ (fun i ys τ H' ⟨_,_,e⟩=>by subst e;exact SqL.of ((upd_ne (ne_fre (show Fre H D from hD) hl)).trans hl)) ?_ ?_⟩
  ·rintro i v ys τ H' hv ⟨⟨o0,rfl⟩,rfl,rfl⟩
   obtain ⟨m,em,rfl⟩:=zBm hv
   refine ⟨_,rfl,_,rfl,_,_,rfl,DGet.k (k:=Sum.inr m) ((upd_ne (ne_fre (show Fre H D from hD) hd)).trans hd),upd_same,?_,⟨_,rfl⟩,?_,zBg⟩
   ·rw [List.length_map,List.length_take,sizeLine_eq];omega
   ·rw [zAi em,List.map_append];rfl
  ·rintro ys τ H' ⟨_,rfl,rfl⟩
   have eM:ms.take (ms.map V.str).length=ms:=by rw [List.length_map,List.take_length]
   refine ⟨D,ms.map fun m=>(valV kvs (.inr m)).isSome,rfl,SqL.of ?_,?_⟩
   ·rw [upd_same,eM,List.map_map];rfl
   ·rw [List.all_map]
    exact k _ (Kp.new Kp.refl hD)
def spJoined:Sp:=fun vs H Q _=>∃(l d:Addr) (ms D0 ns:List Str) (fa:Str->Addr) (S:Str->List Str),vs=[.ref l,.ref d]/\Txs H l ms/\H d=some (.dK (dT1 D0 fun n=>.ref (fa n)))/\(∀m∈ms,m∈D0/\m∈ns/\SetD H (fa m) (S m)/\∀x∈S m,x∈ns)/\ns.length<=20/\(∀m∈ms,(S m).length<=20) /\
 ∀e H',Fre H e->SetD H' e (zBz S ms)->Kp [] H H'->Q (.ref e) H'
abbrev zH9:Stmt:=top 38
theorem zGc:FnScope ["near", "far", "found", "name"] ["near", "far"] (zAe zH9):=⟨rfl,rfl,rfl,by decide +kernel,rfl,by decide +kernel,by decide +kernel⟩
theorem ok_joined {f:Addr} {fd:FuncData} (F:Fun K "joined" "joined" zH9 f fd):FnOk P w K mg base CX0 1 f fd ["near", "far"] spJoined:=by
 refine F.ok zGc (fun vs H Q E h=>?_) (fun cdv A outer s H vs Q E hr h=>?_)
 ·obtain ⟨l,d,ms,D0,ns,fa,S,rfl,_⟩:=h
  rfl
 ·obtain ⟨l,d,ms,D0,ns,fa,S,rfl,hl,hd,hm,hn,hS,k⟩:=h
  have hu:=zEy hr
  refine ⟨_,(zAb (zAj (i:=2) zGc.nd rfl (by walk_at "lc") zCd)
   (zAb (zAx PassesOwn.never rfl (zAm (pv 0)) (zAh (i:=3) zGc.nd rfl (by walk_at "lc"))
    (zAb (zB9 hu (pv 2) (pv 3) pe_bl rfl)
    (zAd (zA4 (zEq PySem.F.plainAttrs_dict PySem.F.slot_dict_update PySem.F.type_dict_update mt_dupd (pv 2) (zAa (zBa hu (pv 1) (pv 3) (fun _ _=>rfl)) zAc))))))
   (zAd (zAs (pv 2))))),?_⟩
  refine fun e he=>?_
  have fe:Fre H e:=he
  have hsub:∀i x,x∈zBz S (ms.take i)->x∈ns:=fun i x hx=>by
   rcases zGu.mp hx with z| ⟨m,z,z'⟩
   ·exact (hm x (List.mem_of_mem_take z)).2.1
   ·exact (hm m (List.mem_of_mem_take z)).2.2.2 x z'
  have hlen:∀i,(zBz S (ms.take i)).length<=20:=fun i=>Nat.le_trans (zD7 (zGs S _) (hsub i)) hn
  refine ⟨_,rfl,_,rfl,⟨_,SqL.of ((Kp.new (M:=[]) Kp.refl fe) l _ hl (by simp))⟩,zAy (fun i σ H2=>(∃o3:Option V,σ=[some (.ref l),some (.ref d),some (.ref e),o3])/\Kp [] H H2/\SetD H2 e (zBz S (ms.take i)))
   ⟨⟨_,rfl⟩,Kp.new Kp.refl fe,upd_same⟩ (fun i σ H2 _ ⟨_,k2,_⟩=>SqL.of (k2 l _ hl (by simp))) ?_ ?_⟩
  ·rintro i v σ H2 hv ⟨⟨o3,rfl⟩,k2,h2⟩
   obtain ⟨m,em,rfl⟩:=zBm hv
   obtain ⟨m1,m2,m3,m4⟩:=hm m (List.mem_of_getElem? em)
   have l2:=hlen i
   refine ⟨_,rfl,_,rfl,_,_,rfl,DPut.k (k:=Sum.inr m) h2 (by rw [List.length_map,sizeLine_eq];omega),?_⟩
   rw [put_set]
   have k3:Kp [] H (upd H2 e (.dK (dT1 (addA (zBz S (ms.take i)) m) fun _=>.bl true))):=Kp.new k2 fe
   have nfa:fa m≠e:=ne_fre fe m3
   refine ⟨_,rfl,.inr (.inr (.inl ⟨rfl,.inl ⟨_,upd_same⟩⟩)),_,rfl,_,rfl,_,.ref (fa m),rfl,?_,_,fa m,_,_,rfl,rfl,upd_same,k3 _ _ m3 (by simp),nfa.symm,?_,?_⟩
   ·have:=DGet.k (k:=Sum.inr m) (k3 d _ hd (by simp))
    rw [zBu,if_pos m1] at this;exact this
   ·have:=hS m (List.mem_of_getElem? em)
    rw [List.length_map,List.length_map,sizeLine_eq]
    have:(addA (zBz S (ms.take i)) m).length<=(zBz S (ms.take i)).length+1:=by
     unfold addA
     split
     ·omega
     ·rw [List.length_append];exact Nat.le_refl _
    omega
   ·rw [mrg_set]
    refine ⟨⟨_,rfl⟩,Kp.new k3 fe,?_⟩
    rw [zAi em,joinA_snoc]
    exact upd_same
  ·rintro σ H2 ⟨⟨o3,rfl⟩,k2,h2⟩
   have eM:ms.take (ms.map V.str).length=ms:=by rw [List.length_map,List.take_length]
   rw [eM] at h2
   exact ⟨_,rfl,k e H2 fe h2 k2⟩
end
structure Fp (H0 H:Hp) (e:Addr) (ns D:List Str) (fa:Str->Addr) (S f:Str->List Str):Prop where
 top:H e=some (.dK (dT1 D fun n=>.ref (fa n)))
 nd:D.Nodup
 sub:∀n∈D,n∈ns
 row:∀n∈D,SetD H (fa n) (S n)
 snd:∀n∈D,(S n).Nodup
 sns:∀n∈D,∀x∈S n,x∈ns
 mem:∀n∈D,∀x,x∈S n↔x∈f n\/∃m∈f n,x∈S m
 cl:∀n∈D,∀x∈f n,x∈D
 ne:∀n∈D,fa n≠e
 fr:Fre H0 e
 frs:∀n∈D,Fre H0 (fa n)
theorem Fp.kp {H0 H H':Hp} {e:Addr} {ns D:List Str} {fa:Str->Addr} {S f:Str->List Str} (F:Fp H0 H e ns D fa S f) (k:Kp [] H H'):Fp H0 H' e ns D fa S f :=
 ⟨k e _ F.top (by simp),F.nd,F.sub,fun n hn=>k _ _ (F.row n hn) (by simp),F.snd,F.sns,F.mem,F.cl,F.ne,F.fr,F.frs⟩
theorem Fp.more {H0 H:Hp} {e b:Addr} {ns D:List Str} {fa:Str->Addr} {S f:Str->List Str} {n:Str} (F:Fp H0 H e ns D fa S f) (hn:n∈ns) (hD:n∉D) (hf:∀x∈f n,x∈D) (hs:∀x∈f n,x∈ns) (hb:SetD H b (zBz S (f n))) (nb:b≠e) (fb:Fre H0 b) :
  Fp H0 (upd H e (.dK (putK (dT1 D fun n=>.ref (fa n)) (.inr n) (.ref b)))) e ns (D++[n]) (fun x=>if x=n then b else fa x) (fun x=>if x=n then zBz S (f n) else S x) f:=by
 have hx:∀x∈D,¬x=n:=fun x h z=>hD (z▸h)
 have cs:∀x,x∈D++[n]->x∈D\/x=n:=fun x h=>by
  rcases List.mem_append.mp h with z| z
  ·exact .inl z
  ·exact .inr (List.mem_singleton.mp z)
 have eqS:∀{x},x∈D->(if x=n then zBz S (f n) else S x)=S x:=fun {x} h=>if_neg (hx x h)
 have eqn:(if n=n then zBz S (f n) else S n)=zBz S (f n):=if_pos rfl
 refine ⟨?_,?_,fun x h=>?_,fun x h=>?_,fun x h=>?_,fun x h y hy=>?_,fun x h y=>?_,fun x h y hy=>?_,fun x h=>?_,F.fr,fun x h=>?_⟩
 ·rw [upd_same,zDj _ hD]
  have:dT1 D (fun n=>V.ref (fa n))=dT1 D (fun x=>V.ref (if x=n then b else fa x)):=zG2 fun x h=>by rw [if_neg (hx x h)]
  rw [this]
  unfold dT1
  rw [List.map_append];simp
 ·refine List.nodup_append.mpr ⟨F.nd,by simp,fun a ha c hc=>?_⟩
  rw [List.mem_singleton.mp hc]
  exact hx a ha
 ·rcases cs x h with z| z
  ·exact F.sub x z
  ·rw [z];exact hn
 ·rcases cs x h with z| z
  ·show upd H e _ (if x=n then b else fa x)=some (.dK (dT1 (if x=n then zBz S (f n) else S x) fun _=>.bl true))
   rw [if_neg (hx x z),if_neg (hx x z),upd_ne (F.ne x z)];exact F.row x z
  ·subst z
   show upd H e _ (if x=x then b else fa x)=some (.dK (dT1 (if x=x then zBz S (f x) else S x) fun _=>.bl true))
   rw [if_pos rfl,if_pos rfl,upd_ne nb];exact hb
 ·rcases cs x h with z| z
  ·show (if x=n then zBz S (f n) else S x).Nodup
   rw [eqS z];exact F.snd x z
  ·subst z
   show (if x=x then zBz S (f x) else S x).Nodup
   rw [if_pos rfl];exact zGs _ _
 ·rcases cs x h with z| z
  ·have hy:y∈(if x=n then zBz S (f n) else S x):=hy
   rw [eqS z] at hy;exact F.sns x z y hy
  ·subst z
   have hy:y∈(if x=x then zBz S (f x) else S x):=hy
   rw [if_pos rfl] at hy
   rcases zGu.mp hy with q| ⟨m,q1,q2⟩
   ·exact hs y q
   ·exact F.sns m (hf m q1) y q2
 ·rcases cs x h with z| z
  ·show y∈(if x=n then zBz S (f n) else S x)↔y∈f x\/∃m∈f x,y∈(if m=n then zBz S (f n) else S m)
   rw [eqS z,F.mem x z y]
   constructor
   ·rintro (q| ⟨m,q1,q2⟩)
    ·exact .inl q
    ·exact .inr ⟨m,q1,by rw [eqS (F.cl x z m q1)];exact q2⟩
   ·rintro (q| ⟨m,q1,q2⟩)
    ·exact .inl q
    ·rw [eqS (F.cl x z m q1)] at q2
     exact .inr ⟨m,q1,q2⟩
  ·subst z
   show y∈(if x=x then zBz S (f x) else S x)↔y∈f x\/∃m∈f x,y∈(if m=x then zBz S (f x) else S m)
   rw [if_pos rfl,zGu]
   constructor
   ·rintro (q| ⟨m,q1,q2⟩)
    ·exact .inl q
    ·exact .inr ⟨m,q1,by rw [eqS (hf m q1)];exact q2⟩
   ·rintro (q| ⟨m,q1,q2⟩)
    ·exact .inl q
    ·rw [eqS (hf m q1)] at q2
     exact .inr ⟨m,q1,q2⟩
 ·rcases cs x h with z| z
  ·exact List.mem_append_left _ (F.cl x z y hy)
  ·subst z
   exact List.mem_append_left _ (hf y hy)
 ·rcases cs x h with z| z
  ·show (if x=n then b else fa x)≠e
   rw [if_neg (hx x z)];exact F.ne x z
  ·subst z
   show (if x=x then b else fa x)≠e
   rw [if_pos rfl];exact nb
 ·rcases cs x h with z| z
  ·show Fre H0 (if x=n then b else fa x)
   rw [if_neg (hx x z)];exact F.frs x z
  ·subst z
   show Fre H0 (if x=x then b else fa x)
   rw [if_pos rfl];exact fb
theorem least_one (r:Str->Nat):∀(L:List Str),L≠[]->∃n∈L,∀m∈L,r n<=r m
 | [],h=>absurd rfl h
 | [x],_=>⟨x,by simp,fun m hm=>by rw [List.mem_singleton.mp hm];exact Nat.le_refl _⟩
 | x::y::L,_=>by
  obtain ⟨n,hn,h⟩:=least_one r (y::L) (by simp)
  by_cases c:r x<=r n
  ·refine ⟨x,List.mem_cons_self,fun m hm=>?_⟩
   rcases List.mem_cons.mp hm with z| z
   ·rw [z];exact Nat.le_refl _
   ·exact Nat.le_trans c (h m z)
  ·refine ⟨n,List.mem_cons_of_mem _ hn,fun m hm=>?_⟩
   rcases List.mem_cons.mp hm with z| z
   ·rw [z];omega
   ·exact h m z
theorem filter_lt {α:Type} {p:α->Bool} {x:α}:∀{L:List α},x∈L->p x=false->(L.filter p).length<L.length
 | a::L,h,hp=>by
  rcases List.mem_cons.mp h with z| z
  ·subst z
   rw [List.filter_cons,if_neg (by rw [hp];decide),List.length_cons]
   exact Nat.lt_succ_of_le (List.length_filter_le _ _)
  ·have:=filter_lt z hp
   rw [List.filter_cons,List.length_cons]
   split
   ·rw [List.length_cons];omega
   ·omega
theorem zFf (D:List Str) (g:Str->V) (x:Str):(valV (dT1 D g) (.inr x)).isSome=decide (x∈D):=by
 rw [zBu]
 by_cases h:x∈D
 ·rw [if_pos h,decide_eq_true h];rfl
 ·rw [if_neg h,decide_eq_false h];rfl
section
variable {P:Program} {w:World} {K:PySem.W.Frag} {mg:Str->Option Value} {base:Heap}
def zHl:Sp:=fun vs H Q _=>∃(l d:Addr) (ns:List Str) (la:Str->Addr) (f:Str->List Str) (r:Str->Nat),vs=[.ref l,.ref d]/\Txs H l ns/\ns.Nodup/\ns.length<=20/\H d=some (.dK (dT1 ns fun n=>.ref (la n)))/\(∀n∈ns,Txs H (la n) (f n)/\(f n).length<=4096/\∀x∈f n,x∈ns/\r x<r n) /\
 ∀e D fa S H',Fp H H' e ns D fa S f->(∀n∈ns,n∈D)->Kp [] H H'->Q (.ref e) H'
abbrev zCg:Stmt:=top 37
theorem zBs:FnScope ["names", "told", "far", "left", "free", "name"] ["names", "told"] (zAe zCg):=⟨rfl,rfl,rfl,by decide +kernel,rfl,by decide +kernel,by decide +kernel⟩
def leftN (σ:St) (H:Hp):Nat:=match (σ[3]?:Option (Option V)) with
 | some (some (.ref a))=>match H a with
  | some (.lst xs)=>xs.length
  | _=>0
 | _=>0
theorem ok_all_ahead {f:Addr} {fd:FuncData} (F:Fun K "all_ahead" "all_ahead" zCg f fd) (T:Txt K mg) (C_has_all:Cal P w K mg base "has_all" 1 ["done", "names"] spHasAll) (C_joined:Cal P w K mg base "joined" 1 ["near", "far"] spJoined):FnOk P w K mg base CX0 2 f fd ["names", "told"] zHl:=by
 refine F.ok zBs (fun vs H Q E h=>?_) (fun cdv A outer s H vs Q E hr h=>?_)
 ·obtain ⟨l,d,ns,la,f,r,rfl,_⟩:=h
  rfl
 ·obtain ⟨l,d,ns,la,f,r,rfl,hl,hN,hn,hd,hf,k⟩:=h
  have hu:=zEy hr
  have HR_has_all:=hr
  have HR_joined:=hr
  refine ⟨_,(zAb (zAj (i:=2) zBs.nd rfl (by walk_at "lc") zCd)
   (zAb (zAj (i:=3) zBs.nd rfl (by walk_at "lc") (zAq zB7 (by rfl) T.z_list zFk (zAa (pv 0) zAc)))
   (zAb (zIb PassesOwn.never (zIa (pv 3) (fun _=>rfl))
    (zAb (zFa (i:=4) rfl (zBj (sc:=zAe zCg) rfl (by decide +kernel)) (Draws.own (x:= "name") (Draws.tk (i:=2) rfl (by walk_at "vs") (by walk_at "vk") (by walk_at "vf") (Draws.tk (i:=1) rfl (by walk_at "vs") (by walk_at "vk") (by walk_at "vf") Draws.nil))) (zAm (pv 3)) (fun C s₀ H₀ ex=>(zAh (i:=0) (show List.Nodup (["name", "far", "told"]:List Str) by decide +kernel) rfl (by walk_at "lc"))) (fun C s₀ H₀ ex=>(zBr (zD4 (zAg C_has_all HR_has_all rfl (zAa (pv 1) (zAa (zBa hu (pv 2) (pv 0) (fun _ _=>rfl)) zAc)))))) (fun C s₀ H₀ ex=>(pv 0)) zBs.nd rfl rfl)
    (zAb (zCb (zD5 (zIa (pv 4) (fun _=>rfl)))
     (zAd zBp)
     zAw)
    (zAb (zAx PassesOwn.never rfl (zAm (pv 4)) (zAh (i:=5) zBs.nd rfl (by walk_at "lc"))
     (zAd (zB9 hu (pv 2) (pv 5) (zAg C_joined HR_joined rfl (zAa (zBa hu (pv 1) (pv 5) (fun _ _=>rfl)) (zAa (pv 2) zAc))) rfl)))
    (zAd (zFa (i:=3) rfl (zBj (sc:=zAe zCg) rfl (by decide +kernel)) (Draws.own (x:= "name") (Draws.tk (i:=2) rfl (by walk_at "vs") (by walk_at "vk") (by walk_at "vf") Draws.nil)) (zAm (pv 3)) (fun C s₀ H₀ ex=>(zAh (i:=0) (show List.Nodup (["name", "far"]:List Str) by decide +kernel) rfl (by walk_at "lc"))) (fun C s₀ H₀ ex=>(zBr (zFo (zGo hu (pv 0) (pv 1))))) (fun C s₀ H₀ ex=>(pv 0)) zBs.nd rfl rfl))))))
   (zAd (zAs (pv 2)))))),?_⟩
  refine fun e he=>?_
  have fe:Fre H e:=he
  refine ⟨_,rfl,_,_,rfl,.inl (SqL.of ((Kp.new (M:=[]) Kp.refl fe) l _ hl (by simp))),fun lf hlf=>?_⟩
  have k0:Kp [] H (upd H e (.dK [])):=Kp.new Kp.refl fe
  have flf:Fre H lf:=k0.fre hlf (by simp)
  have nel:e≠lf:=ne_fre (show Fre (upd H e (.dK [])) lf from hlf) upd_same
  show tWhile (fun σ H Q=>tVar 3 σ H fun x H'=>∃k,TruV K x H' k/\Q k H') _ _ _ _
  refine zHy (fun σ H2=>∃(lf:Addr) (D:List Str) (fa:Str->Addr) (S:Str->List Str) (o4 o5:Option V),σ=[some (.ref l),some (.ref d),some (.ref e),some (.ref lf),o4,o5]/\Kp [] H H2/\Fp H H2 e ns D fa S f/\Txs H2 lf (ns.filter fun n=>decide (n∉D))) leftN
   ⟨lf,[],fun _=>0,fun _=>[],none,none,rfl,Kp.new k0 flf,⟨(upd_ne nel).trans upd_same,List.nodup_nil,(fun n h=>nomatch h),(fun n h=>nomatch h),(fun n h=>nomatch h),(fun n h=>nomatch h),(fun n h=>nomatch h),(fun n h=>nomatch h),(fun n h=>nomatch h),fe,(fun n h=>nomatch h)⟩,by
    have ef:(ns.filter fun n=>decide (n∉([]:List Str)))=ns:=by simp
    show upd _ lf _ lf=some (.lst ((ns.filter fun n=>decide (n∉([]:List Str))).map V.str))
    rw [ef];exact upd_same⟩ ?_ (fun σ H Q Q' hq hc=>by
    obtain ⟨x,e,b,t,q⟩:=hc
    exact ⟨x,e,b,t,hq _ _ q⟩)
  rintro σ H2 ⟨lf,D,fa,S,o4,o5,rfl,k2,FP,hlf⟩
  refine ⟨_,rfl,_,.inl ⟨_,SqL.of hlf,rfl⟩,?_⟩
  have hLs:∀n,n∈(ns.filter fun n=>decide (n∉D))↔n∈ns/\n∉D:=fun n=>by simp [List.mem_filter]
  have hLl:(ns.filter fun n=>decide (n∉D)).length<=20:=Nat.le_trans (List.length_filter_le _ _) hn
  generalize hL:(ns.filter fun n=>decide (n∉D))=L at *
  refine ite2 (fun c=>?_) (fun c=>?_)
  ·have cL:L≠[]:=fun z=>by rw [z] at c;simp at c
   refine ⟨_,rfl,_,rfl,⟨_,SqL.of hlf⟩,fun B hB=>zBb (L.map V.str) (fun i ys τ H3=>(∃o0,τ=[o0,some (.ref e),some (.ref d)])/\ys=((L.take i).filter fun n=>(f n).all fun m=>decide (m∈D)).map V.str/\Kp [] H2 H3/\H3 B=some (.lst ys))
    ⟨⟨_,rfl⟩,rfl,Kp.new Kp.refl hB,upd_same⟩ (fun i ys τ H3 ⟨_,_,k3,_⟩=>SqL.of (k3 lf _ hlf (by simp))) ?_ ?_⟩
   ·rintro i v ys τ H3 hv ⟨⟨o0,rfl⟩,rfl,k3,h3⟩
    obtain ⟨n,en,rfl⟩:=zBm hv
    have mn:=(hLs n).mp (List.mem_of_getElem? en)
    obtain ⟨n1,n2,n3⟩:=hf n mn.1
    have k23:=k2.trans k3
    refine ⟨_,rfl,_,rfl,_,rfl,_,.ref (la n),rfl,?_,e,la n,_,f n,rfl,k3 e _ FP.top (by simp),k23 _ _ n1 (by simp),n2,fun H4 k4=>?_⟩
    ·have:=DGet.k (k:=Sum.inr n) (k23 d _ hd (by simp))
     rw [zBu,if_pos mn.1] at this;exact this
    have eall:((f n).all fun m=>(valV (dT1 D fun n=>V.ref (fa n)) (.inr m)).isSome)=(f n).all fun m=>decide (m∈D):=by
     congr 1;funext m;exact zFf D _ m
    rw [eall]
    have h4:=k4 B _ h3 (by simp)
    have et:=zAi en
    refine ⟨_,rfl,ite2 (fun c=>?_) (fun c=>?_)⟩
    ·refine ⟨_,rfl,h4,?_,⟨_,rfl⟩,?_,Kp.new (k3.trans k4) hB,upd_same⟩
     ·rw [List.length_map,sizeLine_eq]
      have h1:=List.length_filter_le (fun n=>(f n).all fun m=>decide (m∈D)) (L.take i)
      rw [List.length_take] at h1
      omega
     ·rw [et,List.filter_append,List.map_append]
      have:[n].filter (fun n=>(f n).all fun m=>decide (m∈D))=[n]:=by rw [List.filter_cons,if_pos c];rfl
      rw [this];rfl
    ·refine ⟨⟨_,rfl⟩,?_,k3.trans k4,?_⟩
     ·rw [et,List.filter_append]
      have:[n].filter (fun n=>(f n).all fun m=>decide (m∈D))=[]:=by rw [List.filter_cons,if_neg c];rfl
      rw [this,List.append_nil]
     ·exact h4
   ·rintro ys τ H3 ⟨_,rfl,k3,h3⟩
    have eT:L.take (L.map V.str).length=L:=by rw [List.length_map,List.take_length]
    rw [eT] at h3
    have hFr:∀n,n∈(L.filter fun n=>(f n).all fun m=>decide (m∈D))↔n∈L/\∀m∈f n,m∈D:=fun n=>by simp [List.mem_filter]
    have hFl:(L.filter fun n=>(f n).all fun m=>decide (m∈D)).length<=20:=Nat.le_trans (List.length_filter_le _ _) hLl
    have hFn:(L.filter fun n=>(f n).all fun m=>decide (m∈D)).Nodup:=by
     have:L.Nodup:=by rw [<-hL];exact hN.sublist List.filter_sublist
     exact this.sublist List.filter_sublist
    have hF0:(L.filter fun n=>(f n).all fun m=>decide (m∈D))≠[]:=by
     obtain ⟨n,n1,n2⟩:=least_one r L cL
     refine List.ne_nil_of_mem ((hFr n).mpr ⟨n1,fun m hm=>?_⟩)
     have mn:=(hLs n).mp n1
     obtain ⟨q1,q2⟩:=(hf n mn.1).2.2 m hm
     apply Classical.byContradiction
     intro z
     have:=n2 m ((hLs m).mpr ⟨q1,z⟩)
     omega
    generalize hFE:(L.filter fun n=>(f n).all fun m=>decide (m∈D))=FR at *
    have k23:=k2.trans k3
    refine ⟨_,rfl,_,.inl ⟨_,SqL.of h3,rfl⟩,?_⟩
    have e0:(!(FR.map V.str).isEmpty)=true:=by
     cases FR with
     | nil=>exact absurd rfl hF0
     | cons _ _=>rfl
    rw [e0]
    refine iteF ?_
    refine ⟨_,rfl,_,rfl,⟨_,SqL.of h3⟩,zAy (fun i σ H4=>∃(fa:Str->Addr) (S:Str->List Str) (o5:Option V),σ=[some (.ref l),some (.ref d),some (.ref e),some (.ref lf),some (.ref B),o5]/\Kp [] H H4/\Fp H H4 e ns (D++FR.take i) fa S f/\Txs H4 lf L/\Txs H4 B FR)
     ⟨fa,S,_,rfl,k23,by rw [List.take_zero,List.append_nil];exact FP.kp k3,k3 lf _ hlf (by simp),h3⟩ (fun i σ H4 _ ⟨_,_,_,_,_,_,_,h⟩=>SqL.of h) ?_ ?_⟩
    ·rintro i v σ H4 hv ⟨fa4,S4,o5',rfl,k4,F4,hlf4,hB4⟩
     obtain ⟨n,en,rfl⟩:=zBm hv
     have mF:=(hFr n).mp (List.mem_of_getElem? en)
     have mn:=(hLs n).mp mF.1
     obtain ⟨n1,n2,n3⟩:=hf n mn.1
     have nD:n∉D++FR.take i:=fun z=>by
      rcases List.mem_append.mp z with y| y
      ·exact mn.2 y
      ·exact zDb hFn en y
     have fD:∀x∈f n,x∈D++FR.take i:=fun x hx=>List.mem_append_left _ (mF.2 x hx)
     refine ⟨_,rfl,_,rfl,_,.ref (la n),rfl,?_,_,rfl,la n,e,f n,D++FR.take i,ns,fa4,S4,rfl,k4 _ _ n1 (by simp),F4.top,fun m hm=>⟨fD m hm,(n3 m hm).1,F4.row m (fD m hm),F4.sns m (fD m hm)⟩,hn,fun m hm=>Nat.le_trans (zD7 (F4.snd m (fD m hm)) (F4.sns m (fD m hm))) hn,fun b H5 fb hb k5=>?_⟩
     ·have:=DGet.k (k:=Sum.inr n) (k4 d _ hd (by simp))
      rw [zBu,if_pos mn.1] at this;exact this
     have F5:=F4.kp k5
     have fbH:Fre H b:=k4.fre fb (by simp)
     refine ⟨_,rfl,_,rfl,_,_,rfl,DPut.k (k:=Sum.inr n) F5.top ?_,?_⟩
     ·have:=zD7 F5.nd F5.sub
      rw [List.length_map,sizeLine_eq];omega
     ·have FM:=F5.more mn.1 nD fD (fun x hx=>(n3 x hx).1) hb (Ne.symm (ne_fre fb F4.top)) fbH
      rw [List.append_assoc,<-zAi en] at FM
      exact ⟨_,_,_,rfl,Kp.new (k4.trans k5) fe,FM,(upd_ne (zBe hlf4 F4.top (fun z=>nomatch z))).trans (k5 lf _ hlf4 (by simp)),(upd_ne (zBe hB4 F4.top (fun z=>nomatch z))).trans (k5 B _ hB4 (by simp))⟩
    ·rintro σ H4 ⟨fa4,S4,o5',rfl,k4,F4,hlf4,hB4⟩
     have eF:FR.take (FR.map V.str).length=FR:=by rw [List.length_map,List.take_length]
     rw [eF] at F4
     refine ⟨_,rfl,_,rfl,⟨_,SqL.of hlf4⟩,fun G hG=>zBb (L.map V.str) (fun i ys τ H5=>(∃o0,τ=[o0,some (.ref e)])/\ys=((L.take i).filter fun n=>decide (n∉D++FR)).map V.str/\H5=upd H4 G (.lst ys))
      ⟨⟨_,rfl⟩,rfl,rfl⟩ (fun i ys τ H5 ⟨_,_,z⟩=>by subst z;exact SqL.of ((upd_ne (ne_fre (show Fre H4 G from hG) hlf4)).trans hlf4)) ?_ ?_⟩
     ·rintro i v ys τ H5 hv ⟨⟨o0,rfl⟩,rfl,rfl⟩
      obtain ⟨n,en,rfl⟩:=zBm hv
      refine ⟨_,rfl,_,rfl,_,_,rfl,DGet.k (k:=Sum.inr n) ((upd_ne (ne_fre (show Fre H4 G from hG) F4.top)).trans F4.top),_,rfl,?_⟩
      rw [zFf]
      have et:=zAi en
      refine ite2 (fun c=>?_) (fun c=>?_)
      ·have c':n∉D++FR:=fun z=>by rw [decide_eq_true z] at c;exact nomatch c
       refine ⟨_,rfl,upd_same,?_,⟨_,rfl⟩,?_,zBg⟩
       ·rw [List.length_map,sizeLine_eq]
        have h1:=List.length_filter_le (fun n=>decide (n∉D++FR)) (L.take i)
        rw [List.length_take] at h1
        omega
       ·rw [et,List.filter_append,List.map_append]
        have:[n].filter (fun n=>decide (n∉D++FR))=[n]:=by rw [List.filter_cons,if_pos (decide_eq_true c')];rfl
        rw [this];rfl
      ·have c':n∈D++FR:=by
        apply Classical.byContradiction
        intro z
        rw [decide_eq_false z] at c
        exact c rfl
       have e2:(L.take (i+1)).filter (fun n=>decide (n∉D++FR))=(L.take i).filter (fun n=>decide (n∉D++FR)):=by
        rw [et,List.filter_append]
        have:[n].filter (fun n=>decide (n∉D++FR))=[]:=by rw [List.filter_cons,if_neg (by rw [decide_eq_false (fun z=>z c')];decide)];rfl
        rw [this,List.append_nil]
       refine ⟨⟨_,rfl⟩,?_,?_⟩
       ·rw [e2]
       ·rfl
     ·rintro ys τ H5 ⟨_,rfl,rfl⟩
      have eT:L.take (L.map V.str).length=L:=by rw [List.length_map,List.take_length]
      rw [eT]
      have nGe:e≠G:=ne_fre (show Fre H4 G from hG) F4.top
      have eFF:(L.filter fun n=>decide (n∉D++FR))=ns.filter fun n=>decide (n∉D++FR):=by
       rw [<-hL,List.filter_filter]
       refine List.filter_congr fun n _=>?_
       by_cases z:n∈D
       ·have:n∈D++FR:=List.mem_append_left _ z
        rw [decide_eq_false (fun y=>y this)];rfl
       ·rw [decide_eq_true z,Bool.and_true]
      refine ⟨⟨G,D++FR,fa4,S4,_,_,rfl,Kp.new k4 (k4.fre (show Fre H4 G from hG) (by simp)),F4.kp (Kp.new Kp.refl hG),?_⟩,?_⟩
      ·rw [<-eFF];exact upd_same
      ·have m1:leftN [some (V.ref l),some (.ref d),some (.ref e),some (.ref lf),o4,o5] H2=L.length:=by
        show (match H2 lf with| some (.lst xs)=>xs.length| _=>0)=_
        rw [hlf];simp
       have m2:∀o4 o5,leftN [some (V.ref l),some (.ref d),some (.ref e),some (.ref G),o4,o5] (upd H4 G (.lst ((L.filter fun n=>decide (n∉D++FR)).map V.str)))=(L.filter fun n=>decide (n∉D++FR)).length:=fun o4 o5=>by
        show (match upd H4 G (.lst ((L.filter fun n=>decide (n∉D++FR)).map V.str)) G with| some (.lst xs)=>xs.length| _=>0)=_
        rw [upd_same];simp
       rw [m1]
       refine Nat.lt_of_le_of_lt (Nat.le_of_eq (m2 _ _)) ?_
       obtain ⟨n,hnF⟩:=List.exists_mem_of_ne_nil FR hF0
       have hnL:=((hFr n).mp hnF).1
       exact filter_lt hnL (decide_eq_false fun z=>z (List.mem_append_right _ hnF))
  ·have cL:L=[]:=by
    cases L with
    | nil=>rfl
    | cons _ _=>exact absurd rfl c
   refine ⟨_,rfl,k e D fa S H2 FP (fun n hn'=>?_) k2⟩
   apply Classical.byContradiction
   intro z
   have:=(hLs n).mpr ⟨hn',z⟩
   rw [cL] at this
   exact nomatch this
end
def jf (r p e:Addr):List (Str×V):=putF "above" (.ref e) (putF "pairs" (.ref p) (putF "row" (.ref r) []))
theorem jf_row (r p e:Addr):(jf r p e).lookup ("row" : Str)=some (.ref r):=by
 unfold jf
 rw [zAu,if_neg (by decide +kernel),zAu,if_neg (by decide +kernel),zAu,if_pos rfl]
theorem jf_above (r p e:Addr):(jf r p e).lookup ("above" : Str)=some (.ref e):=by
 unfold jf
 rw [zAu,if_pos rfl]
theorem jf_no (r p e:Addr) {m:Str} (h1:¬m= "above") (h2:¬m= "pairs") (h3:¬m= "row"):(jf r p e).lookup m=none:=by
 unfold jf
 rw [zAu,if_neg h1,zAu,if_neg h2,zAu,if_neg h3];rfl
structure JC (K:PySem.W.Frag) (mg:Str->Option Value) (C:Addr):Prop where
 cl:Cls K C
 n_row:zE4 K C "row"
 n_pairs:zE4 K C "pairs"
 n_above:zE4 K C "above"
 mgC:mg "Jobs" = some (.ref C)
structure JR where
 dx:Addr
 r:Addr
 p:Addr
 e:Addr
 ns:List Str
 zs:List (List Str×Addr)
 D:List Str
 fa:Str->Addr
 S:Str->List Str
structure JobsAt (C:Addr) (H:Hp) (j:Addr) (J:JR):Prop where
 ob:H j=some (.ins C J.dx (jf J.r J.p J.e))
 row:Txs H J.r J.ns
 prs:Ords H J.p J.zs
 abv:H J.e=some (.dK (dT1 J.D fun n=>.ref (J.fa n)))
 all:∀n∈J.ns,n∈J.D
 sets:∀n∈J.D,SetD H (J.fa n) (J.S n)
 few:J.ns.length<=20
 zfew:J.zs.length<=63
 nd:J.ns.Nodup
 rise:(J.zs.map (·.1)).Pairwise fun a b=>ST.tlt a b=true
 zin:∀q∈J.zs,∀x∈q.1,x∈J.ns
 mem:∀n∈J.ns,∀x,x∈J.S n↔x∈told J.zs n\/∃m∈told J.zs n,x∈J.S m
theorem JobsAt.kp {M:List Addr} {C:Addr} {H H':Hp} {j:Addr} {J:JR} (A:JobsAt C H j J) (k:Kp M H H') (h:∀a o,H a=some o->a∈M->a≠j/\a≠J.r/\a≠J.p/\a≠J.e/\(∀q∈J.zs,a≠q.2)/\∀n∈J.D,a≠J.fa n):JobsAt C H' j J where
 ob:=k _ _ A.ob fun z=>(h _ _ A.ob z).1 rfl
 row:=k _ _ A.row fun z=>(h _ _ A.row z).2.1 rfl
 prs:=⟨k _ _ A.prs.top fun z=>(h _ _ A.prs.top z).2.2.1 rfl,fun q hq=>k _ _ (A.prs.row q hq) fun z=>(h _ _ (A.prs.row q hq) z).2.2.2.2.1 q hq rfl,A.prs.two⟩
 abv:=k _ _ A.abv fun z=>(h _ _ A.abv z).2.2.2.1 rfl
 all:=A.all
 sets:=fun n hn=>k _ _ (A.sets n hn) fun z=>(h _ _ (A.sets n hn) z).2.2.2.2.2 n hn rfl
 few:=A.few
 zfew:=A.zfew
 nd:=A.nd
 rise:=A.rise
 zin:=A.zin
 mem:=A.mem
theorem JobsAt.kp0 {C:Addr} {H H':Hp} {j:Addr} {J:JR} (A:JobsAt C H j J) (k:Kp [] H H'):JobsAt C H' j J:=A.kp k fun _ _ _ z=>nomatch z
section
variable {P:Program} {w:World} {K:PySem.W.Frag} {mg:Str->Option Value} {base:Heap} {C:Addr}
def zH3 (C:Addr):Sp:=fun vs H Q _=>∃(j:Addr) (J:JR),vs=[.ref j]/\JobsAt C H j J/\∀l H',Fre H l->Txs H' l J.ns->Kp [] H H'->Q (.ref l) H'
abbrev zDh:Stmt:=inClass (top 40) 1
theorem zH5:FnScope ["self"] ["self"] (zAe zDh):=⟨rfl,rfl,rfl,by decide +kernel,rfl,by decide +kernel,by decide +kernel⟩
theorem zIk {f:Addr} {fd:FuncData} (F:Fun K "names" "Jobs.names" zDh f fd) (T:Txt K mg) (U:JC K mg C):FnOk P w K mg base CX0 1 f fd ["self"] (zH3 C):=by
 refine F.ok zH5 (fun vs H Q E h=>?_) (fun cdv A outer s H vs Q E hr h=>?_)
 ·obtain ⟨j,J,rfl,_⟩:=h
  rfl
 ·obtain ⟨j,J,rfl,A0,k⟩:=h
  refine ⟨_,(zAd (zAs (zAq zB7 (by rfl) T.z_list zFk (zAa (zGn (pv 0) rfl) zAc)))),?_⟩
  refine ⟨_,rfl,_,_,_,_,_,rfl,A0.ob,U.cl,U.n_row,jf_row _ _ _,_,_,rfl,.inl (SqL.of A0.row),fun l hl=>?_⟩
  exact k l _ hl upd_same (Kp.new Kp.refl hl)
theorem abv_get {H:Hp} {j:Addr} {J:JR} (A:JobsAt C H j J) {y:Str} (hy:y∈J.ns):DGet H J.e (.str y) (some (.ref (J.fa y))):=by
 have:=DGet.k (k:=Sum.inr y) A.abv
 rw [zBu,if_pos (A.all y hy)] at this;exact this
theorem set_get {H:Hp} {e:Addr} {B:List Str} (h:SetD H e B) (x:Str):∃o,DGet H e (.str x) o/\o.isSome=decide (x∈B):=⟨_,DGet.k (k:=Sum.inr x) h,zFf B _ x⟩
end
section
variable {P:Program} {w:World} {K:PySem.W.Frag} {mg:Str->Option Value} {base:Heap} {C:Addr}
theorem pe_fldK {X:Cx} {K:PySem.W.Frag} {e:Expr} {f:Str} {pos:Pos} {ta:TE} (he:PE X e ta) (hb:attributeBase e f X.env (eval e X.env)=eval e X.env) (hK:X.K=K:=by rfl):PE X (.Attribute e f pos) (tFld K ta f):=by
 subst hK;exact zGn he hb
theorem zBf {α:Type} {p:α->Bool} {xs:List α} {i:Nat} {x:α} (e:xs[i]?=some x) (h:p x=true):(xs.take (i+1)).filter p=(xs.take i).filter p++[x]:=by
 rw [zAi e,List.filter_append,List.filter_cons,if_pos h];rfl
theorem zBn {α:Type} {p:α->Bool} {xs:List α} {i:Nat} {x:α} (e:xs[i]?=some x) (h:¬p x=true):(xs.take (i+1)).filter p=(xs.take i).filter p:=by
 rw [zAi e,List.filter_append,List.filter_cons,if_neg h];simp
theorem zBk {α:Type} {p:α->Bool} {xs:List α} {i:Nat} (h:xs.length<=4096):(((xs.take i).filter p)).length<sizeLine:=by
 have h1:=List.length_filter_le p (xs.take i)
 rw [List.length_take] at h1
 rw [sizeLine_eq];omega
def spAhead (C:Addr):Sp:=fun vs H Q _=>∃(j:Addr) (J:JR) (x:Str),vs=[.ref j,.str x]/\JobsAt C H j J/\x∈J.ns/\∀l H',Fre H l->Txs H' l (J.ns.filter fun n=>decide (n∈J.S x))->Kp [] H H'->Q (.ref l) H'
abbrev zCq:Stmt:=inClass (top 40) 5
theorem zH6:FnScope ["self", "name"] ["self", "name"] (zAe zCq):=⟨rfl,rfl,rfl,by decide +kernel,rfl,by decide +kernel,by decide +kernel⟩
theorem zIl {f:Addr} {fd:FuncData} (F:Fun K "ahead" "Jobs.ahead" zCq f fd) (T:Txt K mg) (U:JC K mg C) (C_check_job:Cal P w K mg base "check_job" 2 ["names", "thing"] zE7):FnOk P w K mg base CX0 3 f fd ["self", "name"] (spAhead C):=by
 refine F.ok zH6 (fun vs H Q E h=>?_) (fun cdv A outer s H vs Q E hr h=>?_)
 ·obtain ⟨j,J,x,rfl,_⟩:=h
  rfl
 ·obtain ⟨j,J,x,rfl,A0,hx,k⟩:=h
  have HR_check_job:=hr
  have hu:=zEy hr
  refine ⟨_,(zAb (zA4 (zAg C_check_job HR_check_job rfl (zAa (zGn (pv 0) rfl) (zAa (pv 1) zAc))))
   (zAd (zAs (zBh rfl (zBj (sc:=zAe zCq) rfl (by decide +kernel)) (Draws.own (x:= "other") (Draws.tk (i:=1) rfl (by walk_at "vs") (by walk_at "vk") (by walk_at "vf") (Draws.tk (i:=0) rfl (by walk_at "vs") (by walk_at "vk") (by walk_at "vf") Draws.nil))) (zAm (zGn (pv 0) rfl)) (fun C s₀ H₀ ex=>(zAh (i:=0) (show List.Nodup (["other", "name", "self"]:List Str) by decide +kernel) rfl (by walk_at "lc"))) (fun C s₀ H₀ ex=>(zBr (zFo (zHp hu (pv 0) (zBa hu (pe_fldK (K:=K) (pv 2) rfl) (pv 1) (fun _ _=>rfl)))))) (fun C s₀ H₀ ex=>(pv 0)))))),?_⟩
  refine ⟨_,rfl,_,_,_,_,_,rfl,A0.ob,U.cl,U.n_row,jf_row _ _ _,_,rfl,x,_,_,rfl,A0.row,hx,?_⟩
  refine ⟨_,rfl,_,_,_,_,_,rfl,A0.ob,U.cl,U.n_row,jf_row _ _ _,_,rfl,⟨_,SqL.of A0.row⟩,fun B hB=>zBb (J.ns.map V.str) (fun i ys τ H3=>(∃o0,τ=[o0,some (.str x),some (.ref j)])/\ys=((J.ns.take i).filter fun n=>decide (n∈J.S x)).map V.str/\H3=upd H B (.lst ys))
   ⟨⟨_,rfl⟩,rfl,rfl⟩ (fun i ys τ H3 ⟨_,_,z⟩=>by subst z;exact SqL.of ((Kp.new (M:=[]) Kp.refl hB) _ _ A0.row (by simp))) ?_ ?_⟩
  ·rintro i v ys τ H3 hv ⟨⟨o0,rfl⟩,rfl,rfl⟩
   obtain ⟨n,en,rfl⟩:=zBm hv
   have A3:=A0.kp0 (Kp.new (l:=B) (o:=.lst (((J.ns.take i).filter fun n=>decide (n∈J.S x)).map V.str)) Kp.refl hB)
   obtain ⟨o,g1,g2⟩:=set_get (A3.sets x (A3.all x hx)) n
   refine ⟨_,rfl,_,rfl,_,_,_,_,_,rfl,A3.ob,U.cl,U.n_above,jf_above _ _ _,_,rfl,_,_,rfl,abv_get A3 hx,_,o,rfl,g1,_,rfl,?_⟩
   rw [g2]
   refine ite2 (fun c=>?_) (fun c=>?_)
   ·refine ⟨_,rfl,upd_same,?_,⟨_,rfl⟩,?_,zBg⟩
    ·rw [List.length_map];exact zBk (by have:=A0.few;omega)
    ·rw [zBf en c,List.map_append];rfl
   ·refine ⟨⟨_,rfl⟩,?_,?_⟩
    ·rw [zBn en c]
    ·rfl
  ·rintro ys τ H3 ⟨_,rfl,rfl⟩
   have eT:J.ns.take (J.ns.map V.str).length=J.ns:=by rw [List.length_map,List.take_length]
   rw [eT]
   exact k B _ hB upd_same (Kp.new Kp.refl hB)
end
end My
namespace Tim
open PySem PyProof.Rows
section
variable {prog:Program} {w:World} {A:Around} {E:Value->Shared->Prop} {s:Shared} {kd:SortKind} {κ:KeyKind} {a₀:Array Keyed}
theorem w_sortS {st:SortSt} {Q:Unit->SortSt->Prop} (C:CmpOk prog w A s kd κ) (ha:∀x∈a₀.toList,Has κ x) (hk:kindOf st=kd) (hf:failedOf st=none) (hp:(arrOf st).Perm a₀) (hpn:pendingOf st=#[]) (h1:1<=a₀.size) (h64:a₀.size<64)
  (h:∀st',failedOf st'=none->(arrOf st').Perm a₀->Srt κ (arrOf st').toList->Q () st'):wpS (model prog w) A E s sortRuns' Q st:=by
 have hz:(arrOf st).size=a₀.size:=hp.size_eq
 have mr:∀n,n<64->minRun' n n 0=n:=by decide +kernel
 refine wpS_bind (wpS_get ?_)
 refine wpS_bind (wpS_mono (wpS_forRange (I:=fun x c st'=>(c=((none,0):Option Unit×Nat)/\x=0/\st'=st)\/(c=(none,a₀.size)/\(pendingOf st').size<=1/\failedOf st'=none/\(arrOf st').Perm a₀/\Srt κ (arrOf st').toList))
  (Q:=fun c st'=>c=((none,a₀.size):Option Unit×Nat)/\(pendingOf st').size<=1/\failedOf st'=none/\(arrOf st').Perm a₀/\Srt κ (arrOf st').toList) ?step ?fin (.inl ⟨rfl,rfl,rfl⟩)) ?post)
 case fin =>
  rintro c st' (⟨_,z,_⟩| z)
  ·have:max 0 (arrOf st).size=0:=z
   omega
  ·exact z
 case step =>
  rintro x c st1 _ hx (⟨rfl,rfl,rfl⟩| ⟨rfl,z⟩)
  ·show wpS _ _ _ _ (if 0>=(arrOf st1).size then _ else _) _ _
   rw [if_neg (by omega)]
   have al:All κ st1:=fun x hx=>ha x ((Array.perm_iff_toList_perm.mp hp).mem_iff.mp hx)
   have fin:∀(n:Nat) (st3:SortSt),n=a₀.size->Fr 0 st1 st3->Up κ st3 0 n->(((none,0+n):Option Unit×Nat)=(none,0)/\0+1=0/\setPending st3 ((pendingOf st3).push (0,n,0))=st1)\/(((none,0+n):Option Unit×Nat)=(none,a₀.size)/\(pendingOf (setPending st3 ((pendingOf st3).push (0,n,0)))).size<=1/\failedOf (setPending st3 ((pendingOf st3).push (0,n,0)))=none/\(arrOf (setPending st3 ((pendingOf st3).push (0,n,0)))).Perm a₀/\Srt κ (arrOf (setPending st3 ((pendingOf st3).push (0,n,0)))).toList):=by
    intro n st3 en f u
    subst en
    have hz3:(arrOf st3).size=a₀.size:=f.size.trans hz
    refine .inr ⟨by rw [Nat.zero_add],?_,f.fl.trans hf,f.perm.trans hp,?_⟩
    ·show ((pendingOf st3).push (0,a₀.size,0)).size<=1
     rw [f.pn,hpn];simp
    ·have q:=(up_srt (κ:=κ) (st:=st3) (lo:=0) (n:=a₀.size) (by omega)).mp u
     unfold seg at q
     rw [List.drop_zero,List.take_of_length_le (by simp;omega)] at q
     exact q
   refine wpS_bind (w_count C hk al (nrem:=(arrOf st1).size - 0) (by omega) (by omega) fun m st2 f2 m1 m2 u2=>?_)
   by_cases c1:m<minRun' (arrOf st1).size (arrOf st1).size 0
   ·refine (show wpS _ _ _ _ (if m<minRun' (arrOf st1).size (arrOf st1).size 0 then _ else _) _ _ from ?_)
    rw [if_pos c1]
    refine wpS_bind (wpS_lift (wpAny_rule ⟨rfl,?_⟩))
    have em:min ((arrOf st1).size - 0) (minRun' (arrOf st1).size (arrOf st1).size 0)=a₀.size:=by rw [mr _ (by omega)];omega
    refine wpS_bind (w_ins (n:=min ((arrOf st1).size - 0) (minRun' (arrOf st1).size (arrOf st1).size 0)) C (f2.kd.trans hk) (al.fr f2) (by rw [f2.size];omega) (by omega) m1 u2 fun st3 f3 u3=>?_)
    show wpS _ _ _ _ (if false=true then _ else _) _ _
    rw [if_neg (by decide)]
    refine wpS_bind (wpS_get ?_)
    have f13:=f2.trans f3
    rcases hb:(pendingOf st3).back? with _| ⟨s1,q1,t1⟩
    case some=>rw [f13.pn,hpn] at hb;exact nomatch hb
    exact wpS_bind (wpS_modify (wpS_pure (fin _ st3 em f13 u3)))
   ·refine (show wpS _ _ _ _ (if m<minRun' (arrOf st1).size (arrOf st1).size 0 then _ else _) _ _ from ?_)
    rw [if_neg c1]
    rw [mr _ (by omega)] at c1
    refine wpS_bind (wpS_get ?_)
    rcases hb:(pendingOf st2).back? with _| ⟨s1,q1,t1⟩
    case some=>rw [f2.pn,hpn] at hb;exact nomatch hb
    exact wpS_bind (wpS_modify (wpS_pure (fin _ st2 (by omega) f2 u2)))
  ·show wpS _ _ _ _ (if a₀.size>=(arrOf st).size then _ else _) _ _
   rw [if_pos (by omega)]
   exact wpS_pure ⟨rfl,z⟩
 case post =>
  rintro c st1 ⟨rfl,z1,z2,z3,z4⟩
  refine wpS_bind (wpS_mono (wpS_forRange (I:=fun x c st'=>c=(none,())/\st'=st1) (Q:=fun c st'=>c=((none,()):Option Unit×Unit)/\st'=st1) ?s3 ?f3 ⟨rfl,rfl⟩) ?p3)
  case f3=>exact fun c st' h=>h
  case p3 =>
   rintro c st' ⟨rfl,rfl⟩
   exact wpS_pure (h st' z2 z3 z4)
  case s3 =>
   rintro y c st2 _ hy ⟨rfl,rfl⟩
   refine wpS_bind (wpS_get ?_)
   show wpS _ _ _ _ (if (pendingOf st2).size<=1 then _ else _) _ _
   rw [if_pos z1]
   exact wpS_pure ⟨rfl,rfl⟩
end
end Tim
namespace ST
open PySem PyProof.Rows PySem.W
section
variable {prog:Program} {w:World} {A:Around} {E:Value->Shared->Prop} {s:Shared}
theorem w_lsortS {κ:PyProof.Rows.KeyKind} {kd:SortKind} {a:Addr} {vs:List Value} {n:Nat} {P:Fin->Shared->Prop} (ho:s.heap.get? a=some (seqObj "list" vs.toArray n)) (hz:vs.length<64)
  (hS:∀h',(∀b o,b≠a->s.heap.get? b=some o->h'.get? b=some o)->Sortable prog w A κ kd vs {s with heap:=h'})
  (h:∀out:Array Value,out.toList.Perm vs->(out.toList.Pairwise fun x y=>κ.kle ((κ.keyOf x).getD κ.dflt) ((κ.keyOf y).getD κ.dflt))->P (.done (.ret .none)) {s with heap:=sortedHeap s.heap a vs out}) :
  wpAny (model prog w) A (Builtin.«list.sort» ⟨[.ref a],[]⟩) P E s:=by
 rw [list_sort_plain]
 have hsl:(4096:Nat)<=sizeLine:=by decide +kernel
 have ha:a<s.heap.objs.size:=Heap.lt_size ho
 have hsz:vs.toArray.size=vs.length:=by simp
 refine wpAny_bind (listItems_at ho rfl ?_)
 refine wpAny_bind (listUpdate_at ho rfl ?_ (by omega) (Nat.zero_le _))
 have h1:(s.heap.update a (Obj.mapSeq fun _=>#[])).get? a=some (seqObj "list" #[] _):=get?_update_seq ho fun _=>#[]
 refine wpAny_bind (seqEpoch_at h1 rfl ?_)
 refine wpAny_bind (wpAny_newTuple ?_ (by show vs.toArray.toList.length<=_;simp;omega))
 refine wpAny_bind (wpAny_newList ?_ (Nat.zero_le _))
 refine wpAny_holding ?_
 have h6:=Heap.get?_push_of_some (seqObj "list" #[] 0) (Heap.get?_push_of_some (seqObj "tuple" vs.toArray 0) h1)
 change wpAny (model prog w) A _ P E {s with heap:=((s.heap.update a (Obj.mapSeq fun _=>#[])).push (seqObj "tuple" vs.toArray 0)).push (seqObj "list" #[] 0)}
 dsimp only
 have S6:=hS (((s.heap.update a (Obj.mapSeq fun _=>#[])).push (seqObj "tuple" vs.toArray 0)).push (seqObj "list" #[] 0)) fun b o hb q=>by
  refine Heap.get?_push_of_some _ (Heap.get?_push_of_some _ ?_)
  rw [Heap.get?_update_other _ _ (Ne.symm hb)]
  exact q
 by_cases c:vs.toArray.size<2
 ·rw [if_pos c,if_pos c]
  refine wpAny_bind (wpAny_pure ?_)
  rw [StateT.run_pure]
  refine wpAny_bind (wpAny_pure ?_)
  dsimp only
  refine wpAny_bind (seqEpoch_at h6 rfl ?_)
  refine wpAny_bind (listUpdate_at h6 rfl ?_ (Nat.zero_le _) (by rw [Array.size_map];show (pairsOf vs).size<=_;rw [pairsOf_size];omega))
  simp only [bne_self_eq_false,Bool.false_eq_true,if_false]
  have e:(arrOf (SortSt.mk' general' (vs.toArray.zip vs.toArray) #[] 7 none)).Perm (pairsOf vs):=Array.Perm.refl _
  refine wpAny_pure (h _ (zFw e) ?_)
  exact pw_small (by rw [(zFw e).length_eq];omega)
 ·rw [if_neg c,if_neg c]
  refine wpAny_bind (S6.kind (by omega) _ _ ?_)
  have W:=Tim.w_sortS (E:=E) (a₀:=pairsOf vs) (st:=SortSt.mk' kd (vs.toArray.zip vs.toArray) #[] 7 none) (Q:=fun _ st'=>failedOf st'=none/\(arrOf st').Perm (pairsOf vs)/\Tim.Srt κ (arrOf st').toList) S6.cmp (fun p hp=>by
   rw [pairsOf_toList] at hp
   exact S6.has _ (mem_zip_self hp).2) rfl rfl (Array.Perm.refl _) rfl (by rw [pairsOf_size];omega) (by rw [pairsOf_size];omega) fun st' q1 q2 q3=>⟨q1,q2,q3⟩
  refine wpAny_bind (wpAny_mono W ?_ fun _ _ e=>e)
  rintro ⟨⟨⟩,st'⟩ s' ⟨rfl,q1,q2,q3⟩
  dsimp only
  refine wpAny_bind (seqEpoch_at h6 rfl ?_)
  have zz:=(zFw q2).length_eq
  refine wpAny_bind (listUpdate_at h6 rfl ?_ (Nat.zero_le _) (by simp at zz ⊢;omega))
  rw [q1]
  simp only [bne_self_eq_false,Bool.false_eq_true,if_false]
  exact wpAny_pure (h _ (zFw q2) (snd_srt q2 q3))
theorem w_sortedCS {κ:PyProof.Rows.KeyKind} {kd:SortKind} {v:Value} {Q:Value->Shared->Prop} {J:List Value->Shared->Prop} (hc:wpAny (model prog w) A.in1 (collect v) J E s)
  (hJ:∀vs s1,J vs s1->vs.length<64/\(∀h',Up s1.heap h'->Sortable prog w A.in1.in1 κ kd vs {s1 with heap:=h'}) /\
   ∀(out:List Value) c h',out.Perm vs->(out.Pairwise fun x y=>κ.kle ((κ.keyOf x).getD κ.dflt) ((κ.keyOf y).getD κ.dflt))->h'.get? s1.heap.objs.size=some (seqObj "list" out.toArray c)->Up s1.heap h'->Q (.ref s1.heap.objs.size) {s1 with heap:=h'}) :
  wpAny (model prog w) A (call (.builtin "sorted") [v]) Q E s:=by
 refine Calls.call_function_entry kind_sorted plain_sorted entry_sorted (args_sorted1 _) ?_
 unfold Builtin.«sorted»
 refine wpAny_bind (m:=checkCount "sorted" 1 1 _) (wpAny_pure ?_)
 refine wpAny_bind (wpAny_mono hc (fun vs s1 j=>?_) fun _ _ x=>x)
 obtain ⟨j1,j2,j3⟩:=hJ vs s1 j
 have hsl:(4096:Nat)<=sizeLine:=by decide +kernel
 refine wpAny_bind (wpAny_newList ?_ (by omega))
 have hD:(s1.heap.push (seqObj "list" vs.toArray 0)).get? s1.heap.objs.size=some (seqObj "list" vs.toArray 0):=Heap.get?_push_size _ rfl
 change wpAny _ _ _ _ _ {s1 with heap:=s1.heap.push (seqObj "list" vs.toArray 0)}
 have ne:∀b o,s1.heap.get? b=some o->b≠s1.heap.objs.size:=fun b o q=>Nat.ne_of_lt (Heap.lt_size q)
 refine wpAny_bind (wpAny_holding (wpAny_call_entry slot_list_sort ⟨_,hD,rfl⟩ entry_list_sort ?body (args_list_sort _)))
 case body =>
  refine w_lsortS (s:={s1 with heap:=s1.heap.push (seqObj "list" vs.toArray 0)}) hD j1 (fun h' q=>j2 h' fun b o e=>q b o (ne b o e) (Heap.get?_push_of_some _ e)) fun out p1 p2=>?_
  obtain ⟨⟨c,g1⟩,g2⟩:=srt_heap (out:=out) hD
  refine ⟨_,rfl,wpAny_pure ⟨_,rfl,j3 out.toList c _ p1 p2 (by simpa using g1) fun b o e=>g2 b o (ne b o e) (Heap.get?_push_of_some _ e)⟩⟩
end
end ST
namespace L2
open PySem PySem.Spec PyProof.Rows
section
variable {X:Cx} {pins:List (Addr×Obj)} {s:Shared} {σ:St} {H:Hp}
theorem zHf {k:Nat} (hr:Room k X.A):zDe X (.builtin "sorted") (fun xs H Q=>∃(a:Addr) (ys:List (List Str×Addr)),xs=[.ref a]/\H a=some (TSt X.prog X.w a ys)/\(∀p∈ys,RowT X.K H p)/\(∀p∈ys,p.1≠[])/\ys.length<=63 /\
  ∀b zs,H b=none->zs.Perm ys->RiseT zs->Q (.ref b) (upd H b (.lst (zs.map fun p=>V.ref p.2)))):=by
 intro pins s σ H xs us Q I r h
 obtain ⟨a,ys,rfl,ha,hk,hne,hc,q⟩:=h
 obtain ⟨u,rfl,rx⟩:=vals1 r
 cases rx
 obtain ⟨⟨o,es,ep,t,z1,z2,z3,z4,z5,z6,z7,z8⟩,_⟩:=I.hok a _ ha
 have Z:ST.SetX (PySem.strKind X.prog X.w) s.heap a ys o es ep t:=⟨z1,z2,z3,z4,z5,z6,z7,fun p hp=>I.rowT (hk p hp),z8⟩
 refine ST.w_sortedCS (kd:=tuples' true) (κ:=ST.tupK fun b=>(ys.find? fun p=>p.2==b).map (·.1))
  (J:=fun vs s1=>vs.Perm (ys.map fun p=>Value.ref p.2)/\(∀b o,s.heap.get? b=some o->s1.heap.get? b=some o)/\s1.gens=s.gens/\s1.os=s.os)
  (ST.w_collect (A:=X.A.in1) hr.hd Z (Nat.le_trans hc (by decide)) fun s' vs v1 v2 v3 v4 _=>⟨v1,v2,v3,v4⟩) fun vs s1 ⟨v1,v2,v3,v4⟩=>?_
 have hvl:vs.length=ys.length:=by rw [v1.length_eq,List.length_map]
 refine ⟨by omega,fun h' up=>ST.tups_sortable v1 (fun p hp=>ST.key_kept (I.rowT (hk p hp)) fun o e=>up _ o (v2 _ o e)) hne,fun out c h' p1 p2 p3 up=>?_⟩
 obtain ⟨zs,e1,e2⟩:=perm_back _ (p1.trans v1)
 subst e2
 have I1:Inv X pins σ H s1:=I.call' (ch:=[]) v4 (Un.kept v2) (I.hok.kept v2) (by rw [v3];exact I.bare) (fun _ z=>nomatch z)
 have hz:(zs.map fun p=>V.ref p.2).length<=sizeLine:=by
  rw [List.length_map,e1.length_eq];exact Nat.le_trans hc (by decide +kernel)
 exact ⟨.ref s1.heap.objs.size,_,I1.laid (t':=s1.toks) up (Nat.le_refl _) (show zA8 X.prog X.w _ h' _ (.lst (zs.map fun p=>V.ref p.2)) from ⟨hz,_,c,refs_vals zs,p3⟩),rfl,q _ zs (I1.hok.fresh (Nat.le_refl _)) e1 (rise_of (h:=s.heap) e1 (fun p hp=>I.rowT (hk p hp)) p2)⟩
end
end L2
namespace My
open PySem L2
theorem zF0 (f:Str) (v:V):∀fs:List (Str×V),(putF f v fs).length<=fs.length+1
 | []=>Nat.le_refl _
 | (g,x)::r=>by
  unfold putF
  split
  ·exact Nat.le_succ _
  ·have:=zF0 f v r
   simp only [List.length_cons];omega
theorem call_setTP {X:Cx} {P:Program} {w:World} {K:PySem.W.Frag} {k:Nat} (hr:Room k X.A) (hP:X.prog=P:=by rfl) (hw:X.w=w:=by rfl) (hK:X.K=K:=by rfl):zDe X (.type "set") (fun xs H Q=>∃(l:Addr) (ks:List (List Str×Addr)),xs=[.ref l]/\SqL K H l (ks.map fun p=>V.ref p.2)/\(∀p∈ks,RowT K H p)/\ks.length<=306 /\
  ∀a ys,H a=none->(∀p∈ys,p∈ks)->(∀p∈ks,p.1∈ys.map (·.1))->(ys.map (·.1)).Nodup->ys.length<=ks.length->Q (.ref a) (upd H a (TSt P w a ys))):=by
 subst hP hw hK;exact call_setT hr
theorem zHg {X:Cx} {P:Program} {w:World} {K:PySem.W.Frag} {k:Nat} (hr:Room k X.A) (hP:X.prog=P:=by rfl) (hw:X.w=w:=by rfl) (hK:X.K=K:=by rfl):zDe X (.builtin "sorted") (fun xs H Q=>∃(a:Addr) (ys:List (List Str×Addr)),xs=[.ref a]/\H a=some (TSt P w a ys)/\(∀p∈ys,RowT K H p)/\(∀p∈ys,p.1≠[])/\ys.length<=63 /\
  ∀b zs,H b=none->zs.Perm ys->RiseT zs->Q (.ref b) (upd H b (.lst (zs.map fun p=>V.ref p.2)))):=by
 subst hP hw hK;exact zHf hr
theorem zIe {X:Cx} {K:PySem.W.Frag} {es:List Expr} {k:Nat} {t:TGs} {n:Nat} {pos:Pos} (hc:X.calm=true) (h:PGs X es t)
  (hn:(assignEach es X.env).length=n:=by rfl) (hst:(assignEach es X.env).findIdx? (·.1)=none:=by rfl) (hK:X.K=K:=by rfl):PG X (.Tuple es k pos) (gTup K n t):=by
 subst hK;exact zHo hc h hn hst
theorem zF2 {qs:List (List Str×Addr)} {n x:Str}:x∈told qs n↔∃q∈qs,snd q=n/\fst q=x:=by
 unfold told
 simp only [List.mem_map,List.mem_filter,decide_eq_true_eq]
 exact ⟨fun ⟨q,⟨a,b⟩,c⟩=>⟨q,a,b,c⟩,fun ⟨q,a,b,c⟩=>⟨q,⟨a,b⟩,c⟩⟩
theorem fst_of {q q':List Str×Addr} (h:q.1=q'.1):fst q=fst q'/\snd q=snd q':=by unfold fst snd;rw [h];exact ⟨rfl,rfl⟩
section
variable {P:Program} {w:World} {K:PySem.W.Frag} {mg:Str->Option Value} {base:Heap} {C:Addr}
structure Good (ns:List Str) (qs:List (List Str×Addr)) (r:Str->Nat):Prop where
 nm:∀n∈ns,zHh n
 nd:ns.Nodup
 few:ns.length<=20
 qfew:qs.length<=63
 qin:∀q∈qs,∀x∈q.1,x∈ns
 rk:∀q∈qs,r (fst q)<r (snd q)
structure JNew (H:Hp) (J:JR):Prop where
 r:Fre H J.r
 p:Fre H J.p
 e:Fre H J.e
 z:∀q∈J.zs,Fre H q.2
 s:∀n∈J.D,Fre H (J.fa n)
def spInit (C:Addr):Sp:=fun vs H Q _=>∃(x dx l m:Addr) (ns:List Str) (qs:List (List Str×Addr)) (r:Str->Nat),vs=[.ref x,.ref l,.ref m]/\H x=some (.ins C dx [])/\Txs H l ns/\Ords H m qs/\Good ns qs r /\
 ∀J H',JobsAt C H' x J->JNew H J->J.ns=ns->(∀k,k∈J.zs.map (·.1)↔k∈qs.map (·.1))->Kp [x] H H'->Q .non H'
abbrev zBx:Stmt:=inClass (top 40) 0
theorem zFs:FnScope ["self", "names", "orders"] ["self", "names", "orders"] (zAe zBx):=⟨rfl,rfl,rfl,by decide +kernel,rfl,by decide +kernel,by decide +kernel⟩
theorem ok_Jobs_init {f:Addr} {fd:FuncData} (F:Fun K "__init__" "Jobs.__init__" zBx f fd) (T:Txt K mg) (U:JC K mg C) (C_check_names:Cal P w K mg base "check_names" 2 ["names"] zFm) (C_check_parts:Cal P w K mg base "check_parts" 3 ["names", "orders"] zFl)
  (C_all_ahead:Cal P w K mg base "all_ahead" 2 ["names", "told"] zHl) (C_told_ahead:Cal P w K mg base "told_ahead" 1 ["names", "orders"] zGa):FnOk P w K mg base CX0 4 f fd ["self", "names", "orders"] (spInit C):=by
 refine F.ok zFs (fun vs H Q E h=>?_) (fun cdv A outer s H vs Q E hr h=>?_)
 ·obtain ⟨x,dx,l,m,ns,qs,r,rfl,_⟩:=h
  rfl
 ·obtain ⟨x,dx,l,m,ns,qs,r,rfl,hx,hl,hm,G,k⟩:=h
  have HR_check_parts:=hr
  have HR_check_names:=hr.mono (j:=2) (by decide)
  have HR_all_ahead:=hr.mono (j:=2) (by decide)
  have HR_told_ahead:=hr.mono (j:=1) (by decide)
  refine ⟨_,(zAb (zA4 (zAg C_check_names HR_check_names rfl (zAa (pv 1) zAc)))
   (zAb (zA4 (zAg C_check_parts HR_check_parts rfl (zAa (pv 1) (zAa (pv 2) zAc))))
   (zAb (ps_fld (pv 0) (zAq zB7 (by rfl) T.z_list zFk (zAa (pv 1) zAc)) rfl)
   (zAb (ps_fld (pv 0) (zAl (zHg (P:=P) (w:=w) (K:=K) HR_told_ahead) (by rfl) T.z_sorted bo_sorted (zAa (zAq (call_setTP (P:=P) (w:=w) (K:=K) HR_told_ahead) (by rfl) T.z_set bo_set (zAa (zBh rfl (zBj (sc:=zAe zBx) rfl (by decide +kernel)) (Draws.own (x:= "one") (Draws.own (x:= "other") Draws.nil)) (zAm (pv 2)) (fun C s₀ H₀ ex=>(zIe (K:=K) (n:=2) rfl (zAt (zAh (i:=0) (show List.Nodup (["one", "other"]:List Str) by decide +kernel) rfl (by walk_at "lc")) (zAt (zAh (i:=1) (show List.Nodup (["one", "other"]:List Str) by decide +kernel) rfl (by walk_at "lc")) zC9)))) (fun C s₀ H₀ ex=>zDk) (fun C s₀ H₀ ex=>(zDl (zAa (pv 0) (zAa (pv 1) zAc))))) zAc)) zAc)) rfl)
   (zAd (ps_fld (pv 0) (zAg C_all_ahead HR_all_ahead rfl (zAa (zGn (pv 0) rfl) (zAa (zAg C_told_ahead HR_told_ahead rfl (zAa (zGn (pv 0) rfl) (zAa (zGn (pv 0) rfl) zAc))) zAc))) rfl)))))),?_⟩
  refine ⟨_,rfl,l,ns,rfl,hl,G.few,G.nm,G.nd,fun H1 k1=>?_⟩
  have hm1:=hm.kp k1 (by simp) (by simp)
  refine ⟨_,rfl,_,rfl,l,m,ns,qs,rfl,k1 l _ hl (by simp),hm1,G.qin,?_⟩
  have hx1:=k1 x _ hx (by simp)
  refine ⟨_,rfl,_,_,rfl,.inl (SqL.of (k1 l _ hl (by simp))),fun r1 hr1=>?_⟩
  have nxr:x≠r1:=ne_fre hr1 hx1
  refine ⟨_,rfl,_,_,_,_,rfl,(upd_ne nxr).trans hx1,U.cl,U.n_row,(by decide),?_⟩
  have hm2:∀o1 o2,Ords (upd (upd H1 r1 o1) x o2) m qs:=fun o1 o2 =>
   ⟨(upd_ne (zBe hm1.top hx1 (fun z=>nomatch z))).trans ((upd_ne (ne_fre hr1 hm1.top)).trans hm1.top),fun q hq=>(upd_ne (zBe (hm1.row q hq) hx1 (fun z=>nomatch z))).trans ((upd_ne (ne_fre hr1 (hm1.row q hq))).trans (hm1.row q hq)),hm1.two⟩
  have hrow2:∀o2,Txs (upd (upd H1 r1 (.lst (ns.map V.str))) x o2) r1 ns:=fun o2=>(upd_ne nxr.symm).trans upd_same
  have k2:∀o1 o2,Kp [x] H (upd (upd H1 r1 o1) x o2):=fun o1 o2=>Kp.put (Kp.new (k1.weak (by simp)) (k1.fre hr1 (by simp))) (by simp)
  have hx2:∀o1 o2,(upd (upd H1 r1 o1) x o2) x=some o2:=fun o1 o2=>upd_same
  have hm2:=hm2 (.lst (ns.map V.str)) (.ins C dx (putF "row" (.ref r1) []))
  have hrow2:=hrow2 (.ins C dx (putF "row" (.ref r1) []))
  have k2:=k2 (.lst (ns.map V.str)) (.ins C dx (putF "row" (.ref r1) []))
  have hx2:=hx2 (.lst (ns.map V.str)) (.ins C dx (putF "row" (.ref r1) []))
  generalize hH2:upd (upd H1 r1 (.lst (ns.map V.str))) x (.ins C dx (putF "row" (.ref r1) []))=H2 at hm2 hrow2 k2 hx2 ⊢
  refine ⟨_,rfl,_,rfl,⟨_,SqL.of hm2.top⟩,fun B hB=>zB1 (qs.map fun q=>V.ref q.2) (fun i ys τ H3=>∃ks:List (List Str×Addr),(∃o0 o1,τ=[o0,o1])/\ys=(ks.map fun q=>V.ref q.2)/\ks.map (·.1)=(qs.take i).map (·.1)/\(∀q∈ks,H3 q.2=some (.tup (q.1.map V.str)))/\(∀q∈ks,Fre H2 q.2)/\Kp [] H2 H3/\H3 B=some (.lst ys))
   ⟨[],⟨_,_,rfl⟩,rfl,rfl,(fun q h=>nomatch h),(fun q h=>nomatch h),Kp.new Kp.refl hB,upd_same⟩ (fun i ys τ H3 ⟨_,_,_,_,_,_,k3,_⟩=>SqL.of (k3 m _ hm2.top (by simp))) ?_ ?_⟩
  ·rintro i v ys τ H3 hv ⟨ks,⟨o0,o1,rfl⟩,rfl,ek,hk,fk,k3,h3⟩
   obtain ⟨q,eq,rfl⟩:=ref_at hv
   have mq:=List.mem_of_getElem? eq
   obtain ⟨a,b,eab⟩:=hm2.two q mq
   have hrow:H3 q.2=some (.tup [.str a,.str b]):=by
    have:=k3 q.2 _ (hm2.row q mq) (by simp)
    rw [eab] at this;exact this
   refine ⟨_,_,rfl,.inl (.inl hrow),rfl,_,_,rfl,_,_,rfl,rfl,?_⟩
   have hlen:ks.length=(qs.take i).length:=by have:=congrArg List.length ek;simpa using this
   refine ⟨_,rfl,_,rfl,(by walk_at "ln"),fun t ht=>?_⟩
   have ft:Fre H3 t:=ht
   have nBt:B≠t:=ne_fre ft h3
   refine ⟨(upd_ne nBt).trans h3,?_,ks++[([a,b],t)],⟨_,_,rfl⟩,?_,?_,fun q' hq'=>?_,fun q' hq'=>?_,?_,?_⟩
   ·rw [List.length_map,hlen,List.length_take,sizeLine_eq]
    have:=G.qfew
    omega
   ·rw [List.map_append];rfl
   ·rw [List.map_append,ek,zAi eq,List.map_append,List.map_cons,List.map_cons,eab]
   ·rcases List.mem_append.mp hq' with z| z
    ·exact (upd_ne (zBe (hk q' z) h3 (fun y=>nomatch y))).trans ((upd_ne (ne_fre ft (hk q' z))).trans (hk q' z))
    ·rw [List.mem_singleton.mp z]
     exact (upd_ne nBt.symm).trans upd_same
   ·rcases List.mem_append.mp hq' with z| z
    ·exact fk q' z
    ·rw [List.mem_singleton.mp z];exact k3.fre ft (by simp)
   ·exact Kp.new (Kp.new k3 (k3.fre ft (by simp))) hB
   ·exact upd_same
  ·rintro ys τ H3 ⟨ks,_,rfl,ek,hk,fk,k3,h3⟩
   have eT:qs.take (qs.map fun q=>V.ref q.2).length=qs:=by rw [List.length_map,List.take_length]
   rw [eT] at ek
   have hlen:ks.length=qs.length:=by have:=congrArg List.length ek;simpa using this
   have ktwo:∀q∈ks,∃a b,q.1=[a,b]:=fun q hq=>by
    have:q.1∈ks.map (·.1):=List.mem_map.mpr ⟨q,hq,rfl⟩
    rw [ek] at this
    obtain ⟨q',hq',e⟩:=List.mem_map.mp this
    rw [<-e];exact hm2.two q' hq'
   refine ⟨B,ks,rfl,SqL.of h3,fun q hq=>.inl (.inl (hk q hq)),by rw [hlen];have:=G.qfew;omega,fun sa yk hsa y1 y2 y3 y4=>?_⟩
   have fsa:Fre H3 sa:=hsa
   refine ⟨sa,yk,rfl,upd_same,fun q hq=>.inl (.inl ((upd_ne (ne_fre fsa (hk q (y1 q hq)))).trans (hk q (y1 q hq)))),fun q hq=>?_,by have:=G.qfew;omega,fun p zs hp z1 z2=>?_⟩
   ·obtain ⟨a,b,e⟩:=ktwo q (y1 q hq)
    rw [e];simp
   have fp:Fre (upd H3 sa (TSt P w sa yk)) p:=hp
   have zk:∀q∈zs,q∈ks:=fun q hq=>y1 q (z1.mem_iff.mp hq)
   have zq:∀q∈zs,∃q'∈qs,q'.1=q.1:=fun q hq=>by
    have:q.1∈ks.map (·.1):=List.mem_map.mpr ⟨q,zk q hq,rfl⟩
    rw [ek] at this
    exact List.mem_map.mp this
   have zin:∀q∈zs,∀x∈q.1,x∈ns:=fun q hq x hx=>by
    obtain ⟨q',h1,h2⟩:=zq q hq
    exact G.qin q' h1 x (by rw [h2];exact hx)
   have zrk:∀q∈zs,r (fst q)<r (snd q):=fun q hq=>by
    obtain ⟨q',h1,h2⟩:=zq q hq
    obtain ⟨e1,e2⟩:=fst_of h2
    rw [<-e1,<-e2];exact G.rk q' h1
   have zlen:zs.length<=63:=by rw [z1.length_eq];have:=G.qfew;omega
   have z3:(zs.map (·.1)).Pairwise fun a b=>ST.tlt a b=true:=ST.strict_of (List.pairwise_map.mpr z2) ((z1.map (·.1)).nodup_iff.mpr y3)
   have zset:∀k,k∈zs.map (·.1)↔k∈qs.map (·.1):=fun k=>by
    rw [<-ek,(z1.map (·.1)).mem_iff]
    exact ⟨fun h=>by
     obtain ⟨q,h1,h2⟩:=List.mem_map.mp h
     exact List.mem_map.mpr ⟨q,y1 q h1,h2⟩,fun h=>by
     obtain ⟨q,h1,h2⟩:=List.mem_map.mp h
     rw [<-h2];exact y2 q h1⟩
   have k4:Kp [] H2 (upd (upd H3 sa (TSt P w sa yk)) p (.lst (zs.map fun q=>V.ref q.2))):=by
    have h1:Kp [] H2 (upd H3 sa (TSt P w sa yk)):=Kp.new k3 (k3.fre fsa (by simp))
    exact Kp.new h1 (h1.fre fp (by simp))
   have hzs4:Ords (upd (upd H3 sa (TSt P w sa yk)) p (.lst (zs.map fun q=>V.ref q.2))) p zs:=⟨upd_same,fun q hq=>by
    have h1:upd H3 sa (TSt P w sa yk) q.2=some (.tup (q.1.map V.str)):=(upd_ne (ne_fre fsa (hk q (zk q hq)))).trans (hk q (zk q hq))
    exact (upd_ne (ne_fre fp h1)).trans h1,fun q hq=>ktwo q (zk q hq)⟩
   generalize hH4:upd (upd H3 sa (TSt P w sa yk)) p (.lst (zs.map fun q=>V.ref q.2))=H4 at k4 hzs4 ⊢
   have hx4:=k4 x _ hx2 (by simp)
   refine ⟨_,rfl,_,_,_,_,rfl,hx4,U.cl,U.n_pairs,(by have:=zF0 "row" (V.ref r1) [];simp only [List.length_nil] at this;omega),?_⟩
   have hx5:(upd H4 x (.ins C dx (putF "pairs" (.ref p) (putF "row" (.ref r1) [])))) x=some (.ins C dx (putF "pairs" (.ref p) (putF "row" (.ref r1) []))):=upd_same
   have hrow5:Txs (upd H4 x (.ins C dx (putF "pairs" (.ref p) (putF "row" (.ref r1) [])))) r1 ns:=(upd_ne nxr.symm).trans (k4 r1 _ hrow2 (by simp))
   have hzs5:Ords (upd H4 x (.ins C dx (putF "pairs" (.ref p) (putF "row" (.ref r1) [])))) p zs:=⟨(upd_ne (zBe hzs4.top hx4 (fun z=>nomatch z))).trans hzs4.top,fun q hq=>(upd_ne (zBe (hzs4.row q hq) hx4 (fun z=>nomatch z))).trans (hzs4.row q hq),hzs4.two⟩
   have k5:Kp [x] H (upd H4 x (.ins C dx (putF "pairs" (.ref p) (putF "row" (.ref r1) [])))):=Kp.put (k2.trans (k4.weak (by simp))) (by simp)
   generalize hH5:upd H4 x (.ins C dx (putF "pairs" (.ref p) (putF "row" (.ref r1) [])))=H5 at hx5 hrow5 hzs5 k5 ⊢
   have e_row:(putF "pairs" (.ref p) (putF "row" (.ref r1) [])).lookup ("row" : Str)=some (.ref r1):=by
    rw [zAu,if_neg (by decide +kernel),zAu,if_pos rfl]
   have e_prs:(putF "pairs" (.ref p) (putF "row" (.ref r1) [])).lookup ("pairs" : Str)=some (.ref p):=by
    rw [zAu,if_pos rfl]
   refine ⟨_,rfl,_,_,_,_,_,rfl,hx5,U.cl,U.n_row,e_row,_,rfl,_,_,_,_,_,rfl,hx5,U.cl,U.n_row,e_row,_,rfl,_,_,_,_,_,rfl,hx5,U.cl,U.n_pairs,e_prs,r1,p,ns,zs,rfl,hrow5,hzs5,G.nd,G.few,by omega,zin,fun d la H6 DD k6=>?_⟩
   refine ⟨r1,d,ns,la,told zs,r,rfl,k6 r1 _ hrow5 (by simp),G.nd,G.few,DD.top,fun n hn=>⟨DD.row n hn,Nat.le_trans (told_len zs n) (by omega),fun y hy=>?_⟩,fun e D fa S H7 FF all k7=>?_⟩
   ·obtain ⟨q,h1,h2,h3⟩:=zF2.mp hy
    obtain ⟨a,b,eab⟩:=hzs5.two q h1
    refine ⟨?_,by rw [<-h2,<-h3];exact zrk q h1⟩
    rw [<-h3]
    refine zin q h1 _ ?_
    unfold fst
    rw [eab];simp
   have k57:Kp [] H5 H7:=k6.trans k7
   have hx7:=k57 x _ hx5 (by simp)
   refine ⟨_,rfl,_,_,_,_,rfl,hx7,U.cl,U.n_above,?_,?_⟩
   ·have h1:=zF0 "row" (V.ref r1) []
    have h2:=zF0 "pairs" (V.ref p) (putF "row" (V.ref r1) [])
    simp only [List.length_nil] at h1
    omega
   have f2H:∀a,Fre H2 a->Fre H a:=fun a ha=>k2.fre ha (nm1 fun z=>by
    subst z
    have:H2 a=some _:=hx2
    unfold Fre at ha
    rw [ha] at this;exact nomatch this)
   have k3p:Kp [] H2 (upd H3 sa (TSt P w sa yk)):=Kp.new k3 (k3.fre fsa (by simp))
   have fpx:Fre H2 p:=k3p.fre fp (by simp)
   have f52:∀a,Fre H5 a->Fre H2 a:=fun a ha=>by
    have h1:Fre H4 a:=by
     have nax:a≠x:=fun z=>by
      subst z
      unfold Fre at ha
      rw [ha] at hx5;exact nomatch hx5
     have:H5 a=H4 a:=by rw [<-hH5];exact upd_ne nax
     unfold Fre at ha ⊢
     rw [<-this];exact ha
    exact k4.fre h1 (by simp)
   have fex:Fre H2 e:=f52 e (k6.fre FF.fr (by simp))
   have ffx:∀n∈D,Fre H2 (fa n):=fun n hn=>f52 _ (k6.fre (FF.frs n hn) (by simp))
   refine k ⟨dx,r1,p,e,ns,zs,D,fa,S⟩ _ ⟨upd_same,?_,⟨?_,fun q hq=>?_,hzs5.two⟩,?_,all,fun n hn=>?_,G.few,zlen,G.nd,z3,zin,fun n hn y=>FF.mem n (all n hn) y⟩ ⟨k1.fre hr1 (by simp),f2H p fpx,f2H e fex,fun q hq=>f2H q.2 (fk q (zk q hq)),fun n hn=>f2H _ (ffx n hn)⟩ rfl zset (Kp.put (k5.trans (k57.weak (by simp))) (by simp))
   ·exact (upd_ne nxr.symm).trans (k57 r1 _ hrow5 (by simp))
   ·have h1:=k57 p _ hzs5.top (by simp)
    exact (upd_ne (zBe h1 hx7 (fun z=>nomatch z))).trans h1
   ·have h1:=k57 _ _ (hzs5.row q hq) (by simp)
    exact (upd_ne (zBe h1 hx7 (fun z=>nomatch z))).trans h1
   ·exact (upd_ne (zBe FF.top hx7 (fun z=>nomatch z))).trans FF.top
   ·exact (upd_ne (zBe (FF.row n hn) hx7 (fun z=>nomatch z))).trans (FF.row n hn)
end
def zBq:List Str:=zDo.cps.toList.map fun c=>⟨#[c]⟩
theorem zD9:zBq.length=26:=by
 unfold zBq
 rw [zDn];simp
theorem singles_nd:zBq.Nodup:=by decide +kernel
theorem single_ok {x:Str} (h:x∈zBq):zHh x:=by
 unfold zBq at h
 rw [zDn] at h
 obtain ⟨c,hc,rfl⟩:=List.mem_map.mp h
 obtain ⟨i,hi,rfl⟩:=List.mem_map.mp hc
 have:=List.mem_range.mp hi
 refine ⟨Nat.le_refl 1,by show 1<=8;decide,fun d hd=>?_⟩
 have:d=97+i:=by simpa using hd
 omega
theorem some_single {found:List Str} (h:found.length<=20):(zBq.filter fun x=>decide (x∉found))≠[]:=fun z=>by
 have:zBq.length<=found.length:=zD7 singles_nd fun x hx=>by
  apply Classical.byContradiction
  intro y
  have:x∈zBq.filter fun x=>decide (x∉found):=List.mem_filter.mpr ⟨hx,decide_eq_true y⟩
  rw [z] at this;exact nomatch this
 rw [zD9] at this
 omega
section
variable {P:Program} {w:World} {K:PySem.W.Frag} {mg:Str->Option Value} {base:Heap}
def spLNames:Sp:=fun vs H Q _=>∃(p:Addr) (m:Int),vs=[.ref p,.int m]/\zB8 H p/\0<=m/\m<=20/\∀(l:Addr) (ns:List Str) (H':Hp),Fre H l->Txs H' l ns->ns.length=m.toNat->ns.Nodup->(∀n∈ns,zHh n)->zB8 H' p->Kp [p] H H'->Q (.ref l) H'
abbrev zH7:Stmt:=top 45
theorem zCo:FnScope ["_law_purse_here", "_law_many", "_law_letters", "_law_found", "_law_k", "_law_word", "_law_j"] ["_law_purse_here", "_law_many"] (zAe zH7):=⟨rfl,rfl,rfl,by decide +kernel,rfl,by decide +kernel,by decide +kernel⟩
theorem ok_names {f:Addr} {fd:FuncData} (F:Fun K "_law_names" "_law_names" zH7 f fd) (T:Txt K mg) (C_take:Cal P w K mg base "_law_take" 1 ["_law_purse_here", "_law_many"] zHj):FnOk P w K mg base CX0 2 f fd ["_law_purse_here", "_law_many"] spLNames:=by
 refine F.ok zCo (fun vs H Q E h=>?_) (fun cdv A outer s H vs Q E hr h=>?_)
 ·obtain ⟨p,m,rfl,_⟩:=h
  rfl
 ·obtain ⟨p,m,rfl,hP,h0,h1,k⟩:=h
  have HR_take:=hr
  refine ⟨_,(zAb (zAj (i:=2) zCo.nd rfl (by walk_at "lc") pe_str)
   (zAb (zAj (i:=3) zCo.nd rfl (by walk_at "lc") (zA0 zAc))
   (zAb (zAx PassesOwn.never rfl (zB4 rfl T.z_range (zAa (pv 1) zAc)) (zAh (i:=4) zCo.nd rfl (by walk_at "lc"))
    (zAb (zAj (i:=5) zCo.nd rfl (by walk_at "lc") pe_str)
    (zAb (zAx PassesOwn.never rfl (zB4 rfl T.z_range (zAa (zAp zCa zAf (zAp zEr (zAg C_take HR_take rfl (zAa (pv 0) (zAa zAf zAc))) (zAg C_take HR_take rfl (zAa (pv 0) (zAa zAf zAc))))) zAc)) (zAh (i:=6) zCo.nd rfl (by walk_at "lc"))
     (zAd (zAj (i:=5) zCo.nd rfl (by walk_at "lc") (zAp op_add_str (pv 5) (zCc ix_str (pv 2) (zAg C_take HR_take rfl (zAa (pv 0) (zAa zAf zAc))) (fun _ _=>rfl))))))
    (zAb (zCb (zAn zGr (pv 5) (pv 3) (by rfl))
     (zAd (zAj (i:=5) zCo.nd rfl (by walk_at "lc") (zCc zA7 (zBh rfl (zBj (sc:=zAe zH7) rfl (by decide +kernel)) (Draws.own (x:= "_law_letter") (Draws.tk (i:=3) rfl (by walk_at "vs") (by walk_at "vk") (by walk_at "vf") Draws.nil)) (pi_str (pv 2)) (fun C s₀ H₀ ex=>(zAh (i:=0) (show List.Nodup (["_law_letter", "_law_found"]:List Str) by decide +kernel) rfl (by walk_at "lc"))) (fun C s₀ H₀ ex=>(zBr (zAn (zDa (K:=K)) (pv 0) (pv 1) (by rfl)))) (fun C s₀ H₀ ex=>(pv 0))) zAf (fun _ _=>rfl))))
     zAw)
    (zAd (zA4 (zEq PySem.F.plainAttrs_list PySem.F.slot_list_append PySem.F.type_list_append zB5 (pv 3) (zAa (pv 5) zAc))))))))
   (zAd (zAs (pv 3)))))),?_⟩
  refine ⟨(by walk_at "ln"),fun l hl=>?_⟩
  have fl:Fre H l:=hl
  have npl:p≠l:=by obtain ⟨a,b,e,_⟩:=hP;exact ne_fre fl e
  have hP1:zB8 (upd H l (.lst [])) p:=hP.kp (M:=[]) (Kp.new Kp.refl fl) (by simp)
  refine ⟨_,rfl,_,rfl,by omega,by omega,zBo (lo:=0) (n:=m.toNat) (fun i σ H2=>∃(o4 o5 o6:Option V) (ws:List Str),σ=[some (.ref p),some (.int m),some (.str zDo),some (.ref l),o4,o5,o6]/\zB8 H2 p/\Kp [p] H H2/\Txs H2 l ws/\ws.length=i/\ws.Nodup/\∀s∈ws,zHh s)
   ⟨none,none,none,[],rfl,hP1,Kp.new Kp.refl fl,upd_same,rfl,List.nodup_nil,fun s h=>nomatch h⟩ ?_ ?_⟩
  ·rintro i σ H2 hi ⟨o4,o5,o6,ws,rfl,P2,K2,R2,e2,n2,q2⟩
   refine ⟨_,rfl,p,2,rfl,P2,by decide,by decide,fun d1 H3 a0 a1 P3 K3=>?_⟩
   refine ⟨_,rfl,p,8,rfl,P3,by decide,by decide,fun d2 H4 b0 b1 P4 K4=>?_⟩
   have hm0:0<=d1*d2:=Int.mul_nonneg a0 b0
   have hm1:d1*d2<=7:=by
    have:d1*d2<=1*7:=Int.mul_le_mul (by omega) (by omega) b0 (by decide)
    omega
   have K24:Kp [p] H2 H4:=K3.trans K4
   refine ⟨_,_,rfl,rfl,(by walk_at "ml"),_,_,rfl,rfl,_,rfl,by omega,by omega,zBo (lo:=0) (n:=(1+d1*d2).toNat) (fun n σ H7=>∃(o4 o6:Option V) (x:Str),σ=[some (.ref p),some (.int m),some (.str zDo),some (.ref l),o4,some (.str x),o6]/\zB8 H7 p/\Kp [p] H2 H7/\WordS n x)
    ⟨_,_,_,rfl,P4,K24,rfl,(fun c h=>absurd (show c∈([]:List Nat) from h) (by simp))⟩ ?_ ?_⟩
   ·rintro n σ H7 hn ⟨o4,o6,x,rfl,P8,K7,W⟩
    refine ⟨_,rfl,_,rfl,_,rfl,p,26,rfl,P8,by decide,by decide,fun d4 H8 e0 e1 P9 K8=>?_⟩
    refine ⟨_,_,_,rfl,rfl,by decide,letters_at e0 e1,_,_,rfl,rfl,?_,?_⟩
    ·rw [W.1]
     show n+1<=sizeLine
     rw [sizeLine_eq];omega
    ·exact ⟨_,_,_,rfl,P9,K7.trans K8,W.more (by omega) (by omega)⟩
   ·rintro σ H7 ⟨o4,o6,x,rfl,P8,K7,W⟩
    have h7:Txs H7 l ws:=K7 l _ R2 (nm1 npl.symm)
    have NX:zHh x:=⟨by have:=W.1;omega,by have:=W.1;omega,W.2⟩
    refine ⟨_,rfl,_,rfl,_,_,rfl,.inl (SqL.of h7),rfl,zBi ws,_,rfl,?_⟩
    rw [if_neg (by decide),zCl]
    refine if_mid (fun σ H8=>∃(y:Str),σ=[some (.ref p),some (.int m),some (.str zDo),some (.ref l),o4,some (.str y),o6]/\Kp [] H7 H8/\zHh y/\y∉ws) (fun N hN=>ite2 (fun c=>?_) (fun c=>?_)) ?_
    ·-- _law_word=[..][0]
     refine ⟨_,rfl,_,rfl,fun B hB=>comp_str (z:=zDo) (fun i ys τ H8=>(∃o0,τ=[o0,some (.ref l)])/\ys=((zBq.take i).filter fun x=>decide (x∉ws)).map V.str/\H8=upd H7 B (.lst ys)) ⟨⟨_,rfl⟩,rfl,rfl⟩ ?_ ?_⟩
     ·rintro i c ys τ H8 hc ⟨⟨o0,rfl⟩,rfl,rfl⟩
      have en:zBq[i]?=some ⟨#[c]⟩:=by unfold zBq;rw [List.getElem?_map,hc];rfl
      refine ⟨_,rfl,_,rfl,_,_,rfl,.inl (SqL.of ((upd_ne (ne_fre (show Fre H7 B from hB) h7)).trans h7)),rfl,zBi ws,_,rfl,?_⟩
      rw [if_pos rfl,zCl]
      have ed:(!decide ((⟨#[c]⟩:Str)∈ws))=decide ((⟨#[c]⟩:Str)∉ws):=by
       by_cases z:(⟨#[c]⟩:Str)∈ws
       ·simp [z]
       ·simp [z]
      rw [ed]
      refine ite2 (fun c=>?_) (fun c=>?_)
      ·refine ⟨_,rfl,upd_same,?_,⟨_,rfl⟩,?_,zBg⟩
       ·rw [List.length_map];exact zBk (by rw [zD9];decide)
       ·rw [zBf (p:=fun x=>decide (x∉ws)) en c,List.map_append];rfl
      ·refine ⟨⟨_,rfl⟩,?_,?_⟩
       ·rw [zBn (p:=fun x=>decide (x∉ws)) en c]
       ·rfl
     ·rintro ys τ H8 ⟨_,rfl,rfl⟩
      have eT:zBq.take zDo.length=zBq:=List.take_of_length_le (by rw [zD9];decide)
      rw [eT]
      have hne:=some_single (found:=ws) (by omega)
      have hmm:∀y,y∈(zBq.filter fun x=>decide (x∉ws))->zHh y/\y∉ws:=fun y hy=>by
       have:=List.mem_filter.mp hy
       exact ⟨single_ok this.1,of_decide_eq_true this.2⟩
      generalize (zBq.filter fun x=>decide (x∉ws))=L at hne hmm
      obtain ⟨y,r,rfl⟩:∃y r,L=y::r:=by
       cases L with
       | nil=>exact absurd rfl hne
       | cons y r=>exact ⟨y,r,rfl⟩
      refine ⟨_,_,_,.str y,rfl,rfl,SqL.of upd_same,zFq (by decide) rfl,?_⟩
      exact hN _ _ ⟨y,rfl,Kp.new Kp.refl hB,(hmm y List.mem_cons_self).1,(hmm y List.mem_cons_self).2⟩
    ·exact hN _ _ ⟨x,rfl,Kp.refl,NX,fun z=>c (decide_eq_true z)⟩
    ·rintro σ H8 ⟨y,rfl,K8,NY,ny⟩
     have h8:Txs H8 l ws:=K8 l _ h7 (by simp)
     refine ⟨_,rfl,.inl ⟨rfl,_,SqL.of h8⟩,_,rfl,_,_,_,rfl,rfl,h8,?_,?_⟩
     ·rw [sizeLine_eq,List.length_map];omega
     ·refine ⟨_,_,_,ws++[y],rfl,(P8.kp K8 (by simp)).kp (M:=[l]) (Kp.put Kp.refl (by simp)) (nm1 npl),Kp.new (K2.trans (K7.trans (K8.weak (by simp)))) fl,?_,by simp [e2],?_,fun s hs=>?_⟩
      ·show upd H8 l _ l=some (.lst ((ws++[y]).map V.str))
       rw [upd_same,List.map_append];rfl
      ·refine List.nodup_append.mpr ⟨n2,by simp,fun a ha b hb=>?_⟩
       rw [List.mem_singleton.mp hb]
       rintro rfl
       exact ny ha
      ·rcases List.mem_append.mp hs with z| z
       ·exact q2 s z
       ·rw [List.mem_singleton.mp z];exact NY
  ·rintro σ H2 ⟨o4,o5,o6,ws,rfl,P2,K2,R2,e2,n2,q2⟩
   exact ⟨_,rfl,k l ws H2 fl R2 e2 n2 q2 P2 K2⟩
end
structure ITs (H:Hp) (l:Addr) (ts:List ((Int×Int)×Addr)):Prop where
 top:H l=some (.lst (ts.map fun t=>V.ref t.2))
 row:∀t∈ts,H t.2=some (.tup [.int t.1.1,.int t.1.2])
theorem ITs.kp {M:List Addr} {H H':Hp} {l:Addr} {ts:List ((Int×Int)×Addr)} (I:ITs H l ts) (k:Kp M H H') (h1:l∉M) (h2:∀t∈ts,t.2∉M):ITs H' l ts:=⟨k l _ I.top h1,fun t ht=>k _ _ (I.row t ht) (h2 t ht)⟩
theorem ITs.more {H:Hp} {l t:Addr} {a b:Int} {ts:List ((Int×Int)×Addr)} (I:ITs H l ts) (ht:H t=some (.tup [.int a,.int b])):ITs (upd H l (.lst (ts.map (fun t=>V.ref t.2)++[.ref t]))) l (ts++[((a,b),t)]):=by
 refine ⟨by rw [upd_same,List.map_append];rfl,fun q hq=>?_⟩
 rcases List.mem_append.mp hq with z| z
 ·exact (upd_ne (zBe (I.row q z) I.top (fun y=>nomatch y))).trans (I.row q z)
 ·rw [List.mem_singleton.mp z]
  exact (upd_ne (zBe ht I.top (fun y=>nomatch y))).trans ht
theorem ITs.same {H:Hp} {l:Addr} {ts:List ((Int×Int)×Addr)} (I:ITs H l ts):ITs (upd H l (.lst (ts.map (fun t=>V.ref t.2)++[]))) l ts:=by
 rw [List.append_nil]
 exact ⟨upd_same,fun q z=>(upd_ne (zBe (I.row q z) I.top (fun y=>nomatch y))).trans (I.row q z)⟩
theorem tri_step (i:Nat):i*(i+1)+2*(i+1)=(i+1)*(i+2):=by
 rw [<-Nat.add_mul,Nat.mul_comm]
theorem inV12 (w:Int):inV (.int w) [.int 1,.int 2]=(decide (w=1)||decide (w=2)):=by
 show ((1==w)||((2==w)||false))=_
 by_cases h1:w=1
 ·subst h1;rfl
 ·by_cases h2:w=2
  ·subst h2;rfl
  ·rw [decide_eq_false h1,decide_eq_false h2,beq_eq_false_iff_ne.mpr (Ne.symm h1),beq_eq_false_iff_ne.mpr (Ne.symm h2)];rfl
def zCy (m:Int) (ts:List ((Int×Int)×Addr)):Prop:=∀t∈ts,0<=t.1.1/\t.1.1<t.1.2/\t.1.2<m
theorem zCy.more {m a b:Int} {t:Addr} {ts:List ((Int×Int)×Addr)} (h:zCy m ts) (h1:0<=a) (h2:a<b) (h3:b<m):zCy m (ts++[((a,b),t)]):=fun q hq=>by
 rcases List.mem_append.mp hq with z| z
 ·exact h q z
 ·rw [List.mem_singleton.mp z];exact ⟨h1,h2,h3⟩
section
variable {P:Program} {w:World} {K:PySem.W.Frag} {mg:Str->Option Value} {base:Heap}
def spLPairs:Sp:=fun vs H Q _=>∃(p:Addr) (m way thin:Int),vs=[.ref p,.int m,.int way,.int thin]/\zB8 H p/\0<=m/\m<=8/\2<=thin/\thin<=12/\∀(l:Addr) (ts:List ((Int×Int)×Addr)) (H':Hp),Fre H l->ITs H' l ts->(∀t∈ts,Fre H t.2)->ts.length<=28->zCy m ts->zB8 H' p->Kp [p] H H'->Q (.ref l) H'
abbrev s_pairs:Stmt:=top 46
theorem zCn:FnScope ["_law_purse_here", "_law_many", "_law_way", "_law_thin", "_law_pairs_here", "_law_j", "_law_far", "_law_i", "_law_near"] ["_law_purse_here", "_law_many", "_law_way", "_law_thin"] (zAe s_pairs):=⟨rfl,rfl,rfl,by decide +kernel,rfl,by decide +kernel,by decide +kernel⟩
theorem ok_pairs {f:Addr} {fd:FuncData} (F:Fun K "_law_pairs" "_law_pairs" s_pairs f fd) (T:Txt K mg) (C_take:Cal P w K mg base "_law_take" 1 ["_law_purse_here", "_law_many"] zHj):FnOk P w K mg base CX0 2 f fd ["_law_purse_here", "_law_many", "_law_way", "_law_thin"] spLPairs:=by
 refine F.ok zCn (fun vs H Q E h=>?_) (fun cdv A outer s H vs Q E hr h=>?_)
 ·obtain ⟨p,m,way,thin,rfl,_⟩:=h
  rfl
 ·obtain ⟨p,m,way,thin,rfl,hP,h0,h1,t0,t1,k⟩:=h
  have HR_take:=hr
  refine ⟨_,(zAb (zAj (i:=4) zCn.nd rfl (by walk_at "lc") (zA0 zAc))
   (zAb (zAx PassesOwn.never rfl (pi_range2 rfl T.z_range (zAa zAf (zAa (pv 1) zAc))) (zAh (i:=5) zCn.nd rfl (by walk_at "lc"))
    (zAb (zAj (i:=6) zCn.nd rfl (by walk_at "lc") zAf)
    (zAb (zCb (zAn op_eq (pv 2) zAf (zAv _))
     (zAb (zAj (i:=6) zCn.nd rfl (by walk_at "lc") (zAg C_take HR_take rfl (zAa (pv 0) (zAa (zAp zCa (zAp zGq (pv 1) (pv 5)) zAf) zAc))))
     (zAd (zA4 (zEq PySem.F.plainAttrs_list PySem.F.slot_list_extend PySem.F.type_list_extend zEu (pv 4) (zAa (zAp op_rep (zA0 (zAa (zDl (zAa (zAp zGq (pv 5) zAf) (zAa (zAp zCa (zAp zGq (pv 5) zAf) (pv 6)) zAc))) zAc)) (zAq zDs (by rfl) T.z_int zG6 (zAa (zCh op_gt (pv 6) zAf (zAv _)) zAc))) zAc)))))
     zAw)
    (zAb (zCb (zAn op_eq (pv 2) zAf (zAv _))
     (zAb (zAj (i:=6) zCn.nd rfl (by walk_at "lc") (zAg C_take HR_take rfl (zAa (pv 0) (zAa (zAp zCa (pv 5) zAf) zAc))))
     (zAd (zA4 (zEq PySem.F.plainAttrs_list PySem.F.slot_list_extend PySem.F.type_list_extend zEu (pv 4) (zAa (zAp op_rep (zA0 (zAa (zDl (zAa (zAp zGq (pv 5) (pv 6)) (zAa (pv 5) zAc))) zAc)) (zAq zDs (by rfl) T.z_int zG6 (zAa (zCh op_gt (pv 6) zAf (zAv _)) zAc))) zAc)))))
     zAw)
    (zAd (zAx PassesOwn.never rfl (zB4 rfl T.z_range (zAa (zAp zEr (pv 5) (zAq zDs (by rfl) T.z_int zG6 (zAa (zCh zDm (pv 2) (zA0 (zAa zAf (zAa zAf zAc))) (by rfl)) zAc))) zAc)) (zAh (i:=7) zCn.nd rfl (by walk_at "lc"))
     (zAb (zAj (i:=8) zCn.nd rfl (by walk_at "lc") (pe_or (zCh op_ne (pv 2) zAf (zAv _)) (pe_one (zCh op_eq (zAp zCa (zAp zIh (pv 7) (pv 3)) zAf) (zAp zIh (pv 5) (pv 3)) (zAv _)))))
     (zAd (zCb (PW.pt (zFn (zD4 (pv 8)) (zEd (zAn op_eq (zCh op_eq (zAg C_take HR_take rfl (zAa (pv 0) (zAa (pv 3) zAc))) zAf (zAv _)) (zCh op_ne (pv 2) zAf (zAv _)) (zAv _)))))
      (zAd (zA4 (zEq PySem.F.plainAttrs_list PySem.F.slot_list_append PySem.F.type_list_append zB5 (pv 4) (zAa (zDl (zAa (pv 7) (zAa (pv 5) zAc))) zAc))))
      zAw)))))))))
   (zAd (zAs (pv 4))))),?_⟩
  refine ⟨(by walk_at "ln"),fun l hl=>?_⟩
  have fl:Fre H l:=hl
  have npl:p≠l:=by obtain ⟨a,b,e,_⟩:=hP;exact ne_fre fl e
  have hP1:zB8 (upd H l (.lst [])) p:=hP.kp (M:=[]) (Kp.new Kp.refl fl) (by simp)
  refine ⟨_,rfl,_,_,rfl,?_,zBo (lo:=1) (n:=(m - 1).toNat) (fun i σ H2=>∃(o5 o6 o7 o8:Option V) (ts:List ((Int×Int)×Addr)),σ=[some (.ref p),some (.int m),some (.int way),some (.int thin),some (.ref l),o5,o6,o7,o8]/\zB8 H2 p/\Kp [p] H H2/\ITs H2 l ts/\(∀t∈ts,Fre H t.2)/\ts.length*2<=i*(i+1)/\zCy m ts)
   ⟨none,none,none,none,[],rfl,hP1,Kp.new Kp.refl fl,⟨upd_same,(fun t h=>nomatch h)⟩,(fun t h=>nomatch h),Nat.zero_le _,(fun t h=>nomatch h)⟩ ?_ ?_⟩
  ·exact ⟨by decide,by decide,by omega,by omega⟩
  ·rintro i σ H2 hi ⟨o5,o6,o7,o8,ts,rfl,P2,K2,R2,f2,e2,q2⟩
   have hi19:i<=18:=by omega
   refine ⟨_,rfl,rfl,_,rfl,if_mid (fun σ H3=>∃(v6:Int) (ts1:List ((Int×Int)×Addr)),σ=[some (.ref p),some (.int m),some (.int way),some (.int thin),some (.ref l),some (.int (1+(i:Int))),some (.int v6),o7,o8]/\zB8 H3 p/\Kp [p] H H3/\ITs H3 l ts1/\(∀t∈ts1,Fre H t.2)/\ts1.length<=ts.length+(if way=1 then 1 else 0)/\zCy m ts1) (fun N hN=>ite2 (fun c=>?_) (fun c=>?_)) ?_⟩
   ·have cw:way=1:=by simpa using c
    refine ⟨_,rfl,_,rfl,_,rfl,_,_,rfl,rfl,_,_,rfl,rfl,p,m - (1+(i:Int))+1,rfl,P2,by omega,by omega,fun d H3 d0 d1 P3 K3=>?_⟩
    have K23:=K2.trans K3
    have R3:ITs H3 l ts:=R2.kp K3 (nm1 npl.symm) fun t ht=>nm1 (by obtain ⟨a,b,e,_⟩:=hP;exact (ne_fre (f2 t ht) e).symm)
    refine ⟨_,rfl,.inl ⟨rfl,_,SqL.of R3.top⟩,_,rfl,_,_,rfl,rfl,_,rfl,_,_,rfl,rfl,_,rfl,_,_,rfl,rfl,(by walk_at "ln"),fun t ht=>?_⟩
    have ft:Fre H3 t:=ht
    refine ⟨(by walk_at "ln"),fun q hq=>?_⟩
    have fq:Fre (upd H3 t _) q:=hq
    have ntq:t≠q:=ne_fre fq upd_same
    refine ⟨_,rfl,_,_,rfl,rfl,.inr ⟨_,rfl,?_⟩⟩
    have nlt:l≠t:=ne_fre ft R3.top
    have h4:∀o,(upd H3 t o) l=some (.lst (ts.map fun t=>V.ref t.2)):=fun o=>(upd_ne nlt).trans R3.top
    have nlq:l≠q:=ne_fre fq (h4 _)
    have fin:∀(b:Bool) (r:Addr),b=decide (0<d)->(upd (upd H3 t (.tup [.int (1+(i:Int) - 1),.int (1+(i:Int) - 1+d)])) q (.lst [.ref t])) r=none ->
      ∃ts1:List ((Int×Int)×Addr),zB8 (upd (upd (upd (upd H3 t (.tup [.int (1+(i:Int) - 1),.int (1+(i:Int) - 1+d)])) q (.lst [.ref t])) r (.lst (List.replicate (if b=true then (1:Int) else 0).toNat [V.ref t]).flatten)) l (.lst (ts.map (fun t=>V.ref t.2)++(List.replicate (if b=true then (1:Int) else 0).toNat [V.ref t]).flatten))) p /\
       Kp [p] H (upd (upd (upd (upd H3 t (.tup [.int (1+(i:Int) - 1),.int (1+(i:Int) - 1+d)])) q (.lst [.ref t])) r (.lst (List.replicate (if b=true then (1:Int) else 0).toNat [V.ref t]).flatten)) l (.lst (ts.map (fun t=>V.ref t.2)++(List.replicate (if b=true then (1:Int) else 0).toNat [V.ref t]).flatten))) /\
       ITs (upd (upd (upd (upd H3 t (.tup [.int (1+(i:Int) - 1),.int (1+(i:Int) - 1+d)])) q (.lst [.ref t])) r (.lst (List.replicate (if b=true then (1:Int) else 0).toNat [V.ref t]).flatten)) l (.lst (ts.map (fun t=>V.ref t.2)++(List.replicate (if b=true then (1:Int) else 0).toNat [V.ref t]).flatten))) l ts1 /\
       (∀t∈ts1,Fre H t.2)/\ts1.length<=ts.length+1/\zCy m ts1:=fun b r hb hr'=>by
     have fr:Fre (upd (upd H3 t (.tup [.int (1+(i:Int) - 1),.int (1+(i:Int) - 1+d)])) q (.lst [.ref t])) r:=hr'
     have kA:Kp [] H3 (upd (upd (upd H3 t (.tup [.int (1+(i:Int) - 1),.int (1+(i:Int) - 1+d)])) q (.lst [.ref t])) r (.lst (List.replicate (if b=true then (1:Int) else 0).toNat [V.ref t]).flatten)):=by
      have a1:Kp [] H3 (upd H3 t (.tup [.int (1+(i:Int) - 1),.int (1+(i:Int) - 1+d)])):=Kp.new Kp.refl ft
      have a2:Kp [] H3 (upd (upd H3 t (.tup [.int (1+(i:Int) - 1),.int (1+(i:Int) - 1+d)])) q (.lst [.ref t])):=Kp.new a1 (a1.fre fq (by simp))
      exact Kp.new a2 (a2.fre fr (by simp))
     have RA:=R3.kp kA (by simp) (by simp)
     have hTt:(upd (upd (upd H3 t (.tup [.int (1+(i:Int) - 1),.int (1+(i:Int) - 1+d)])) q (.lst [.ref t])) r (.lst (List.replicate (if b=true then (1:Int) else 0).toNat [V.ref t]).flatten)) t=some (.tup [.int (1+(i:Int) - 1),.int (1+(i:Int) - 1+d)]):=by
      have b1:(upd (upd H3 t (.tup [.int (1+(i:Int) - 1),.int (1+(i:Int) - 1+d)])) q (.lst [.ref t])) t=some (.tup [.int (1+(i:Int) - 1),.int (1+(i:Int) - 1+d)]):=(upd_ne ntq).trans upd_same
      exact (upd_ne (ne_fre fr b1)).trans b1
     have pA:=P3.kp kA (by simp)
     have kH:Kp [p] H (upd (upd (upd H3 t (.tup [.int (1+(i:Int) - 1),.int (1+(i:Int) - 1+d)])) q (.lst [.ref t])) r (.lst (List.replicate (if b=true then (1:Int) else 0).toNat [V.ref t]).flatten)):=K23.trans (kA.weak (by simp))
     have ntp:t≠p:=by obtain ⟨a,b,e,_⟩:=P3;exact (ne_fre ft e).symm
     have ftH:Fre H t:=K23.fre ft (nm1 ntp)
     by_cases c2:0<d
     ·have eb:b=true:=by rw [hb];exact decide_eq_true c2
      subst eb
      refine ⟨ts++[(((1+(i:Int) - 1),(1+(i:Int) - 1+d)),t)],pA.kp (M:=[l]) (Kp.put Kp.refl (by simp)) (nm1 npl),Kp.new kH fl,RA.more hTt,fun u hu=>?_,by rw [List.length_append];exact Nat.le_refl _,q2.more (by omega) (by omega) (by omega)⟩
      rcases List.mem_append.mp hu with z| z
      ·exact f2 u z
      ·rw [List.mem_singleton.mp z];exact ftH
     ·have eb:b=false:=by rw [hb];exact decide_eq_false c2
      subst eb
      exact ⟨ts,pA.kp (M:=[l]) (Kp.put Kp.refl (by simp)) (nm1 npl),Kp.new kH fl,RA.same,f2,Nat.le_succ _,q2⟩
    refine ⟨_,_,_,rfl,rfl,upd_same,by split<;>decide,by split<;>decide,?_,fun r hr'=>?_⟩
    ·rw [sizeLine_eq];show 1*_<=_;split<;>decide
    have hl6:∀o2 o3,(upd (upd (upd H3 t (.tup [.int (1+(i:Int) - 1),.int (1+(i:Int) - 1+d)])) q o2) r o3) l=some (.lst (ts.map fun t=>V.ref t.2))\/l=r:=fun o2 o3=>by
     by_cases z:l=r
     ·exact .inr z
     ·exact .inl ((upd_ne z).trans ((upd_ne nlq).trans (h4 _)))
    have nlr:l≠r:=ne_fre (show Fre _ r from hr') ((upd_ne nlq).trans (h4 _))
    obtain ⟨ts1,g1,g2,g3,g4,g5,g6⟩:=fin _ r rfl hr'
    refine ⟨_,_,_,_,rfl,rfl,(upd_ne nlr).trans ((upd_ne nlq).trans (h4 _)),upd_same,?_,hN _ _ ⟨d,ts1,rfl,g1,g2,g3,g4,?_,g6⟩⟩
    ·have hl3:ts.length*2<=7*8:=Nat.le_trans e2 (Nat.mul_le_mul (by omega) (by omega))
     rw [List.length_map,len_rep,sizeLine_eq]
     have:(if decide (0<d)=true then (1:Int) else 0).toNat<=1:=by split<;>decide
     simp only [List.length_cons,List.length_nil]
     omega
    ·rw [if_pos cw];exact g5
   ·have cw:¬way=1:=by simpa using c
    exact hN _ _ ⟨0,ts,rfl,P2,K2,R2,f2,Nat.le_add_right _ _,q2⟩
   ·rintro σ H4 ⟨v6,ts1,rfl,P4,K4,R4,f3,e3,q3⟩
    have hle:ts.length*2<=7*8:=Nat.le_trans e2 (Nat.mul_le_mul (by omega) (by omega))
    have hl1:ts1.length<=191:=by
     have:(if way=1 then 1 else 0)<=1:=by split<;>decide
     omega
    refine ⟨_,rfl,rfl,_,rfl,if_mid (fun σ H3=>∃(v6:Int) (ts2:List ((Int×Int)×Addr)),σ=[some (.ref p),some (.int m),some (.int way),some (.int thin),some (.ref l),some (.int (1+(i:Int))),some (.int v6),o7,o8]/\zB8 H3 p/\Kp [p] H H3/\ITs H3 l ts2/\(∀t∈ts2,Fre H t.2)/\ts2.length<=ts.length+(if way=1\/way=2 then 1 else 0)/\zCy m ts2) (fun N hN=>ite2 (fun c=>?_) (fun c=>?_)) ?_⟩
    ·have cw:way=2:=by simpa using c
     refine ⟨_,rfl,_,rfl,_,_,rfl,rfl,p,1+(i:Int)+1,rfl,P4,by omega,by omega,fun d H5 d0 d1 P5 K5=>?_⟩
     have K25:=K4.trans K5
     have R5:ITs H5 l ts1:=R4.kp K5 (nm1 npl.symm) fun t ht=>nm1 (by obtain ⟨a,b,e,_⟩:=hP;exact (ne_fre (f3 t ht) e).symm)
     refine ⟨_,rfl,.inl ⟨rfl,_,SqL.of R5.top⟩,_,rfl,_,rfl,_,_,rfl,rfl,_,rfl,(by walk_at "ln"),fun t ht=>?_⟩
     have ft:Fre H5 t:=ht
     refine ⟨(by walk_at "ln"),fun q hq=>?_⟩
     have fq:Fre (upd H5 t _) q:=hq
     have ntq:t≠q:=ne_fre fq upd_same
     refine ⟨_,rfl,_,_,rfl,rfl,.inr ⟨_,rfl,?_⟩⟩
     have nlt:l≠t:=ne_fre ft R5.top
     have h4:∀o,(upd H5 t o) l=some (.lst (ts1.map fun t=>V.ref t.2)):=fun o=>(upd_ne nlt).trans R5.top
     have nlq:l≠q:=ne_fre fq (h4 _)
     have fin:∀(b:Bool) (r:Addr),b=decide (0<d)->(upd (upd H5 t (.tup [.int (1+(i:Int) - d),.int (1+(i:Int))])) q (.lst [.ref t])) r=none ->
       ∃ts2:List ((Int×Int)×Addr),zB8 (upd (upd (upd (upd H5 t (.tup [.int (1+(i:Int) - d),.int (1+(i:Int))])) q (.lst [.ref t])) r (.lst (List.replicate (if b=true then (1:Int) else 0).toNat [V.ref t]).flatten)) l (.lst (ts1.map (fun t=>V.ref t.2)++(List.replicate (if b=true then (1:Int) else 0).toNat [V.ref t]).flatten))) p /\
        Kp [p] H (upd (upd (upd (upd H5 t (.tup [.int (1+(i:Int) - d),.int (1+(i:Int))])) q (.lst [.ref t])) r (.lst (List.replicate (if b=true then (1:Int) else 0).toNat [V.ref t]).flatten)) l (.lst (ts1.map (fun t=>V.ref t.2)++(List.replicate (if b=true then (1:Int) else 0).toNat [V.ref t]).flatten))) /\
        ITs (upd (upd (upd (upd H5 t (.tup [.int (1+(i:Int) - d),.int (1+(i:Int))])) q (.lst [.ref t])) r (.lst (List.replicate (if b=true then (1:Int) else 0).toNat [V.ref t]).flatten)) l (.lst (ts1.map (fun t=>V.ref t.2)++(List.replicate (if b=true then (1:Int) else 0).toNat [V.ref t]).flatten))) l ts2 /\
        (∀t∈ts2,Fre H t.2)/\ts2.length<=ts1.length+1/\zCy m ts2:=fun b r hb hr'=>by
      have fr:Fre (upd (upd H5 t (.tup [.int (1+(i:Int) - d),.int (1+(i:Int))])) q (.lst [.ref t])) r:=hr'
      have kA:Kp [] H5 (upd (upd (upd H5 t (.tup [.int (1+(i:Int) - d),.int (1+(i:Int))])) q (.lst [.ref t])) r (.lst (List.replicate (if b=true then (1:Int) else 0).toNat [V.ref t]).flatten)):=by
       have a1:Kp [] H5 (upd H5 t (.tup [.int (1+(i:Int) - d),.int (1+(i:Int))])):=Kp.new Kp.refl ft
       have a2:Kp [] H5 (upd (upd H5 t (.tup [.int (1+(i:Int) - d),.int (1+(i:Int))])) q (.lst [.ref t])):=Kp.new a1 (a1.fre fq (by simp))
       exact Kp.new a2 (a2.fre fr (by simp))
      have RA:=R5.kp kA (by simp) (by simp)
      have hTt:(upd (upd (upd H5 t (.tup [.int (1+(i:Int) - d),.int (1+(i:Int))])) q (.lst [.ref t])) r (.lst (List.replicate (if b=true then (1:Int) else 0).toNat [V.ref t]).flatten)) t=some (.tup [.int (1+(i:Int) - d),.int (1+(i:Int))]):=by
       have b1:(upd (upd H5 t (.tup [.int (1+(i:Int) - d),.int (1+(i:Int))])) q (.lst [.ref t])) t=some (.tup [.int (1+(i:Int) - d),.int (1+(i:Int))]):=(upd_ne ntq).trans upd_same
       exact (upd_ne (ne_fre fr b1)).trans b1
      have pA:=P5.kp kA (by simp)
      have kH:Kp [p] H (upd (upd (upd H5 t (.tup [.int (1+(i:Int) - d),.int (1+(i:Int))])) q (.lst [.ref t])) r (.lst (List.replicate (if b=true then (1:Int) else 0).toNat [V.ref t]).flatten)):=K25.trans (kA.weak (by simp))
      have ntp:t≠p:=by obtain ⟨a,b,e,_⟩:=P5;exact (ne_fre ft e).symm
      have ftH:Fre H t:=K25.fre ft (nm1 ntp)
      by_cases c2:0<d
      ·have eb:b=true:=by rw [hb];exact decide_eq_true c2
       subst eb
       refine ⟨ts1++[(((1+(i:Int) - d),(1+(i:Int))),t)],pA.kp (M:=[l]) (Kp.put Kp.refl (by simp)) (nm1 npl),Kp.new kH fl,RA.more hTt,fun u hu=>?_,by rw [List.length_append];exact Nat.le_refl _,q3.more (by omega) (by omega) (by omega)⟩
       rcases List.mem_append.mp hu with z| z
       ·exact f3 u z
       ·rw [List.mem_singleton.mp z];exact ftH
      ·have eb:b=false:=by rw [hb];exact decide_eq_false c2
       subst eb
       exact ⟨ts1,pA.kp (M:=[l]) (Kp.put Kp.refl (by simp)) (nm1 npl),Kp.new kH fl,RA.same,f3,Nat.le_succ _,q3⟩
     refine ⟨_,_,_,rfl,rfl,upd_same,by split<;>decide,by split<;>decide,?_,fun r hr'=>?_⟩
     ·rw [sizeLine_eq];show 1*_<=_;split<;>decide
     have hl6:∀o2 o3,(upd (upd (upd H5 t (.tup [.int (1+(i:Int) - d),.int (1+(i:Int))])) q o2) r o3) l=some (.lst (ts1.map fun t=>V.ref t.2))\/l=r:=fun o2 o3=>by
      by_cases z:l=r
      ·exact .inr z
      ·exact .inl ((upd_ne z).trans ((upd_ne nlq).trans (h4 _)))
     have nlr:l≠r:=ne_fre (show Fre _ r from hr') ((upd_ne nlq).trans (h4 _))
     obtain ⟨ts2,g1,g2,g3,g4,g5,g6⟩:=fin _ r rfl hr'
     refine ⟨_,_,_,_,rfl,rfl,(upd_ne nlr).trans ((upd_ne nlq).trans (h4 _)),upd_same,?_,hN _ _ ⟨d,ts2,rfl,g1,g2,g3,g4,?_,g6⟩⟩
     ·have hl3:ts1.length<=191:=hl1
      rw [List.length_map,len_rep,sizeLine_eq]
      have:(if decide (0<d)=true then (1:Int) else 0).toNat<=1:=by split<;>decide
      simp only [List.length_cons,List.length_nil]
      omega
     ·rw [if_pos (Or.inr cw)];rw [if_neg (by omega)] at e3;omega
    ·have cw:¬way=2:=by simpa using c
     refine hN _ _ ⟨v6,ts1,rfl,P4,K4,R4,f3,?_,q3⟩
     by_cases z:way=1
     ·rw [if_pos z] at e3;rw [if_pos (Or.inl z)];exact e3
     ·rw [if_neg z] at e3;omega
    ·rintro σ H5 ⟨v6,ts2,rfl,P5,K5,R5,f4,e4,q4⟩
     refine ⟨_,rfl,_,rfl,(by walk_at "ln"),fun b hb=>?_⟩
     have fb:Fre H5 b:=hb
     refine ⟨_,_,rfl,.inl (SqL.of upd_same),rfl,rfl,.inr ⟨_,rfl,?_⟩⟩
     rw [if_pos rfl,inV12]
     have npb:p≠b:=by obtain ⟨x,y,e,_⟩:=P5;exact ne_fre fb e
     have nlb:l≠b:=ne_fre fb R5.top
     have hb2:(if (!(decide (way=1)||decide (way=2)))=true then (1:Int) else 0)=0\/((if (!(decide (way=1)||decide (way=2)))=true then (1:Int) else 0)=1/\¬(way=1\/way=2)):=by
      by_cases z:way=1\/way=2
      ·left
       have:(decide (way=1)||decide (way=2))=true:=by
        rcases z with z| z<;>simp [z]
       rw [this];rfl
      ·right
       refine ⟨?_,z⟩
       have:(decide (way=1)||decide (way=2))=false:=by
        rw [decide_eq_false fun y=>z (.inl y),decide_eq_false fun y=>z (.inr y)];rfl
       rw [this];rfl
     generalize (if (!(decide (way=1)||decide (way=2)))=true then (1:Int) else 0)=nn at hb2 ⊢
     have hnn:(1+(i:Int))*nn=0\/((1+(i:Int))*nn=1+i/\¬(way=1\/way=2)):=by
      rcases hb2 with z| ⟨z,z'⟩
      ·left;rw [z];omega
      ·right;rw [z];exact ⟨by omega,z'⟩
     have hmul:(1+(i:Int))*nn=0\/(1+(i:Int))*nn=1+i:=hnn.imp id And.left
     have k5b:Kp [] H5 (upd H5 b (.lst [.int 1,.int 2])):=Kp.new Kp.refl fb
     refine ⟨_,_,rfl,rfl,?_,_,rfl,by omega,by omega,zBo (lo:=0) (n:=((1+(i:Int))*nn).toNat) (fun a σ H6=>∃(o7 o8:Option V) (ts3:List ((Int×Int)×Addr)),σ=[some (.ref p),some (.int m),some (.int way),some (.int thin),some (.ref l),some (.int (1+(i:Int))),some (.int v6),o7,o8]/\zB8 H6 p/\Kp [p] H H6/\ITs H6 l ts3/\(∀t∈ts3,Fre H t.2)/\ts3.length<=ts2.length+a/\zCy m ts3)
      ⟨_,_,ts2,rfl,P5.kp k5b (by simp),K5.trans (k5b.weak (by simp)),R5.kp k5b (by simp) (by simp),f4,Nat.le_refl _,q4⟩ ?_ ?_⟩
     ·rcases hb2 with z| ⟨z,_⟩
      ·rw [z];exact Or.inl ⟨by omega,by omega⟩
      ·rw [z];exact Or.inl ⟨by omega,by omega⟩
     ·rintro a σ H6 ha ⟨o7',o8',ts3,rfl,P6,K6,R6,f5,e5,q5⟩
      have ha':(a:Int)<1+i:=by omega
      refine seq_mid (fun σ H7=>∃bN:Bool,σ=[some (.ref p),some (.int m),some (.int way),some (.int thin),some (.ref l),some (.int (1+(i:Int))),some (.int v6),some (.int (0+(a:Int))),some (.bl bN)]/\H7=H6) (fun N hN=>?_) ?_
      ·refine ⟨_,rfl,rfl,_,rfl,ite2 (fun c=>?_) (fun c=>?_)⟩
       ·exact hN _ _ ⟨true,rfl,rfl⟩
       ·refine ⟨_,rfl,_,rfl,_,_,rfl,rfl,⟨by omega,by omega⟩,_,_,rfl,rfl,_,rfl,_,rfl,_,_,rfl,rfl,⟨by omega,by omega⟩,rfl,?_⟩
        exact hN _ _ ⟨_,rfl,rfl⟩
      ·rintro σ H7 ⟨bN,rfl,rfl⟩
       refine ⟨_,rfl,_,rfl,ite2 (fun c=>?_) (fun c=>?_)⟩
       ·refine ⟨_,rfl,_,rfl,p,thin,rfl,P6,by omega,by omega,fun d H8 d0 d1 P8 K8=>?_⟩
        have R8:ITs H8 l ts3:=R6.kp K8 (nm1 npl.symm) fun t ht=>nm1 (by obtain ⟨x,y,e,_⟩:=hP;exact (ne_fre (f5 t ht) e).symm)
        have K68:=K6.trans K8
        refine ⟨rfl,_,rfl,rfl,rfl,_,rfl,ite2 (fun c=>?_) (fun c=>?_)⟩
        ·-- _law_pairs_here.append((_law_i,_law_j))
         refine ⟨_,rfl,.inl ⟨rfl,_,SqL.of R8.top⟩,_,rfl,_,rfl,(by walk_at "ln"),fun t ht=>?_⟩
         have ft:Fre H8 t:=ht
         have nlt:l≠t:=ne_fre ft R8.top
         have ntp:t≠p:=by obtain ⟨x,y,e,_⟩:=P8;exact (ne_fre ft e).symm
         have k8:Kp [] H8 (upd H8 t (.tup [.int (0+(a:Int)),.int (1+(i:Int))])):=Kp.new Kp.refl ft
         refine ⟨_,_,_,rfl,rfl,(upd_ne nlt).trans R8.top,?_,_,_,ts3++[((0+(a:Int),1+(i:Int)),t)],rfl,(P8.kp k8 (by simp)).kp (M:=[l]) (Kp.put Kp.refl (by simp)) (nm1 npl),Kp.new (K68.trans (k8.weak (by simp))) fl,(R8.kp k8 (by simp) (by simp)).more upd_same,fun u hu=>?_,?_,q5.more (by omega) (by omega) (by omega)⟩
         ·rw [List.length_map,sizeLine_eq]
          have:(if way=1\/way=2 then 1 else 0)<=1:=by split<;>decide
          omega
         ·rcases List.mem_append.mp hu with z| z
          ·exact f5 u z
          ·rw [List.mem_singleton.mp z];exact K68.fre ft (nm1 ntp)
         ·rw [List.length_append];simp only [List.length_cons,List.length_nil];omega
        ·exact ⟨_,_,ts3,rfl,P8,K68,R8,f5,by omega,q5⟩
       ·exact ⟨_,_,ts3,rfl,P6,K6,R6,f5,by omega,q5⟩
     ·rintro σ H6 ⟨o7',o8',ts3,rfl,P6,K6,R6,f5,e5,q5⟩
      refine ⟨_,_,_,_,ts3,rfl,P6,K6,R6,f5,?_,q5⟩
      have:=tri_step i
      have e6:ts3.length<=ts.length+(i+1):=by
       rcases hnn with z| ⟨z,z'⟩
       ·have:(if way=1\/way=2 then 1 else 0)<=1:=by split<;>decide
        rw [z] at e5
        have e5:ts3.length<=ts2.length+0:=e5
        omega
       ·rw [if_neg z'] at e4
        rw [z] at e5
        have:(1+(i:Int)).toNat=i+1:=by omega
        omega
      have e7:(i+1)*(i+1+1)=(i+1)*(i+2):=rfl
      rw [e7,<-this]
      omega
  ·rintro σ H2 ⟨o5,o6,o7,o8,ts,rfl,P2,K2,R2,f2,e2,q2⟩
   have hle:(m - 1).toNat*((m - 1).toNat+1)<=7*8:=Nat.mul_le_mul (by omega) (by omega)
   exact ⟨_,rfl,k l ts H2 fl R2 f2 (by omega) q2 P2 K2⟩
end
theorem zG0 {α:Type} [BEq α] [LawfulBEq α]:∀{L:List α} {i:Nat} {x:α},L.Nodup->L[i]?=some x->L.idxOf x=i
 | [],i,x,_,h=>by simp at h
 | y::L,0,x,_,h=>by
  have:y=x:=Option.some.inj h
  subst this
  simp
 | y::L,i+1,x,hn,h=>by
  rw [List.getElem?_cons_succ] at h
  obtain ⟨h1,h2⟩:=List.nodup_cons.mp hn
  have hne:y≠x:=fun z=>h1 (z▸List.mem_of_getElem? h)
  rw [List.idxOf_cons,beq_eq_false_iff_ne.mpr hne]
  show L.idxOf x+1=i+1
  rw [zG0 h2 h]
theorem zCi {α β:Type} {f:α->β}:∀{L:List α},L.Nodup->(∀a∈L,∀b∈L,f a=f b->a=b)->(L.map f).Nodup
 | [],_,_=>List.nodup_nil
 | x::L,h,hi=>by
  obtain ⟨h1,h2⟩:=List.nodup_cons.mp h
  rw [List.map_cons]
  refine List.nodup_cons.mpr ⟨fun z=>?_,zCi h2 fun a ha b hb=>hi a (List.mem_cons_of_mem _ ha) b (List.mem_cons_of_mem _ hb)⟩
  obtain ⟨y,hy,e⟩:=List.mem_map.mp z
  rw [hi y (List.mem_cons_of_mem _ hy) x List.mem_cons_self e] at hy
  exact h1 hy
theorem ne_nil_read {K:PySem.W.Frag} {H:Hp} {c e:Addr} {xs:List V} {Q:VK} (h1:SqL K H c xs) (h2:SqL K H e []) (h:∀bb:Bool,(bb=true->xs≠[])->Q (.bl bb) H):zGl K 8 false (.ref c) (.ref e) H Q\/zGk K true (.ref c) (.ref e) H Q:=by
 by_cases z:xs=[]
 ·subst z
  exact .inl ⟨c,e,_,_,rfl,rfl,h1,h2,rfl,(fun i x y h=>by simp at h),h false (fun z=>nomatch z)⟩
 ·refine .inr ⟨c,e,_,_,rfl,rfl,h1,h2,fun y=>z (List.length_eq_zero_iff.mp y),h true fun _=>z⟩
structure Spots (Is:List Int) (m:Nat):Prop where
 len:Is.length=m
 nd:Is.Nodup
 lt:∀x∈Is,0<=x/\x<m
theorem Spots.put {Is:List Int} {m:Nat} (S:Spots Is m) (d:Nat):Spots (Is.take d++(m:Int)::Is.drop d) (m+1):=by
 have hp:=ST.ins_perm Is d (m:Int)
 refine ⟨by rw [hp.length_eq,List.length_cons,S.len],hp.nodup_iff.mpr (List.nodup_cons.mpr ⟨fun z=>?_,S.nd⟩),fun x hx=>?_⟩
 ·have:=(S.lt _ z).2;omega
 ·rcases List.mem_cons.mp (hp.mem_iff.mp hx) with z| z
  ·subst z;omega
  ·have:=S.lt x z;omega
def rowOf (ns:List Str) (Is:List Int):List Str:=Is.map fun k=>ns.getD k.toNat Str.empty
theorem rowOf_nd {ns:List Str} {Is:List Int} (hn:ns.Nodup) (S:Spots Is ns.length):(rowOf ns Is).Nodup:=by
 refine zCi S.nd fun a ha b hb e=>?_
 have h1:=S.lt a ha
 have h2:=S.lt b hb
 have e1:ns.getD a.toNat Str.empty=ns[a.toNat]'(by omega):=by rw [List.getD_eq_getElem?_getD,List.getElem?_eq_getElem (by omega)];rfl
 have e2:ns.getD b.toNat Str.empty=ns[b.toNat]'(by omega):=by rw [List.getD_eq_getElem?_getD,List.getElem?_eq_getElem (by omega)];rfl
 rw [e1,e2] at e
 have:=(List.getElem_inj hn).mp e
 omega
theorem rowOf_at {ns:List Str} {Is:List Int} (S:Spots Is ns.length) {i:Int} (h0:0<=i) (h1:i<ns.length):∃s n,Is[i.toNat]?=some s/\0<=s/\ns[s.toNat]?=some n/\(rowOf ns Is)[i.toNat]?=some n:=by
 have hi:i.toNat<Is.length:=by rw [S.len];omega
 have hs:=S.lt Is[i.toNat] (List.getElem_mem hi)
 have hs':Is[i.toNat].toNat<ns.length:=by omega
 refine ⟨Is[i.toNat],ns[Is[i.toNat].toNat],List.getElem?_eq_getElem hi,hs.1,List.getElem?_eq_getElem hs',?_⟩
 unfold rowOf
 rw [List.getElem?_map,List.getElem?_eq_getElem hi]
 show some (ns.getD _ _)=_
 rw [List.getD_eq_getElem?_getD,List.getElem?_eq_getElem hs'];rfl
theorem ins_map {α β:Type} (f:α->β) (L:List α) (d:Nat) (x:α):(L.map f).take d++f x::(L.map f).drop d=(L.take d++x::L.drop d).map f:=by
 rw [List.map_append,List.map_cons,List.map_take,List.map_drop]
theorem it_at {ts:List ((Int×Int)×Addr)} {i:Nat} {v:V} (h:(ts.map fun q=>V.ref q.2)[i]?=some v):∃q,ts[i]?=some q/\v= .ref q.2:=by
 rw [List.getElem?_map] at h
 obtain ⟨n,e,r⟩:=Option.map_eq_some_iff.mp h
 exact ⟨n,e,r.symm⟩
section
variable {P:Program} {w:World} {K:PySem.W.Frag} {mg:Str->Option Value} {base:Heap}
def spLJobs:Sp:=fun vs H Q _=>∃(p:Addr) (mo:Int),vs=[.ref p,.int mo]/\0<=mo/\mo<=8/\zB8 H p/\∀(t l m:Addr) (ns:List Str) (qs:List (List Str×Addr)) (r:Str->Nat) (H':Hp),(ns.length:Int)<=mo->qs.length<=30->H' t=some (.tup [.ref l,.ref m])->Fre H t->Fre H l->Fre H m->(∀q∈qs,Fre H q.2)->Txs H' l ns->Ords H' m qs->Good ns qs r->zB8 H' p->Kp [p] H H'->Q (.ref t) H'
abbrev s_jobs:Stmt:=top 47
theorem zC4:FnScope ["_law_purse_here", "_law_most", "_law_many", "_law_names_here", "_law_way", "_law_thin", "_law_pairs_here", "_law_k", "_law_spots"] ["_law_purse_here", "_law_most"] (zAe s_jobs):=⟨rfl,rfl,rfl,by decide +kernel,rfl,by decide +kernel,by decide +kernel⟩
theorem ok_jobs {f:Addr} {fd:FuncData} (F:Fun K "_law_jobs" "_law_jobs" s_jobs f fd) (T:Txt K mg) (C_take:Cal P w K mg base "_law_take" 1 ["_law_purse_here", "_law_many"] zHj) (C_names:Cal P w K mg base "_law_names" 2 ["_law_purse_here", "_law_many"] spLNames)
  (C_pairs:Cal P w K mg base "_law_pairs" 2 ["_law_purse_here", "_law_many", "_law_way", "_law_thin"] spLPairs):FnOk P w K mg base CX0 3 f fd ["_law_purse_here", "_law_most"] spLJobs:=by
 refine F.ok zC4 (fun vs H Q E h=>?_) (fun cdv A outer s H vs Q E hr h=>?_)
 ·obtain ⟨p,mo,rfl,_⟩:=h
  rfl
 ·obtain ⟨p,mo,rfl,mo0,mo1,hP,k⟩:=h
  have HR_names:=hr
  have HR_pairs:=hr
  have HR_take:=hr.mono (j:=1) (by decide)
  refine ⟨_,(zAb (zAj (i:=2) zC4.nd rfl (by walk_at "lc") (zAg C_take HR_take rfl (zAa (pv 0) (zAa (zAp zCa (pv 1) zAf) zAc))))
   (zAb (zAj (i:=3) zC4.nd rfl (by walk_at "lc") (zAg C_names HR_names rfl (zAa (pv 0) (zAa (pv 2) zAc))))
   (zAb (zAj (i:=4) zC4.nd rfl (by walk_at "lc") (zAg C_take HR_take rfl (zAa (pv 0) (zAa zAf zAc))))
   (zAb (zAj (i:=5) zC4.nd rfl (by walk_at "lc") (zCc zA7 (zA0 (zAa zAf (zAa zAf (zAa zAf (zAa zAf (zAa zAf zAc)))))) (zAg C_take HR_take rfl (zAa (pv 0) (zAa zAf zAc))) (fun _ _=>rfl)))
   (zAb (zAj (i:=6) zC4.nd rfl (by walk_at "lc") (zAg C_pairs HR_pairs rfl (zAa (pv 0) (zAa (pv 2) (zAa (pv 4) (zAa (pv 5) zAc))))))
   (zAb (zAx PassesOwn.never rfl (zB4 rfl T.z_range (zAa (zAp zEr (zAq zDs (by rfl) T.z_int zG6 (zAa (zCh (op_neAU HR_take) (pv 6) (zA0 zAc) (zAv _)) zAc)) (zAg C_take HR_take rfl (zAa (pv 0) (zAa zAf zAc)))) zAc)) (zAh (i:=7) zC4.nd rfl (by walk_at "lc"))
    (zAd (zA4 (zEq PySem.F.plainAttrs_list PySem.F.slot_list_insert PySem.F.type_list_insert mt_insert (pv 6) (zAa (zAg C_take HR_take rfl (zAa (pv 0) (zAa (zAp zCa (zAl zAo (by rfl) T.z_len zCt (zAa (pv 6) zAc)) zAf) zAc))) (zAa (zCc zA7 (pv 6) (zAg C_take HR_take rfl (zAa (pv 0) (zAa (zAl zAo (by rfl) T.z_len zCt (zAa (pv 6) zAc)) zAc))) (fun _ _=>rfl)) zAc))))))
   (zAb (zAj (i:=8) zC4.nd rfl (by walk_at "lc") (zA0 zAc))
   (zAb (zAx PassesOwn.never rfl (zB4 rfl T.z_range (zAa (pv 2) zAc)) (zAh (i:=7) zC4.nd rfl (by walk_at "lc"))
    (zAd (zA4 (zEq PySem.F.plainAttrs_list PySem.F.slot_list_insert PySem.F.type_list_insert mt_insert (pv 8) (zAa (zAg C_take HR_take rfl (zAa (pv 0) (zAa (zAp zCa (pv 7) zAf) zAc))) (zAa (pv 7) zAc))))))
   (zAd (zAs (zDl (zAa (pv 3) (zAa (zBh rfl (zBj (sc:=zAe s_jobs) rfl (by decide +kernel)) (Draws.own (x:= "_law_i") (Draws.own (x:= "_law_j") (Draws.tk (i:=3) rfl (by walk_at "vs") (by walk_at "vk") (by walk_at "vf") (Draws.tk (i:=8) rfl (by walk_at "vs") (by walk_at "vk") (by walk_at "vf") Draws.nil)))) (zAm (pv 6)) (fun C s₀ H₀ ex=>(zIe (K:=K) (n:=2) rfl (zAt (zAh (i:=0) (show List.Nodup (["_law_i", "_law_j", "_law_names_here", "_law_spots"]:List Str) by decide +kernel) rfl (by walk_at "lc")) (zAt (zAh (i:=1) (show List.Nodup (["_law_i", "_law_j", "_law_names_here", "_law_spots"]:List Str) by decide +kernel) rfl (by walk_at "lc")) zC9)))) (fun C s₀ H₀ ex=>zDk) (fun C s₀ H₀ ex=>(zDl (zAa (zCc (zF4 (K:=K)) (pv 2) (zCc (zF4 (K:=K)) (pv 3) (pv 0) (fun _ _=>rfl)) (fun _ _=>rfl)) (zAa (zCc (zF4 (K:=K)) (pv 2) (zCc (zF4 (K:=K)) (pv 3) (pv 1) (fun _ _=>rfl)) (fun _ _=>rfl)) zAc))))) zAc))))))))))))),?_⟩
  refine ⟨_,rfl,_,rfl,_,_,rfl,rfl,p,mo+1,rfl,hP,by omega,by omega,fun m H1 m0 m1 P1 K1=>?_⟩
  refine ⟨_,rfl,_,rfl,p,m,rfl,P1,m0,by omega,fun l ns H2 fl hl en nd nm P2 K2=>?_⟩
  have npl:p≠l:=by obtain ⟨a,b,e,_⟩:=P1;exact ne_fre fl e
  refine ⟨_,rfl,p,6,rfl,P2,by decide,by decide,fun way H3 w0 w1 P3 K3=>?_⟩
  refine ⟨(by walk_at "ln"),fun b hb=>?_⟩
  have fb:Fre H3 b:=hb
  have npb:p≠b:=by obtain ⟨x,y,e,_⟩:=P3;exact ne_fre fb e
  refine ⟨_,rfl,p,5,rfl,P3.kp (M:=[]) (Kp.new Kp.refl fb) (by simp),by decide,by decide,fun d H4 d0 d1 P4 K4=>?_⟩
  obtain ⟨th,hth,th2,th12⟩:∃th:Int,([V.int 2,.int 3,.int 4,.int 6,.int 12])[d.toNat]?=some (.int th)/\2<=th/\th<=12:=by
   have:d=0\/d=1\/d=2\/d=3\/d=4:=by omega
   rcases this with rfl| rfl| rfl| rfl| rfl
   ·exact ⟨2,rfl,by decide,by decide⟩
   ·exact ⟨3,rfl,by decide,by decide⟩
   ·exact ⟨4,rfl,by decide,by decide⟩
   ·exact ⟨6,rfl,by decide,by decide⟩
   ·exact ⟨12,rfl,by decide,by decide⟩
  refine ⟨_,_,_,.int th,rfl,rfl,SqL.of (K4 b _ upd_same (nm1 npb.symm)),zFq d0 hth,?_⟩
  have K34:Kp [p] H3 H4:=Kp.trans (Kp.new Kp.refl fb) K4
  have K14:Kp [p] H1 H4:=K2.trans (K3.trans K34)
  have hl4:Txs H4 l ns:=(K3.trans K34) l _ hl (nm1 npl.symm)
  refine ⟨_,rfl,_,rfl,_,rfl,_,rfl,p,m,way,th,rfl,P4,m0,by omega,th2,th12,fun c ts H5 fc I5 ft5 tl5 ok5 P5 K5=>?_⟩
  have npc:p≠c:=by obtain ⟨x,y,e,_⟩:=P4;exact ne_fre fc e
  have hl5:Txs H5 l ns:=K5 l _ hl4 (nm1 npl.symm)
  have nlc:l≠c:=ne_fre fc hl4
  have K05:Kp [p] H H5:=K1.trans (K14.trans K5)
  have fcH:Fre H c:=(K1.trans K14).fre fc (nm1 npc.symm)
  have flH:Fre H l:=K1.fre fl (nm1 npl.symm)
  refine ⟨_,rfl,(by walk_at "ln"),fun e he=>?_⟩
  have fe:Fre H5 e:=he
  have npe:p≠e:=by obtain ⟨x,y,q,_⟩:=P5;exact ne_fre fe q
  have k5e:Kp [] H5 (upd H5 e (.lst [])):=Kp.new Kp.refl fe
  have I5e:=I5.kp k5e (by simp) (by simp)
  refine ne_nil_read (xs:=ts.map fun t=>V.ref t.2) (SqL.of I5e.top) (SqL.of upd_same) fun bb hbb=>?_
  refine .inr ⟨bb,rfl,?_⟩
  refine ⟨_,rfl,p,3,rfl,P5.kp k5e (by simp),by decide,by decide,fun dd H6 dd0 dd1 P6 K6=>?_⟩
  have K56:Kp [p] H5 H6:=Kp.trans (k5e.weak (by simp)) K6
  have ntp:∀t∈ts,t.2∉[p]:=fun t ht=>nm1 (by obtain ⟨x,y,q,_⟩:=P4;exact (ne_fre (ft5 t ht) q).symm)
  have I6:ITs H6 c ts:=I5e.kp K6 (nm1 npc.symm) ntp
  have hmul:(if bb=true then (1:Int) else 0)*dd=0\/((if bb=true then (1:Int) else 0)*dd=dd/\ts≠[]):=by
   cases bb with
   | false=>left;rw [if_neg (by decide)];omega
   | true=>right;rw [if_pos rfl];exact ⟨by omega,fun z=>hbb rfl (by rw [z];rfl)⟩
  have hml:(if bb=true then (1:Int) else 0)=0\/(if bb=true then (1:Int) else 0)=1:=by cases bb<;>simp
  generalize (if bb=true then (1:Int) else 0)=n01 at hmul hml ⊢
  refine ⟨_,_,rfl,rfl,?_,_,rfl,by rcases hmul with z| ⟨z,_⟩<;>omega,by rcases hmul with z| ⟨z,_⟩<;>omega,zBo (lo:=0) (n:=(n01*dd).toNat) (fun i σ H7=>∃(o7 o8:Option V) (ts':List ((Int×Int)×Addr)),σ=[some (.ref p),some (.int mo),some (.int m),some (.ref l),some (.int way),some (.int th),some (.ref c),o7,o8]/\zB8 H7 p/\Kp [p] H H7/\Txs H7 l ns/\ITs H7 c ts'/\(∀t∈ts',t∈ts)/\ts'.length=ts.length+i)
   ⟨_,_,ts,rfl,P6,K05.trans K56,K56 l _ hl5 (nm1 npl.symm),I6,fun t h=>h,rfl⟩ ?_ ?_⟩
  ·rcases hml with z| z
   ·exact Or.inl ⟨by omega,by omega⟩
   ·exact Or.inl ⟨by omega,by omega⟩
  ·rintro i σ H7 hi ⟨o7,o8,ts',rfl,P7,K7,hl7,I7,s7,e7⟩
   have ne:ts≠[]:=by
    rcases hmul with z| ⟨_,z⟩
    ·rw [z] at hi;exact absurd hi (Nat.not_lt_zero _)
    ·exact z
   have pos:0<ts'.length:=by
    have:=List.length_pos_iff.mpr ne
    omega
   have ntp':∀t∈ts',t.2∉[p]:=fun t ht=>ntp t (s7 t ht)
   have nlc':l≠c:=nlc
   refine ⟨_,rfl,.inl ⟨rfl,_,SqL.of I7.top⟩,_,rfl,_,rfl,_,_,rfl,.inl (SqL.of I7.top),_,_,rfl,rfl,p,_,rfl,P7,?_,?_,fun d1 H8 x0 x1 P8 K8=>?_⟩
   ·omega
   ·rw [List.length_map]
    have:i<3:=by rcases hmul with z| ⟨z,_⟩<;>omega
    omega
   have I8:ITs H8 c ts':=I7.kp K8 (nm1 npc.symm) ntp'
   refine ⟨_,rfl,_,rfl,_,rfl,_,_,rfl,.inl (SqL.of I8.top),p,_,rfl,P8,?_,?_,fun d2 H9 y0 y1 P9 K9=>?_⟩
   ·rw [List.length_map];omega
   ·rw [List.length_map]
    have:i<3:=by rcases hmul with z| ⟨z,_⟩<;>omega
    omega
   have I9:ITs H9 c ts':=I8.kp K9 (nm1 npc.symm) ntp'
   rw [List.length_map] at x1 y1
   obtain ⟨t,et⟩:∃t,ts'[d2.toNat]?=some t:=⟨ts'[d2.toNat]'(by omega),List.getElem?_eq_getElem (by omega)⟩
   have evt:(ts'.map fun t=>V.ref t.2)[d2.toNat]?=some (V.ref t.2):=by rw [List.getElem?_map,et];rfl
   refine ⟨_,_,_,.ref t.2,rfl,rfl,SqL.of I9.top,zFq y0 evt,_,_,_,_,rfl,rfl,I9.top,?_,x0,?_,?_⟩
   ·rw [List.length_map,sizeLine_eq]
    have:i<3:=by rcases hmul with z| ⟨z,_⟩<;>omega
    omega
   ·rw [List.length_map];omega
   ·have hp:=ST.ins_perm ts' d1.toNat t
    refine ⟨_,_,ts'.take d1.toNat++t::ts'.drop d1.toNat,rfl,P9.kp (M:=[c]) (Kp.put Kp.refl (by simp)) (nm1 npc),Kp.new (K7.trans (K8.trans K9)) fcH,(upd_ne nlc).trans ((K8.trans K9) l _ hl7 (nm1 npl.symm)),⟨?_,fun u hu=>?_⟩,fun u hu=>?_,?_⟩
    ·rw [upd_same,ins_map (fun t:(Int×Int)×Addr=>V.ref t.2)]
    ·have hu':u∈ts':=by
      rcases List.mem_cons.mp (hp.mem_iff.mp hu) with z| z
      ·rw [z];exact List.mem_of_getElem? et
      ·exact z
     exact (upd_ne (zBe (I9.row u hu') I9.top (fun y=>nomatch y))).trans (I9.row u hu')
    ·rcases List.mem_cons.mp (hp.mem_iff.mp hu) with z| z
     ·rw [z];exact s7 t (List.mem_of_getElem? et)
     ·exact s7 u z
    ·rw [hp.length_eq,List.length_cons,e7];omega
  ·rintro σ H7 ⟨o7,o8,ts',rfl,P7,K7,hl7,I7,s7,e7⟩
   have hts:ts'.length<=30:=by rcases hmul with z| ⟨z,_⟩<;>omega
   refine ⟨(by walk_at "ln"),fun g hg=>?_⟩
   have fg:Fre H7 g:=hg
   have npg:p≠g:=by obtain ⟨x,y,q,_⟩:=P7;exact ne_fre fg q
   have nlg:l≠g:=ne_fre fg hl7
   have ncg:c≠g:=ne_fre fg I7.top
   have fgH:Fre H g:=K7.fre fg (nm1 npg.symm)
   have k7g:Kp [] H7 (upd H7 g (.lst [])):=Kp.new Kp.refl fg
   have ntp':∀t∈ts',t.2∉[p]:=fun t ht=>ntp t (s7 t ht)
   refine ⟨_,rfl,_,rfl,by omega,by omega,zBo (lo:=0) (n:=m.toNat) (fun i σ H8=>∃(o7:Option V) (Is:List Int),σ=[some (.ref p),some (.int mo),some (.int m),some (.ref l),some (.int way),some (.int th),some (.ref c),o7,some (.ref g)]/\zB8 H8 p/\Kp [p] H H8/\Txs H8 l ns/\ITs H8 c ts'/\H8 g=some (.lst (Is.map V.int))/\Spots Is i)
    ⟨_,[],rfl,P7.kp k7g (by simp),Kp.new K7 fgH,k7g l _ hl7 (by simp),I7.kp k7g (by simp) (by simp),upd_same,rfl,List.nodup_nil,(fun x h=>nomatch h)⟩ ?_ ?_⟩
   ·rintro i σ H8 hi ⟨o7,Is,rfl,P8,K8,hl8,I8,hg8,S8⟩
    refine ⟨_,rfl,.inl ⟨rfl,_,SqL.of hg8⟩,_,rfl,_,rfl,_,_,rfl,rfl,p,_,rfl,P8,?_,?_,fun d1 H9 x0 x1 P9 K9=>?_⟩
    ·omega
    ·omega
    have hg9:=K9 g _ hg8 (nm1 npg.symm)
    refine ⟨_,rfl,_,_,_,_,rfl,rfl,hg9,?_,x0,?_,?_⟩
    ·rw [List.length_map,S8.len,sizeLine_eq];omega
    ·rw [List.length_map,S8.len];omega
    ·have e1:(Is.map V.int).take d1.toNat++V.int (0+(i:Int))::(Is.map V.int).drop d1.toNat=(Is.take d1.toNat++(i:Int)::Is.drop d1.toNat).map V.int:=by
      rw [Int.zero_add];exact ins_map V.int Is d1.toNat (i:Int)
     rw [e1]
     have hl9:=K9 l _ hl8 (nm1 npl.symm)
     have I9:=I8.kp K9 (nm1 npc.symm) ntp'
     exact ⟨_,_,rfl,P9.kp (M:=[g]) (Kp.put Kp.refl (by simp)) (nm1 npg),Kp.new (K8.trans K9) fgH,(upd_ne nlg).trans hl9,⟨(upd_ne ncg).trans I9.top,fun u hu=>(upd_ne (zBe (I9.row u hu) hg9 (fun y=>nomatch y))).trans (I9.row u hu)⟩,upd_same,S8.put _⟩
   ·rintro σ H8 ⟨o7,Is,rfl,P8,K8,hl8,I8,hg8,S8⟩
    rw [<-en] at S8
    have hmn:(ns.length:Int)=m:=by rw [en];omega
    refine ⟨_,rfl,_,rfl,_,rfl,⟨_,SqL.of I8.top⟩,fun B hB=>zB1 (ts'.map fun t=>V.ref t.2) (fun i ys τ H9=>∃ks:List (List Str×Addr),(∃o0 o1,τ=[o0,o1,some (.ref l),some (.ref g)])/\ys=(ks.map fun q=>V.ref q.2)/\ks.length=i/\(∀q∈ks,H9 q.2=some (.tup (q.1.map V.str))/\Fre H q.2/\∃(a b:Str) (x y:Nat),q.1=[a,b]/\x<y/\(rowOf ns Is)[x]?=some a/\(rowOf ns Is)[y]?=some b)/\Kp [] H8 H9/\H9 B=some (.lst ys))
     ⟨[],⟨_,_,rfl⟩,rfl,rfl,(fun q h=>nomatch h),Kp.new Kp.refl hB,upd_same⟩ (fun i ys τ H9 ⟨_,_,_,_,_,k9,_⟩=>SqL.of (k9 c _ I8.top (by simp))) ?_ ?_⟩
    ·rintro i v ys τ H9 hv ⟨ks,⟨o0,o1,rfl⟩,rfl,ek,hk,k9,h9⟩
     obtain ⟨t,eq,rfl⟩:=it_at hv
     have mt:=List.mem_of_getElem? eq
     have okt:=ok5 t (s7 t mt)
     have hrow:H9 t.2=some (.tup [.int t.1.1,.int t.1.2]):=k9 t.2 _ (I8.row t mt) (by simp)
     refine ⟨_,_,rfl,.inl (.inl hrow),rfl,_,_,rfl,_,_,rfl,rfl,?_⟩
     obtain ⟨s1,n1,a1,a2,a3,a4⟩:=rowOf_at S8 okt.1 (by omega)
     obtain ⟨s2,n2,b1,b2,b3,b4⟩:=rowOf_at S8 (i:=t.1.2) (by omega) (by omega)
     have hl9:=k9 l _ hl8 (by simp)
     have hg9:=k9 g _ hg8 (by simp)
     have ai:∀{x:Int} {s:Int},0<=x->Is[x.toNat]?=some s->atI (Is.map V.int) x=some (.int s):=fun h0 h=>zFq h0 (by rw [List.getElem?_map,h];rfl)
     have an:∀{x:Int} {n:Str},0<=x->ns[x.toNat]?=some n->atI (ns.map V.str) x=some (.str n):=fun h0 h=>zFq h0 (by rw [List.getElem?_map,h];rfl)
     refine ⟨_,rfl,_,rfl,_,rfl,_,_,_,_,rfl,rfl,SqL.of hg9,ai okt.1 a1,_,_,_,_,rfl,rfl,SqL.of hl9,an a2 a3,_,rfl,_,rfl,_,rfl,_,_,_,_,rfl,rfl,SqL.of hg9,ai (by omega) b1,_,_,_,_,rfl,rfl,SqL.of hl9,an b2 b3,(by walk_at "ln"),fun u hu=>?_⟩
     have fu:Fre H9 u:=hu
     have nBu:B≠u:=ne_fre fu h9
     have hu8:Fre H8 u:=k9.fre fu (by simp)
     have npu:p≠u:=by obtain ⟨x,y,q,_⟩:=P8;exact ne_fre hu8 q
     have fuH:Fre H u:=K8.fre hu8 (nm1 npu.symm)
     refine ⟨(upd_ne nBu).trans h9,?_,ks++[([n1,n2],u)],⟨_,_,rfl⟩,?_,by rw [List.length_append,ek];rfl,fun q hq=>?_,Kp.new (Kp.new k9 (k9.fre fu (by simp))) hB,upd_same⟩
     ·have:=(List.getElem?_eq_some_iff.mp eq).1
      rw [List.length_map,ek,sizeLine_eq];omega
     ·rw [List.map_append];rfl
     ·rcases List.mem_append.mp hq with z| z
      ·obtain ⟨z1,z2⟩:=hk q z
       exact ⟨(upd_ne (zBe z1 h9 (fun y=>nomatch y))).trans ((upd_ne (ne_fre fu z1)).trans z1),z2⟩
      ·rw [List.mem_singleton.mp z]
       exact ⟨(upd_ne nBu.symm).trans upd_same,fuH,n1,n2,t.1.1.toNat,t.1.2.toNat,rfl,by omega,a4,b4⟩
    ·rintro ys τ H9 ⟨ks,_,rfl,ek,hk,k9,h9⟩
     rw [List.length_map] at ek
     refine ⟨(by walk_at "ln"),fun t ht=>?_⟩
     have ft:Fre H9 t:=ht
     have k10:Kp [] H9 (upd H9 t (.tup [.ref l,.ref B])):=Kp.new Kp.refl ft
     have ft8:Fre H8 t:=k9.fre ft (by simp)
     have npt:p≠t:=by obtain ⟨x,y,q,_⟩:=P8;exact ne_fre ft8 q
     have npB:p≠B:=by obtain ⟨x,y,q,_⟩:=P8;exact ne_fre (show Fre H8 B from hB) q
     have rnd:=rowOf_nd nd S8
     have rin:∀{x:Nat} {a:Str},(rowOf ns Is)[x]?=some a->a∈ns:=fun {x a} h=>by
      obtain ⟨s,hs,e⟩:=List.mem_map.mp (List.mem_of_getElem? h)
      have:=S8.lt s hs
      rw [<-e,List.getD_eq_getElem?_getD,List.getElem?_eq_getElem (by omega)]
      exact List.getElem_mem _
     refine k t l B ns ks (fun n=>(rowOf ns Is).idxOf n) _ (by rw [en];omega) (by omega) upd_same (K8.fre ft8 (nm1 npt.symm)) flH (K8.fre (show Fre H8 B from hB) (nm1 npB.symm)) (fun q hq=>(hk q hq).2.1) ((k9.trans k10) l _ hl8 (by simp)) ⟨k10 B _ h9 (by simp),fun q hq=>k10 _ _ (hk q hq).1 (by simp),fun q hq=>?_⟩ ⟨nm,nd,by rw [en];omega,by omega,fun q hq x hx=>?_,fun q hq=>?_⟩ (P8.kp (k9.trans k10) (by simp)) (K8.trans ((k9.trans k10).weak (by simp)))
     ·obtain ⟨a,b,x,y,e,_⟩:=(hk q hq).2.2
      exact ⟨a,b,e⟩
     ·obtain ⟨a,b,i,j,e,_,h1,h2⟩:=(hk q hq).2.2
      rw [e] at hx
      rcases List.mem_cons.mp hx with z| z
      ·rw [z];exact rin h1
      ·rw [List.mem_singleton.mp z];exact rin h2
     ·obtain ⟨a,b,i,j,e,hij,h1,h2⟩:=(hk q hq).2.2
      have e1:fst q=a:=by unfold fst;rw [e];rfl
      have e2:snd q=b:=by unfold snd;rw [e];rfl
      rw [e1,e2,zG0 rnd h1,zG0 rnd h2]
      exact hij
end
structure Mth (P:Program) (w:World) (K:PySem.W.Frag) (mg:Str->Option Value) (base:Heap) (C:Addr) (m:Str) (k:Nat) (ps:List Str) (sp:Sp):Prop where
 to:∃(f:Addr) (fd:FuncData),Meth K C m f/\zDf K fd ps []/\FnOk P w K mg base CX0 k f fd ps sp
theorem pe_methC {X:Cx} {C:Addr} {m:Str} {k:Nat} {ps:List Str} {sp:Sp} {o e:Expr} {es:List Expr} {apos pos:Pos} {ta:TE} {t:TA} {pl:Sem Bool} (M:Mth X.prog X.w X.K X.mg X.base C m k ps sp) (c:Cls X.K C) (hr:Room k X.A) (he:PE X o ta) (ha:PA X (e::es) t)
  (hst:starEach (e::es) X.env=(false,eval e X.env)::starEach es X.env:=by rfl) (hpl:(backTo pos (starEach es X.env)).any (·.1)=false:=by rfl)
  (ht:eval (.Call (.Attribute o m apos) (e::es) [] pos) X.env=(do
   let ov<-eval o X.env
   standAt apos.atName
   let (f,first)<-holding [ov] (getMethod ov m pl)
   callWith pos f first (backTo pos (starEach (e::es) X.env)) (backToKw pos (keywordEach [] X.env))):=by rfl):PE X (.Call (.Attribute o m apos) (e::es) [] pos) (tMeth C m sp [] E0 ta t):=by
 obtain ⟨f,fd,h1,h2,h3⟩:=M.to
 exact pe_meth he c h1 h3 hr h2 .nil pass0 ha hst hpl ht
theorem zGm {X:Cx} {C:Addr} {m:Str} {k:Nat} {ps:List Str} {sp:Sp} {o:Expr} {apos pos:Pos} {ta:TE} {pl:Sem Bool} (M:Mth X.prog X.w X.K X.mg X.base C m k ps sp) (c:Cls X.K C) (hr:Room k X.A) (he:PE X o ta)
  (ht:eval (.Call (.Attribute o m apos) [] [] pos) X.env=(do
   let ov<-eval o X.env
   standAt apos.atName
   let (f,first)<-holding [ov] (getMethod ov m pl)
   callWith pos f first (backTo pos (starEach [] X.env)) (backToKw pos (keywordEach [] X.env))):=by rfl):PE X (.Call (.Attribute o m apos) [] [] pos) (tMeth C m sp [] E0 ta tNil):=by
 obtain ⟨f,fd,h1,h2,h3⟩:=M.to
 exact pe_meth0 he c h1 h3 hr h2 .nil pass0 ht
theorem S_rank {C:Addr} {H:Hp} {j:Addr} {J:JR} {qs:List (List Str×Addr)} {r:Str->Nat} (A:JobsAt C H j J) (G:Good J.ns qs r) (hz:∀k,k∈J.zs.map (·.1)↔k∈qs.map (·.1)):∀(b:Nat) (n x:Str),r n<=b->n∈J.ns->x∈J.S n->r x<r n:=by
 have tk:∀n x,x∈told J.zs n->x∈J.ns/\r x<r n:=fun n x hx=>by
  obtain ⟨q,q1,q2,q3⟩:=zF2.mp hx
  have:q.1∈qs.map (·.1):=(hz q.1).mp (List.mem_map.mpr ⟨q,q1,rfl⟩)
  obtain ⟨q',h1,h2⟩:=List.mem_map.mp this
  obtain ⟨e1,e2⟩:=fst_of h2
  obtain ⟨a,b,eab⟩:=A.prs.two q q1
  refine ⟨?_,by rw [<-q2,<-q3,<-e1,<-e2];exact G.rk q' h1⟩
  rw [<-q3]
  refine A.zin q q1 _ ?_
  unfold fst
  rw [eab];simp
 intro b
 induction b with
 | zero =>
  intro n x hb hn hx
  rcases (A.mem n hn x).mp hx with z| ⟨m,z,_⟩
  ·exact (tk n x z).2
  ·have:=(tk n m z).2;omega
 | succ b ih =>
  intro n x hb hn hx
  rcases (A.mem n hn x).mp hx with z| ⟨m,z,z'⟩
  ·exact (tk n x z).2
  ·have h1:=tk n m z
   exact Nat.lt_trans (ih m x (by omega) h1.1 z') h1.2
structure Mkr (P:Program) (w:World) (K:PySem.W.Frag) (mg:Str->Option Value) (base:Heap) (C:Addr) (x:Str) (k:Nat) (ps:List Str) (sp:Sp):Prop where
 to:∃(f:Addr) (fd:FuncData),Mk K C f/\mg x=some (.ref C)/\zDf K fd ps []/\FnOk P w K mg base CX0 k f fd ps sp
theorem pe_makeC {X:Cx} {C:Addr} {x:Str} {k:Nat} {ps:List Str} {sp:Sp} {e:Expr} {es:List Expr} {p pos:Pos} {t:TA} (M:Mkr X.prog X.w X.K X.mg X.base C x k (("self" : Str)::ps) sp) (hr:Room (k+1) X.A) (hg:Gl X x) (ha:PA X (e::es) t)
  (hdb:(x==("__debug__" : Str))=false:=by decide) (he:starEach (e::es) X.env=(false,eval e X.env)::starEach es X.env:=by rfl) (hpl:(backTo pos (starEach es X.env)).any (·.1)=false:=by rfl):PE X (.Call (.Name x p) (e::es) [] pos) (tMake C sp [] E0 t):=by
 obtain ⟨f,fd,h1,h2,h3,h4⟩:=M.to
 exact pe_make h1 h4 hr hg h2 h3 .nil pass0 ha hdb he hpl
def TA (qs:List (List Str×Addr)) (a b:Str):Prop:=∃q∈qs,fst q=a/\snd q=b
inductive Way (qs:List (List Str×Addr)):Str->Str->Prop
 | one {a b:Str}:TA qs a b->Way qs a b
 | more {a b c:Str}:Way qs a b->TA qs b c->Way qs a c
theorem TA.to {qs:List (List Str×Addr)} (two:∀q∈qs,∃a b,q.1=[a,b]) {ns:List Str} (qin:∀q∈qs,∀x∈q.1,x∈ns) {a b:Str} (h:TA qs a b):a∈ns/\b∈ns:=by
 obtain ⟨q,hq,rfl,rfl⟩:=h
 obtain ⟨a,b,e⟩:=two q hq
 unfold fst snd
 rw [e]
 exact ⟨qin q hq a (by rw [e];simp),qin q hq b (by rw [e];simp)⟩
theorem Way.to {qs:List (List Str×Addr)} (two:∀q∈qs,∃a b,q.1=[a,b]) {ns:List Str} (qin:∀q∈qs,∀x∈q.1,x∈ns) {a b:Str} (h:Way qs a b):a∈ns/\b∈ns:=by
 induction h with
 | one h=>exact h.to two qin
 | more _ h ih=>exact ⟨ih.1,(h.to two qin).2⟩
theorem S_way {C:Addr} {H:Hp} {j:Addr} {J:JR} {qs:List (List Str×Addr)} {r:Str->Nat} (A:JobsAt C H j J) (G:Good J.ns qs r) (hz:∀k,k∈J.zs.map (·.1)↔k∈qs.map (·.1)) {n x:Str} (hn:n∈J.ns):x∈J.S n↔Way qs x n:=by
 have tk:∀n x,x∈told J.zs n↔TA qs x n:=fun n x=>by
  rw [zF2]
  constructor
  ·rintro ⟨q,h1,h2,h3⟩
   obtain ⟨q',h4,h5⟩:=List.mem_map.mp ((hz q.1).mp (List.mem_map.mpr ⟨q,h1,rfl⟩))
   obtain ⟨e1,e2⟩:=fst_of h5
   exact ⟨q',h4,e1.trans h3,e2.trans h2⟩
  ·rintro ⟨q,h1,h2,h3⟩
   obtain ⟨q',h4,h5⟩:=List.mem_map.mp ((hz q.1).mpr (List.mem_map.mpr ⟨q,h1,rfl⟩))
   obtain ⟨e1,e2⟩:=fst_of h5
   exact ⟨q',h4,e2.trans h3,e1.trans h2⟩
 have tin:∀n x,TA qs x n->x∈J.ns/\r x<r n:=fun n x h=>by
  have hT:=(tk n x).mpr h
  obtain ⟨q,q1,q2,q3⟩:=zF2.mp hT
  obtain ⟨a,b,e⟩:=A.prs.two q q1
  refine ⟨?_,?_⟩
  ·rw [<-q3]
   refine A.zin q q1 _ ?_
   unfold fst
   rw [e];simp
  ·obtain ⟨q',h1,h2,h3⟩:=h
   rw [<-h2,<-h3];exact G.rk q' h1
 constructor
 ·have:∀(b:Nat) (n:Str),r n<=b->n∈J.ns->∀x,x∈J.S n->Way qs x n:=by
   intro b
   induction b with
   | zero =>
    intro n hb hn x hx
    rcases (A.mem n hn x).mp hx with z| ⟨m,z,_⟩
    ·exact .one ((tk n x).mp z)
    ·have:=(tin n m ((tk n m).mp z)).2;omega
   | succ b ih =>
    intro n hb hn x hx
    rcases (A.mem n hn x).mp hx with z| ⟨m,z,z'⟩
    ·exact .one ((tk n x).mp z)
    ·have h1:=tin n m ((tk n m).mp z)
     exact .more (ih m (by omega) h1.1 x z') ((tk n m).mp z)
  exact this (r n) n (Nat.le_refl _) hn x
 ·intro w
  induction w with
  | one h=>exact (A.mem _ hn _).mpr (.inl ((tk _ _).mpr h))
  | more _ h ih=>exact (A.mem _ hn _).mpr (.inr ⟨_,(tk _ _).mpr h,ih (tin _ _ h).1⟩)
structure DS (H0 H:Hp) (d:Addr) (ns:List Str) (la:Str->Addr) (L:Str->List Str):Prop where
 top:H d=some (.dK (dT1 ns fun n=>.ref (la n)))
 row:∀n∈ns,SetD H (la n) (L n)
 ne:∀n∈ns,la n≠d
 fr:Fre H0 d
 frs:∀n∈ns,Fre H0 (la n)
theorem ne_nil_is {K:PySem.W.Frag} {H:Hp} {c e:Addr} {xs:List V} {Q:VK} (h1:SqL K H c xs) (h2:SqL K H e []) (h:Q (.bl (decide (xs≠[]))) H):zGl K 8 false (.ref c) (.ref e) H Q\/zGk K true (.ref c) (.ref e) H Q:=by
 by_cases z:xs=[]
 ·subst z
  exact .inl ⟨c,e,_,_,rfl,rfl,h1,h2,rfl,(fun i x y h=>by simp at h),h⟩
 ·rw [decide_eq_true z] at h
  exact .inr ⟨c,e,_,_,rfl,rfl,h1,h2,fun y=>z (List.length_eq_zero_iff.mp y),h⟩
def szAt (H:Hp) (a:Addr):Nat:=match H a with
 | some (.lst xs)=>xs.length
 | some (.dK kvs)=>kvs.length
 | _=>0
theorem zDu {H:Hp} {a:Addr} {xs:List V} (h:H a=some (.lst xs)):szAt H a=xs.length:=by unfold szAt;rw [h]
theorem szAt_dK {H:Hp} {a:Addr} {kvs:List (Key×V)} (h:H a=some (.dK kvs)):szAt H a=kvs.length:=by unfold szAt;rw [h]
theorem dT1_snoc (B:List Str) (x:Str) (g:Str->V):dT1 (B++[x]) g=dT1 B g++[(.inr x,g x)]:=by unfold dT1;rw [List.map_append];rfl
theorem zDq (B:List Str) (g:Str->V):(dT1 B g).length=B.length:=by unfold dT1;rw [List.length_map]
structure DR (H:Hp) (d:Addr) (ns:List Str) (la:Str->Addr) (L:Str->List Str):Prop where
 top:H d=some (.dK (dT1 ns fun n=>.ref (la n)))
 row:∀n∈ns,SetD H (la n) (L n)
theorem DS.rd {H0 H:Hp} {d:Addr} {ns:List Str} {la:Str->Addr} {L:Str->List Str} (D:DS H0 H d ns la L):DR H d ns la L:=⟨D.top,D.row⟩
theorem DR.kp0 {H H':Hp} {d:Addr} {ns:List Str} {la:Str->Addr} {L:Str->List Str} (D:DR H d ns la L) (k:Kp [] H H'):DR H' d ns la L:=⟨k d _ D.top (by simp),fun n hn=>k _ _ (D.row n hn) (by simp)⟩
theorem DR.get {H:Hp} {d:Addr} {ns:List Str} {la:Str->Addr} {L:Str->List Str} (D:DR H d ns la L) {y:Str} (hy:y∈ns):DGet H d (.str y) (some (.ref (la y))):=by
 have:=DGet.k (k:=Sum.inr y) D.top
 rw [zBu,if_pos hy] at this;exact this
def ahL (ns:List Str) (L:Str->List Str) (x:Str):List Str:=ns.filter fun o=>decide (x∈L o)
def zBd (qs:List (List Str×Addr)) (n:Str):List Str:=(qs.filter fun q=>decide (fst q=n)).map snd
theorem zEv {qs:List (List Str×Addr)} {n y:Str}:y∈zBd qs n↔TA qs n y:=by
 unfold zBd TA
 simp only [List.mem_map,List.mem_filter,decide_eq_true_eq]
 exact ⟨fun ⟨q,⟨a,b⟩,c⟩=>⟨q,a,b,c⟩,fun ⟨q,a,b,c⟩=>⟨q,⟨a,b⟩,c⟩⟩
theorem zEs (qs:List (List Str×Addr)) (n:Str):(zBd qs n).length<=qs.length:=by
 unfold zBd
 rw [List.length_map];exact List.length_filter_le _ _
structure NR (H:Hp) (d:Addr) (ns:List Str) (na:Str->Addr) (f:Str->List Str):Prop where
 top:H d=some (.dK (dT1 ns fun n=>.ref (na n)))
 row:∀n∈ns,Txs H (na n) (f n)
theorem NR.kp {M:List Addr} {H H':Hp} {d:Addr} {ns:List Str} {na:Str->Addr} {f:Str->List Str} (D:NR H d ns na f) (k:Kp M H H') (h1:d∉M) (h2:∀n∈ns,na n∉M):NR H' d ns na f:=⟨k d _ D.top h1,fun n hn=>k _ _ (D.row n hn) (h2 n hn)⟩
theorem NR.get {H:Hp} {d:Addr} {ns:List Str} {na:Str->Addr} {f:Str->List Str} (D:NR H d ns na f) {y:Str} (hy:y∈ns):DGet H d (.str y) (some (.ref (na y))):=by
 have:=DGet.k (k:=Sum.inr y) D.top
 rw [zBu,if_pos hy] at this;exact this
structure BK (qs:List (List Str×Addr)) (ns:List Str) (n:Str) (B W:List Str):Prop where
 nd:B.Nodup
 sub:∀x∈B,x∈ns
 way:∀x∈B,Way qs n x
 wl:∀x∈W,Way qs n x
 c0:∀y,TA qs n y->y∈B\/y∈W
 cl:∀x∈B,∀y,TA qs x y->y∈B\/y∈W
 cap:W.length+307*(20 - B.length)<=6447
theorem BK.start {qs:List (List Str×Addr)} {ns:List Str} {n:Str} (h:qs.length<=306):BK qs ns n [] (zBd qs n) :=
 ⟨List.nodup_nil,(fun x h=>nomatch h),(fun x h=>nomatch h),fun x h=>.one (zEv.mp h),fun y h=>.inr (zEv.mpr h),(fun x h=>nomatch h),by
  have:=zEs qs n
  simp only [List.length_nil];omega⟩
theorem BK.old {qs:List (List Str×Addr)} {ns:List Str} {n x0:Str} {B W:List Str} (b:BK qs ns n B (W++[x0])) (h:x0∈B):BK qs ns n B W:=by
 have mv:∀y,(y∈B\/y∈W++[x0])->y∈B\/y∈W:=fun y hy=>by
  rcases hy with z| z
  ·exact .inl z
  ·rcases List.mem_append.mp z with z| z
   ·exact .inr z
   ·rw [List.mem_singleton.mp z];exact .inl h
 refine ⟨b.nd,b.sub,b.way,fun x hx=>b.wl x (List.mem_append_left _ hx),fun y hy=>mv y (b.c0 y hy),fun x hx y hy=>mv y (b.cl x hx y hy),?_⟩
 have:=b.cap
 rw [List.length_append,List.length_singleton] at this;omega
theorem BK.new {qs:List (List Str×Addr)} {ns:List Str} {n x0:Str} {B W:List Str} (b:BK qs ns n B (W++[x0])) (h:x0∉B) (hx:x0∈ns) (hn:ns.length<=20) (hq:qs.length<=306):BK qs ns n (B++[x0]) (W++zBd qs x0)/\(W++zBd qs x0).length+307*(20 - (B++[x0]).length)<W.length+1+307*(20 - B.length):=by
 have nd:(B++[x0]).Nodup:=List.nodup_append.mpr ⟨b.nd,by simp,fun a ha d hd=>by
  rw [List.mem_singleton.mp hd];exact fun z=>h (z▸ha)⟩
 have sub:∀x∈B++[x0],x∈ns:=fun x h=>by
  rcases List.mem_append.mp h with z| z
  ·exact b.sub x z
  ·rw [List.mem_singleton.mp z];exact hx
 have w0:Way qs n x0:=b.wl x0 (by simp)
 have mv:∀y,(y∈B\/y∈W++[x0])->y∈B++[x0]\/y∈W++zBd qs x0:=fun y hy=>by
  rcases hy with z| z
  ·exact .inl (List.mem_append_left _ z)
  ·rcases List.mem_append.mp z with z| z
   ·exact .inr (List.mem_append_left _ z)
   ·exact .inl (List.mem_append_right _ z)
 have less:(W++zBd qs x0).length+307*(20 - (B++[x0]).length)<W.length+1+307*(20 - B.length):=by
  have h1:=zD7 nd sub
  have h2:=zEs qs x0
  simp only [List.length_append,List.length_singleton] at *
  omega
 refine ⟨⟨nd,sub,fun x hx=>?_,fun x hx=>?_,fun y hy=>mv y (b.c0 y hy),fun x hx y hy=>?_,?_⟩,less⟩
 ·rcases List.mem_append.mp hx with z| z
  ·exact b.way x z
  ·rw [List.mem_singleton.mp z];exact w0
 ·rcases List.mem_append.mp hx with z| z
  ·exact b.wl x (List.mem_append_left _ z)
  ·exact .more w0 (zEv.mp z)
 ·rcases List.mem_append.mp hx with z| z
  ·exact mv y (b.cl x z y hy)
  ·rw [List.mem_singleton.mp z] at hy
   exact .inr (List.mem_append_right _ (zEv.mpr hy))
 ·have:=b.cap
  rw [List.length_append,List.length_singleton] at this
  omega
theorem BK.all {qs:List (List Str×Addr)} {ns:List Str} {n:Str} {B:List Str} (b:BK qs ns n B []) (x:Str):x∈B↔Way qs n x:=by
 refine ⟨b.way x,fun h=>?_⟩
 induction h with
 | one h=>exact (b.c0 _ h).elim id (fun z=>nomatch z)
 | more _ h ih=>exact (b.cl _ ih _ h).elim id (fun z=>nomatch z)
theorem zIv {ns:List Str} {n:Str} {b:Addr} {la:Str->Addr} (h:n∉ns):dT1 ns (fun n=>V.ref (la n))++[(Sum.inr n,V.ref b)]=dT1 (ns++[n]) (fun x=>V.ref (if x=n then b else la x)):=by
 rw [dT1_snoc,if_pos rfl]
 congr 1
 exact zG2 fun x hx=>by rw [if_neg (show¬x=n from fun z=>h (z▸hx))]
section
variable {P:Program} {w:World} {K:PySem.W.Frag} {mg:Str->Option Value} {base:Heap}
def spLBehind:Sp:=fun vs H Q _=>∃(l m:Addr) (ns:List Str) (qs:List (List Str×Addr)),vs=[.ref l,.ref m]/\Txs H l ns/\Ords H m qs/\ns.Nodup/\ns.length<=20/\qs.length<=306/\(∀q∈qs,∀x∈q.1,x∈ns) /\
 ∀d la L H',DS H H' d ns la L->(∀n∈ns,(L n).Nodup/\∀x,x∈L n↔Way qs n x)->Kp [] H H'->Q (.ref d) H'
abbrev zFy:Stmt:=top 48
theorem zCe:FnScope ["_law_names_here", "_law_orders", "_law_near", "_law_name", "_law_found", "_law_waiting", "_law_here"] ["_law_names_here", "_law_orders"] (zAe zFy):=⟨rfl,rfl,rfl,by decide +kernel,rfl,by decide +kernel,by decide +kernel⟩
theorem ok_behind {f:Addr} {fd:FuncData} (F:Fun K "_law_behind" "_law_behind" zFy f fd) (T:Txt K mg):FnOk P w K mg base CX0 1 f fd ["_law_names_here", "_law_orders"] spLBehind:=by
 refine F.ok zCe (fun vs H Q E h=>?_) (fun cdv A outer s H vs Q E hr h=>?_)
 ·obtain ⟨l,m,ns,qs,rfl,_⟩:=h
  rfl
 ·obtain ⟨l,m,ns,qs,rfl,hl,hm,hN,hn,hz,hq,k⟩:=h
  have hu:=zEy hr
  refine ⟨_,(zAb (zAj (i:=2) zCe.nd rfl (by walk_at "lc") zCd)
   (zAb (zAx PassesOwn.never rfl (zAm (pv 0)) (zAh (i:=3) zCe.nd rfl (by walk_at "lc"))
    (zAd (zB9 hu (pv 2) (pv 3) (zBh rfl (zBj (sc:=zAe zFy) rfl (by decide +kernel)) (Draws.own (x:= "_law_one") (Draws.own (x:= "_law_other") (Draws.tk (i:=3) rfl (by walk_at "vs") (by walk_at "vk") (by walk_at "vf") Draws.nil))) (zAm (pv 1)) (fun C s₀ H₀ ex=>(zIe (K:=K) (n:=2) rfl (zAt (zAh (i:=0) (show List.Nodup (["_law_one", "_law_other", "_law_name"]:List Str) by decide +kernel) rfl (by walk_at "lc")) (zAt (zAh (i:=1) (show List.Nodup (["_law_one", "_law_other", "_law_name"]:List Str) by decide +kernel) rfl (by walk_at "lc")) zC9)))) (fun C s₀ H₀ ex=>(zBr (zAn op_eq (pv 0) (pv 2) (zAv _)))) (fun C s₀ H₀ ex=>(pv 1))) rfl)))
   (zAb (zAj (i:=4) zCe.nd rfl (by walk_at "lc") zCd)
   (zAb (zAx PassesOwn.never rfl (zAm (pv 0)) (zAh (i:=3) zCe.nd rfl (by walk_at "lc"))
    (zAb (zB9 hu (pv 4) (pv 3) zCd rfl)
    (zAb (zAj (i:=5) zCe.nd rfl (by walk_at "lc") (zAq zB7 (by rfl) T.z_list zFk (zAa (zBa hu (pv 2) (pv 3) (fun _ _=>rfl)) zAc)))
    (zAd (zIb PassesOwn.never (zAn (op_neAU hr) (pv 5) (zA0 zAc) (zAv _))
     (zAb (zAj (i:=6) zCe.nd rfl (by walk_at "lc") (pe_bm0 PySem.F.plainAttrs_list PySem.F.slot_list_pop PySem.F.type_list_pop mt_pop (pv 5)))
     (zAd (zCb (zFo (zGo hu (pv 6) (zBa hu (pv 4) (pv 3) (fun _ _=>rfl))))
      (zAb (zB9 hu (zBa hu (pv 4) (pv 3) (fun _ _=>rfl)) (pv 6) pe_bl rfl)
      (zAd (zA4 (zEq PySem.F.plainAttrs_list PySem.F.slot_list_extend PySem.F.type_list_extend zEu (pv 5) (zAa (zBa hu (pv 2) (pv 6) (fun _ _=>rfl)) zAc)))))
      zAw))))))))
   (zAd (zAs (pv 4))))))),?_⟩
  refine fun d0 hd0=>?_
  have fd0:Fre H d0:=hd0
  refine ⟨_,rfl,_,rfl,⟨_,SqL.of ((Kp.new (M:=[]) Kp.refl fd0) l _ hl (by simp))⟩,zAy (fun i σ H2=>(∃o3 o4 o5 o6:Option V,σ=[some (.ref l),some (.ref m),some (.ref d0),o3,o4,o5,o6])/\Kp [] H H2/\∃na,NR H2 d0 (ns.take i) na (zBd qs))
   ⟨⟨_,_,_,_,rfl⟩,Kp.new Kp.refl fd0,fun _=>0,upd_same,(fun n h=>nomatch h)⟩ (fun i σ H2 _ ⟨_,k2,_⟩=>SqL.of (k2 l _ hl (by simp))) ?_ ?_⟩
  ·rintro i v σ H2 hv ⟨⟨o3,o4,o5,o6,rfl⟩,k2,na,N⟩
   obtain ⟨n,en,rfl⟩:=zBm hv
   have ni:=zDb hN en
   have hm2:=hm.kp k2 (by simp) (by simp)
   refine ⟨_,rfl,_,rfl,⟨_,SqL.of hm2.top⟩,fun B hB=>zBb (qs.map fun q=>V.ref q.2) (fun i ys τ H3=>(∃o0 o1,τ=[o0,o1,some (.str n)])/\ys=(zBd (qs.take i) n).map V.str/\H3=upd H2 B (.lst ys))
    ⟨⟨_,_,rfl⟩,rfl,rfl⟩ (fun i ys τ H3 ⟨_,_,z⟩=>by subst z;exact SqL.of ((Kp.new (M:=[]) Kp.refl hB) _ _ hm2.top (by simp))) ?_ ?_⟩
   ·rintro i v ys τ H3 hv ⟨⟨o0,o1,rfl⟩,rfl,rfl⟩
    obtain ⟨q,eq,rfl⟩:=ref_at hv
    have mq:=List.mem_of_getElem? eq
    obtain ⟨x,y,exy⟩:=hm.two q mq
    have hrow:(upd H2 B (.lst ((zBd (qs.take i) n).map V.str))) q.2=some (.tup [.str x,.str y]):=by
     have:=(Kp.new (l:=B) (o:=.lst ((zBd (qs.take i) n).map V.str)) (M:=[]) Kp.refl hB) q.2 _ (hm2.row q mq) (by simp)
     rw [exy] at this;exact this
    have e1:fst q=x:=(by unfold fst;rw [exy];rfl)
    have e2:snd q=y:=(by unfold snd;rw [exy];rfl)
    refine ⟨_,_,rfl,.inl (.inl hrow),rfl,_,_,rfl,_,_,rfl,rfl,?_⟩
    refine ⟨_,rfl,_,rfl,rfl,_,rfl,ite2 (fun c=>?_) (fun c=>?_)⟩
    ·have c':x=n:=by simpa using c
     refine ⟨_,rfl,upd_same,?_,⟨_,_,rfl⟩,?_,zBg⟩
     ·have:=zEs (qs.take i) n
      rw [List.length_take] at this
      rw [List.length_map,sizeLine_eq];omega
     ·have:zBd (qs.take (i+1)) n=zBd (qs.take i) n++[y]:=by
       unfold zBd
       rw [zBf eq (decide_eq_true (e1.trans c')),List.map_append,List.map_cons,e2];rfl
      rw [this,List.map_append];rfl
    ·have c':¬x=n:=fun z=>c (by simpa using z)
     refine ⟨⟨_,_,rfl⟩,?_,?_⟩
     ·have:zBd (qs.take (i+1)) n=zBd (qs.take i) n:=by
       unfold zBd
       rw [zBn eq (by rw [e1];simpa using c')]
      rw [this]
     ·rfl
   ·rintro ys τ H3 ⟨_,rfl,rfl⟩
    have eT:qs.take (qs.map fun q=>V.ref q.2).length=qs:=by rw [List.length_map,List.take_length]
    rw [eT]
    have fB:Fre H2 B:=hB
    have nB:d0≠B:=ne_fre fB N.top
    have k3:Kp [] H2 (upd H2 B (.lst ((zBd qs n).map V.str))):=Kp.new Kp.refl fB
    have hd3:=k3 d0 _ N.top (by simp)
    refine ⟨_,rfl,_,rfl,_,_,rfl,DPut.k (k:=Sum.inr n) hd3 ?_,?_⟩
    ·rw [zDq,List.length_take,sizeLine_eq];omega
    rw [zDj _ ni,zIv ni,<-zAi en]
    refine ⟨⟨_,_,_,_,rfl⟩,Kp.new (k2.trans k3) fd0,fun x=>if x=n then B else na x,upd_same,fun x hx=>?_⟩
    show Txs _ (if x=n then B else na x) (zBd qs x)
    by_cases z:x=n
    ·rw [if_pos z,z];exact (upd_ne nB.symm).trans upd_same
    ·rw [if_neg z]
     rw [zAi en] at hx
     rcases List.mem_append.mp hx with y| y
     ·have h1:=k3 _ _ (N.row x y) (by simp)
      exact (upd_ne (zBe h1 hd3 (fun z=>nomatch z))).trans h1
     ·exact absurd (List.mem_singleton.mp y) z
  ·rintro σ H1 ⟨⟨o3,o4,o5,o6,rfl⟩,k1,na,N⟩
   have eT:ns.take (ns.map V.str).length=ns:=by rw [List.length_map,List.take_length]
   rw [eT] at N
   refine fun d hd=>?_
   have fd1:Fre H1 d:=hd
   have fd:Fre H d:=k1.fre fd1 (by simp)
   have nd0:d0≠d:=ne_fre fd1 N.top
   have N1:NR (upd H1 d (.dK [])) d0 ns na (zBd qs):=N.kp (M:=[]) (Kp.new Kp.refl fd1) (by simp) (by simp)
   refine ⟨_,rfl,_,rfl,⟨_,SqL.of ((Kp.new (M:=[]) k1 fd) l _ hl (by simp))⟩,zAy (fun i σ H2=>(∃o3 o5 o6:Option V,σ=[some (.ref l),some (.ref m),some (.ref d0),o3,some (.ref d),o5,o6])/\Kp [] H H2/\Kp [d] H1 H2/\∃la L,DS H H2 d (ns.take i) la L/\∀n∈ns.take i,(L n).Nodup/\∀x,x∈L n↔Way qs n x)
    ⟨⟨_,_,_,rfl⟩,Kp.new k1 fd,Kp.put Kp.refl (by simp),fun _=>0,fun _=>[],⟨upd_same,(fun n h=>nomatch h),(fun n h=>nomatch h),fd,(fun n h=>nomatch h)⟩,(fun n h=>nomatch h)⟩ (fun i σ H2 _ ⟨_,k2,_⟩=>SqL.of (k2 l _ hl (by simp))) ?_ ?_⟩
   ·rintro i0 v σ H2 hv ⟨⟨o3,o5,o6,rfl⟩,k2,q2,la,L,D,hL⟩
    obtain ⟨n,en,rfl⟩:=zBm hv
    have mn:=List.mem_of_getElem? en
    have ni:=zDb hN en
    have nnd:∀x∈ns,na x≠d:=fun x hx=>ne_fre fd1 (N.row x hx)
    have N2:NR H2 d0 ns na (zBd qs):=N.kp q2 (nm1 nd0) (fun x hx=>nm1 (nnd x hx))
    refine fun b hb=>?_
    have fb:Fre H2 b:=hb
    have ndb:d≠b:=ne_fre fb D.top
    have fbH:Fre H b:=k2.fre fb (by simp)
    refine ⟨_,rfl,_,rfl,_,_,rfl,DPut.k (k:=Sum.inr n) ((upd_ne ndb).trans D.top) ?_,?_⟩
    ·rw [zDq,List.length_take,sizeLine_eq];omega
    rw [zDj _ ni,zIv ni,<-zAi en]
    have k3:Kp [] H (upd (upd H2 b (.dK [])) d (.dK (dT1 (ns.take (i0+1)) (fun x=>.ref (if x=n then b else la x))))):=Kp.new (Kp.new k2 fbH) fd
    have q3:Kp [d] H2 (upd (upd H2 b (.dK [])) d (.dK (dT1 (ns.take (i0+1)) (fun x=>.ref (if x=n then b else la x))))):=Kp.put (Kp.new Kp.refl fb) (by simp)
    have hd3:(upd (upd H2 b (.dK [])) d (.dK (dT1 (ns.take (i0+1)) (fun x=>.ref (if x=n then b else la x))))) d=some (.dK (dT1 (ns.take (i0+1)) (fun x=>.ref (if x=n then b else la x)))):=upd_same
    have hb3:(upd (upd H2 b (.dK [])) d (.dK (dT1 (ns.take (i0+1)) (fun x=>.ref (if x=n then b else la x))))) b=some (.dK []):=(upd_ne ndb.symm).trans upd_same
    generalize upd (upd H2 b (.dK [])) d (.dK (dT1 (ns.take (i0+1)) (fun x=>.ref (if x=n then b else la x))))=H3 at k3 q3 hd3 hb3 ⊢
    have N3:NR H3 d0 ns na (zBd qs):=N2.kp q3 (nm1 nd0) (fun x hx=>nm1 (nnd x hx))
    have hs3:∀x∈ns.take i0,SetD H3 (la x) (L x):=fun x hx=>q3 _ _ (D.row x hx) (nm1 (D.ne x hx))
    have nlb:∀x∈ns.take i0,la x≠b:=fun x hx=>ne_fre fb (D.row x hx)
    refine ⟨_,rfl,_,rfl,_,_,rfl,N3.get mn,_,_,rfl,.inl (SqL.of (N3.row n mn)),fun wa hwa=>?_⟩
    have fw:Fre H3 wa:=hwa
    have k4:Kp [] H3 (upd H3 wa (.lst ((zBd qs n).map V.str))):=Kp.new Kp.refl fw
    have hw4:Txs (upd H3 wa (.lst ((zBd qs n).map V.str))) wa (zBd qs n):=upd_same
    have nwb:b≠wa:=ne_fre fw hb3
    have nwd:d≠wa:=ne_fre fw hd3
    have fwH:Fre H wa:=k3.fre fw (by simp)
    generalize upd H3 wa (.lst ((zBd qs n).map V.str))=H4 at k4 hw4 ⊢
    have hb4:SetD H4 b []:=k4 b _ hb3 (by simp)
    have hd4:=k4 d _ hd3 (by simp)
    have N4:NR H4 d0 ns na (zBd qs):=N3.kp k4 (by simp) (by simp)
    have k04:=k3.trans k4
    have nab:∀x∈ns,na x∉[b,wa]:=fun x hx=>nm2 (zBe (N3.row x hx) hb3 (fun z=>nomatch z)) (ne_fre fw (N3.row x hx))
    have n0b:d0∉[b,wa]:=nm2 (ne_fre fb N2.top) (ne_fre fw N3.top)
    have gd:∀{Hx:Hp},Hx d=some (.dK (dT1 (ns.take (i0+1)) (fun x=>.ref (if x=n then b else la x))))->DGet Hx d (.str n) (some (.ref b)):=fun h=>by
     have h1:=DGet.k (k:=Sum.inr n) h
     rw [zBu,if_pos (by rw [zAi en];simp),if_pos rfl] at h1;exact h1
    refine zHy (fun σ H5=>(∃o6:Option V,σ=[some (.ref l),some (.ref m),some (.ref d0),some (.str n),some (.ref d),some (.ref wa),o6])/\Kp [b,wa] H4 H5/\∃B W,SetD H5 b B/\Txs H5 wa W/\BK qs ns n B W) (fun _ H5=>307*(20 - szAt H5 b)+szAt H5 wa)
     ⟨⟨_,rfl⟩,Kp.refl,[],zBd qs n,hb4,hw4,BK.start hz⟩ ?_ (fun σ H Q Q' hq hc=>?_)
    ·rintro σ H5 ⟨⟨o6',rfl⟩,k5,B,W,hB,hW,I5⟩
     refine ⟨_,rfl,(by walk_at "ln"),fun e he=>?_⟩
     have fe:Fre H5 e:=he
     have k5e:Kp [] H5 (upd H5 e (.lst [])):=Kp.new Kp.refl fe
     have hB6:SetD (upd H5 e (.lst [])) b B:=k5e b _ hB (by simp)
     have hW6:Txs (upd H5 e (.lst [])) wa W:=k5e wa _ hW (by simp)
     have hE6:(upd H5 e (.lst [])) e=some (.lst []):=upd_same
     have k46:Kp [b,wa] H4 (upd H5 e (.lst [])):=fun c o h z=>k5e c o (k5 c o h z) (by simp)
     generalize upd H5 e (.lst [])=H6 at k5e hB6 hW6 hE6 k46 ⊢
     refine ne_nil_is (SqL.of hW6) (SqL.of hE6) ?_
     refine ⟨_,rfl,ite2 (fun c=>?_) (fun c=>?_)⟩
     ·obtain ⟨W0,x0,rfl⟩:∃W0 x0,W=W0++[x0]:=by
       have:W≠[]:=fun z=>by rw [z] at c;exact absurd c (by decide)
       exact ⟨W.dropLast,W.getLast this,(List.dropLast_concat_getLast this).symm⟩
      have eW:(W0++[x0]).map V.str=W0.map V.str++[.str x0]:=by rw [List.map_append];rfl
      have hW6:H6 wa=some (.lst (W0.map V.str++[.str x0])):=by rw [<-eW];exact hW6
      have cap0:=I5.cap
      rw [List.length_append,List.length_singleton] at cap0
      have hx0:x0∈ns:=((I5.wl x0 (by simp)).to hm.two hq).2
      refine ⟨_,rfl,.inl ⟨rfl,_,SqL.of hW6⟩,_,_,.str x0,rfl,rfl,hW6,(by simp),?_⟩
      rw [List.dropLast_concat]
      have k7:Kp [b,wa] H4 (upd H6 wa (.lst (W0.map V.str))):=Kp.put k46 (by simp)
      have hW7:Txs (upd H6 wa (.lst (W0.map V.str))) wa W0:=upd_same
      have hB7:SetD (upd H6 wa (.lst (W0.map V.str))) b B:=(upd_ne nwb).trans hB6
      generalize upd H6 wa (.lst (W0.map V.str))=H7 at k7 hW7 hB7 ⊢
      have s3:szAt H5 b=B.length:=by rw [szAt_dK hB,zDq]
      have s4:szAt H5 wa=W0.length+1:=by rw [zDu hW,List.length_map,List.length_append];rfl
      obtain ⟨o,g1,g2⟩:=set_get hB7 x0
      have hd7:=k7 d _ hd4 (nm2 ndb nwd)
      refine ⟨_,rfl,_,rfl,_,rfl,_,_,rfl,gd hd7,_,o,rfl,g1,_,rfl,?_⟩
      rw [g2]
      refine ite2 (fun c2=>?_) (fun c2=>?_)
      ·have c2':x0∉B:=by simpa using c2
       obtain ⟨I7,less⟩:=I5.new c2' hx0 hn hz
       refine ⟨_,rfl,_,rfl,_,_,rfl,gd hd7,_,rfl,_,_,rfl,DPut.k (k:=Sum.inr x0) hB7 ?_,?_⟩
       ·have:=zD7 I5.nd I5.sub
        rw [zDq,sizeLine_eq];omega
       rw [zDj _ c2',<-dT1_snoc B x0 fun _=>.bl true]
       have hW8:Txs (upd H7 b (.dK (dT1 (B++[x0]) fun _=>.bl true))) wa W0:=(upd_ne nwb.symm).trans hW7
       have k8:Kp [b,wa] H4 (upd H7 b (.dK (dT1 (B++[x0]) fun _=>.bl true))):=Kp.put k7 (by simp)
       have hB8:SetD (upd H7 b (.dK (dT1 (B++[x0]) fun _=>.bl true))) b (B++[x0]):=upd_same
       generalize upd H7 b (.dK (dT1 (B++[x0]) fun _=>.bl true))=H8 at k8 hW8 hB8 ⊢
       have N8:NR H8 d0 ns na (zBd qs):=N4.kp k8 n0b nab
       refine ⟨_,rfl,.inl ⟨rfl,_,SqL.of hW8⟩,_,rfl,_,rfl,_,_,rfl,N8.get hx0,_,_,_,_,rfl,rfl,hW8,N8.row x0 hx0,?_,?_⟩
       ·have:=zEs qs x0
        rw [List.length_map,List.length_map,sizeLine_eq];omega
       have hW9:∀Hx:Hp,Txs (upd Hx wa (.lst (W0.map V.str++(zBd qs x0).map V.str))) wa (W0++zBd qs x0):=fun Hx=>by
        show upd _ wa _ wa=some (.lst ((W0++zBd qs x0).map V.str))
        rw [upd_same,List.map_append]
       refine ⟨⟨⟨_,rfl⟩,Kp.put k8 (by simp),B++[x0],W0++zBd qs x0,(upd_ne nwb).trans hB8,hW9 _,I7⟩,?_⟩
       have s1:∀o,szAt (upd H8 wa o) b=(B++[x0]).length:=fun o=>by rw [szAt_dK ((upd_ne nwb).trans hB8),zDq]
       have s2:szAt (upd H8 wa (.lst (W0.map V.str++(zBd qs x0).map V.str))) wa=(W0++zBd qs x0).length:=by rw [zDu (hW9 H8),List.length_map]
       show 307*(20 - szAt _ b)+szAt _ wa<307*(20 - szAt H5 b)+szAt H5 wa
       rw [s1,s2,s3,s4];omega
      ·have c2':x0∈B:=by simpa using c2
       refine ⟨⟨⟨_,rfl⟩,k7,B,W0,hB7,hW7,I5.old c2'⟩,?_⟩
       have s1:szAt H7 b=B.length:=by rw [szAt_dK hB7,zDq]
       have s2:szAt H7 wa=W0.length:=by rw [zDu hW7,List.length_map]
       show 307*(20 - szAt H7 b)+szAt H7 wa<307*(20 - szAt H5 b)+szAt H5 wa
       rw [s1,s2,s3,s4];omega
     ·have eW:W=[]:=by
       cases W with
       | nil=>rfl
       | cons _ _=>exact absurd (decide_eq_true (by simp)) c
      subst eW
      have k6:Kp [] H H6:=fun c o h _=>k46 c o (k04 c o h (by simp)) (nm2 (ne_fre fbH h) (ne_fre fwH h))
      have q6:Kp [d] H1 H6:=fun c o h z=>by
       have h2:=q2 c o h z
       have h3:=q3 c o h2 z
       exact k46 c o (k4 c o h3 (by simp)) (nm2 (ne_fre fb h2) (ne_fre fw h3))
      have hd6:=k46 d _ hd4 (nm2 ndb nwd)
      have cs:∀x,x∈ns.take (i0+1)->(x∈ns.take i0/\x≠n)\/x=n:=fun x h=>by
       rw [zAi en] at h
       rcases List.mem_append.mp h with z| z
       ·exact .inl ⟨z,fun y=>ni (y▸z)⟩
       ·exact .inr (List.mem_singleton.mp z)
      refine ⟨⟨_,_,_,rfl⟩,k6,q6,fun x=>if x=n then b else la x,fun x=>if x=n then B else L x,⟨hd6,fun x hx=>?_,fun x hx=>?_,D.fr,fun x hx=>?_⟩,fun x hx=>?_⟩
      ·show SetD H6 (if x=n then b else la x) (if x=n then B else L x)
       rcases cs x hx with ⟨z1,z2⟩| z
       ·rw [if_neg z2,if_neg z2]
        have h3:=hs3 x z1
        exact k46 _ _ (k4 _ _ h3 (by simp)) (nm2 (nlb x z1) (ne_fre fw h3))
       ·rw [if_pos z,if_pos z];exact hB6
      ·show (if x=n then b else la x)≠d
       rcases cs x hx with ⟨z1,z2⟩| z
       ·rw [if_neg z2];exact D.ne x z1
       ·rw [if_pos z];exact ndb.symm
      ·show Fre H (if x=n then b else la x)
       rcases cs x hx with ⟨z1,z2⟩| z
       ·rw [if_neg z2];exact D.frs x z1
       ·rw [if_pos z];exact fbH
      ·show (if x=n then B else L x).Nodup/\∀y,y∈(if x=n then B else L x)↔_
       rcases cs x hx with ⟨z1,z2⟩| z
       ·rw [if_neg z2];exact hL x z1
       ·rw [if_pos z,z];exact ⟨I5.nd,I5.all⟩
    ·obtain ⟨x,e,h1,h2⟩:=hc
     refine ⟨x,e,h1,fun l hl=>?_⟩
     rcases h2 l hl with ⟨a,c,xs,ys,q1,q2,q3,q4,q5,q6,b,q7,q8⟩| ⟨a,c,xs,ys,q1,q2,q3,q4,q5,b,q7,q8⟩
     ·exact .inl ⟨a,c,xs,ys,q1,q2,q3,q4,q5,q6,b,q7,hq _ _ q8⟩
     ·exact .inr ⟨a,c,xs,ys,q1,q2,q3,q4,q5,b,q7,hq _ _ q8⟩
   ·rintro σ H2 ⟨⟨o3,o5,o6,rfl⟩,k2,q2,la,L,D,hL⟩
    rw [eT] at D hL
    exact ⟨_,rfl,k d la L H2 D hL k2⟩
end
theorem bo_dict:bootBuiltins "dict" = some (.type "dict"):=by decide +kernel
theorem kit_ib {K:PySem.W.Frag}:PySem.W.kitOne K (.type "int") (.type "bool")=some false:=by rfl
section
variable {P:Program} {w:World} {K:PySem.W.Frag} {mg:Str->Option Value} {base:Heap} {C:Addr}
def zF9:Sp:=fun vs H Q _=>∃n:Int,vs=[.int n]/\Q (.bl true) H
abbrev zE8:Stmt:=top 13
theorem sc_is_whole:FnScope ["thing"] ["thing"] (zAe zE8):=⟨rfl,rfl,rfl,by decide +kernel,rfl,by decide +kernel,by decide +kernel⟩
theorem ok_is_whole {f:Addr} {fd:FuncData} (F:Fun K "is_whole" "is_whole" zE8 f fd) (T:Txt K mg):FnOk P w K mg base CX0 1 f fd ["thing"] zF9:=by
 refine F.ok sc_is_whole (fun vs H Q E h=>?_) (fun cdv A outer s H vs Q E hr h=>?_)
 ·obtain ⟨n,rfl,_⟩:=h
  rfl
 ·obtain ⟨n,rfl,k⟩:=h
  refine ⟨_,(zAd (zAs (pe_and (zAl zD2 (by rfl) T.z_isinstance zBl (zAa (pv 0) (zAa (zFb (by rfl) T.z_int zG6 (v:=.ty "int") rfl) zAc))) (pe_one (pe_not (zAl zD2 (by rfl) T.z_isinstance zBl (zAa (pv 0) (zAa (zFb (by rfl) T.z_bool bo_bool (v:=.ty "bool") rfl) zAc)))))))),?_⟩
  exact ⟨_,rfl,_,_,_,_,rfl,TyOf.int n,zF3,_,rfl,iteT ⟨_,rfl,_,_,_,_,rfl,TyOf.int n,kit_ib,_,rfl,k⟩⟩
def spBench:Sp:=fun vs H Q _=>∃b:Int,vs=[.int b]/\1<=b/\Q .non H
abbrev zCf:Stmt:=top 16
theorem zFr:FnScope ["benches"] ["benches"] (zAe zCf):=⟨rfl,rfl,rfl,by decide +kernel,rfl,by decide +kernel,by decide +kernel⟩
theorem zFu {f:Addr} {fd:FuncData} (F:Fun K "check_benches" "check_benches" zCf f fd) (C_is_whole:Cal P w K mg base "is_whole" 1 ["thing"] zF9):FnOk P w K mg base CX0 2 f fd ["benches"] spBench:=by
 refine F.ok zFr (fun vs H Q E h=>?_) (fun cdv A outer s H vs Q E hr h=>?_)
 ·obtain ⟨n,rfl,_⟩:=h
  rfl
 ·obtain ⟨n,rfl,h1,k⟩:=h
  refine ⟨_,(zAd (zCb (PW.pt (pw_or (zD5 (zD4 (zAg C_is_whole hr rfl (zAa (pv 0) zAc)))) (zHn (zAn op_lt (pv 0) zAf (zAv _)))))
    (zAd zBp)
    zAw)),?_⟩
  refine ⟨_,rfl,n,rfl,_,rfl,iteF ⟨_,rfl,_,_,rfl,rfl,_,rfl,?_⟩⟩
  rw [decide_eq_false (by omega)]
  exact iteF k
def rdyB (J:JR) (A:List Str) (n:Str):Bool:=(J.ns.filter fun m=>decide (m∈J.S n)).all fun m=>decide (m∈A)
def spReadyT (C:Addr):Sp:=fun vs H Q _=>∃(j d:Addr) (J:JR) (A:List Str) (n:Str),vs=[.ref j,.ref d,.str n]/\JobsAt C H j J/\H d=some (.tup (A.map V.str))/\n∈J.ns/\∀H',Kp [] H H'->Q (.bl (rdyB J A n)) H'
abbrev zDw:Stmt:=top 19
theorem sc_is_ready:FnScope ["jobs", "earlier", "name"] ["jobs", "earlier", "name"] (zAe zDw):=⟨rfl,rfl,rfl,by decide +kernel,rfl,by decide +kernel,by decide +kernel⟩
theorem ok_is_ready {f:Addr} {fd:FuncData} (F:Fun K "is_ready" "is_ready" zDw f fd) (T:Txt K mg) (U:JC K mg C) (M_ahead:Mth P w K mg base C "ahead" 3 ["self", "name"] (spAhead C)):FnOk P w K mg base CX0 4 f fd ["jobs", "earlier", "name"] (spReadyT C):=by
 refine F.ok sc_is_ready (fun vs H Q E h=>?_) (fun cdv A outer s H vs Q E hr h=>?_)
 ·obtain ⟨j,d,J,A,n,rfl,_⟩:=h
  rfl
 ·obtain ⟨j,d,J,D0,n,rfl,A0,hd,hn,k⟩:=h
  refine ⟨_,(zAd (zAs (zAl (zIx _ rfl) (by rfl) T.z_all bo_all (zAa (zBh rfl (zBj (sc:=zAe zDw) rfl (by decide +kernel)) (Draws.own (x:= "one") (Draws.tk (i:=1) rfl (by walk_at "vs") (by walk_at "vk") (by walk_at "vf") Draws.nil)) (zAm (pe_methC M_ahead U.cl hr (pv 0) (zAa (pv 2) zAc))) (fun C s₀ H₀ ex=>(zAh (i:=0) (show List.Nodup (["one", "earlier"]:List Str) by decide +kernel) rfl (by walk_at "lc"))) (fun C s₀ H₀ ex=>zDk) (fun C s₀ H₀ ex=>(zCh (zC1 (K:=K)) (pv 0) (pv 1) (by rfl)))) zAc)))),?_⟩
  refine ⟨_,rfl,j,J.dx,_,rfl,A0.ob,jf_no _ _ _ (by decide +kernel) (by decide +kernel) (by decide +kernel),_,rfl,j,J,n,rfl,A0,hn,fun a H1 fa h1 k1=>?_⟩
  have hd1:=k1 d _ hd (by simp)
  have hml:(J.ns.filter fun m=>decide (m∈J.S n)).length<=20:=Nat.le_trans (List.length_filter_le _ _) A0.few
  have ek:rdyB J D0 n=(J.ns.filter fun m=>decide (m∈J.S n)).all fun m=>decide (m∈D0):=rfl
  rw [ek] at k
  generalize (J.ns.filter fun m=>decide (m∈J.S n))=ms at h1 hml k
  refine ⟨_,rfl,⟨_,SqL.of h1⟩,fun B hB=>zB1 (ms.map V.str) (fun i ys τ H'=>(∃o0,τ=[o0,some (.ref d)])/\ys=((ms.take i).map fun m=>V.bl (decide (m∈D0)))/\H'=upd H1 B (.lst ys)) ⟨⟨_,rfl⟩,rfl,rfl⟩ (fun i ys τ H' ⟨_,_,e⟩=>by subst e;exact SqL.of ((upd_ne (ne_fre (show Fre H1 B from hB) h1)).trans h1)) ?_ ?_⟩
  ·rintro i v ys τ H' hv ⟨⟨o0,rfl⟩,rfl,rfl⟩
   obtain ⟨m,em,rfl⟩:=zBm hv
   refine ⟨_,rfl,_,rfl,_,_,rfl,.inr (SqT.of ((upd_ne (ne_fre (show Fre H1 B from hB) hd1)).trans hd1)),rfl,zBi _,?_⟩
   rw [if_neg (by decide),zCl]
   refine ⟨upd_same,?_,⟨_,rfl⟩,?_,zBg⟩
   ·rw [List.length_map,List.length_take,sizeLine_eq];omega
   ·rw [zAi em,List.map_append];rfl
  ·rintro ys τ H' ⟨_,rfl,rfl⟩
   have eM:ms.take (ms.map V.str).length=ms:=by rw [List.length_map,List.take_length]
   refine ⟨B,ms.map fun m=>decide (m∈D0),rfl,SqL.of ?_,?_⟩
   ·rw [upd_same,eM,List.map_map];rfl
   ·rw [List.all_map]
    exact k _ (Kp.new k1 (k1.fre hB (by simp)))
def spFew (C:Addr):Sp:=fun vs H Q _=>∃(j:Addr) (J:JR),vs=[.ref j]/\JobsAt C H j J/\J.ns.length<=7/\∀H',Kp [] H H'->Q .non H'
abbrev zEc:Stmt:=top 23
theorem sc_check_few:FnScope ["jobs"] ["jobs"] (zAe zEc):=⟨rfl,rfl,rfl,by decide +kernel,rfl,by decide +kernel,by decide +kernel⟩
theorem ok_check_few {f:Addr} {fd:FuncData} (F:Fun K "check_few" "check_few" zEc f fd) (T:Txt K mg) (U:JC K mg C) (M_names:Mth P w K mg base C "names" 1 ["self"] (zH3 C)):FnOk P w K mg base CX0 2 f fd ["jobs"] (spFew C):=by
 refine F.ok sc_check_few (fun vs H Q E h=>?_) (fun cdv A outer s H vs Q E hr h=>?_)
 ·obtain ⟨j,J,rfl,_⟩:=h
  rfl
 ·obtain ⟨j,J,rfl,A0,few,k⟩:=h
  obtain ⟨tM,hM⟩:=T.c_MOST_FEW
  refine ⟨_,(zAd (zCb (zAn op_gt (zAl zAo (by rfl) T.z_len zCt (zAa (zGm M_names U.cl hr (pv 0)) zAc)) (zIf rfl hM (v:=.int 7) ⟨_,rfl⟩) (zAv _))
    (zAd zBp)
    zAw)),?_⟩
  refine ⟨_,rfl,j,J.dx,_,rfl,A0.ob,jf_no _ _ _ (by decide +kernel) (by decide +kernel) (by decide +kernel),j,J,rfl,A0,fun l H1 fl hl k1=>?_⟩
  refine ⟨_,_,rfl,.inl (SqL.of hl),_,_,rfl,rfl,_,rfl,?_⟩
  rw [decide_eq_false (by rw [List.length_map];omega)]
  exact iteF (k H1 k1)
def zGj (b:Int) (ns:List Str):List (List Str):=ns.foldl (fun rs n=>rs++(rs.filter fun r=>decide ((r.length:Int)<b)).map fun r=>r++[n]) [[]]
theorem zDi (b:Int):∀(ns:List Str) (rs:List (List Str)),(ns.foldl (fun rs n=>rs++(rs.filter fun r=>decide ((r.length:Int)<b)).map fun r=>r++[n]) rs).length<=rs.length*2^ns.length
 | [],rs=>by simp
 | n::ns,rs=>by
  have h:=zDi b ns (rs++(rs.filter fun r=>decide ((r.length:Int)<b)).map fun r=>r++[n])
  have h1:=List.length_filter_le (fun r:List Str=>decide ((r.length:Int)<b)) rs
  rw [List.length_append,List.length_map] at h
  rw [List.foldl_cons,List.length_cons,Nat.pow_succ]
  refine Nat.le_trans h ?_
  rw [Nat.mul_comm (2^ns.length) 2,<-Nat.mul_assoc]
  exact Nat.mul_le_mul_right _ (by omega)
theorem zE9 (b:Int):∀(ns:List Str) (rs:List (List Str)) (m:Nat),(∀r∈rs,r.length<=m)->∀r∈ns.foldl (fun rs n=>rs++(rs.filter fun r=>decide ((r.length:Int)<b)).map fun r=>r++[n]) rs,r.length<=m+ns.length
 | [],rs,m,h=>fun r hr=>h r hr
 | n::ns,rs,m,h=>fun r hr=>by
  have:=zE9 b ns _ (m+1) (fun q hq=>?_) r hr
  ·rw [List.length_cons];omega
  ·rcases List.mem_append.mp hq with z| z
   ·exact Nat.le_succ_of_le (h q z)
   ·obtain ⟨q',h1,rfl⟩:=List.mem_map.mp z
    rw [List.length_append]
    exact Nat.succ_le_succ (h q' (List.mem_filter.mp h1).1)
structure Rws (H0 H:Hp) (l:Addr) (ps:List (Addr×List Str)):Prop where
 top:H l=some (.lst (ps.map fun p=>V.ref p.1))
 row:∀p∈ps,H p.1=some (.lst (p.2.map V.str))
 fr:∀p∈ps,Fre H0 p.1
theorem rw_at {ps:List (Addr×List Str)} {i:Nat} {v:V} (h:(ps.map fun p=>V.ref p.1)[i]?=some v):∃p,ps[i]?=some p/\v= .ref p.1:=by
 rw [List.getElem?_map] at h
 obtain ⟨p,e,r⟩:=Option.map_eq_some_iff.mp h
 exact ⟨p,e,r.symm⟩
def spRows:Sp:=fun vs H Q _=>∃(l:Addr) (b:Int) (ns:List Str),vs=[.ref l,.int b]/\Txs H l ns/\ns.length<=7/\∀(a:Addr) (ps:List (Addr×List Str)) (H':Hp),Rws H H' a ps->ps.map (·.2)=zGj b ns->Kp [] H H'->Q (.ref a) H'
abbrev zEk:Stmt:=top 29
theorem zDv:FnScope ["names", "most", "rows", "name"] ["names", "most"] (zAe zEk):=⟨rfl,rfl,rfl,by decide +kernel,rfl,by decide +kernel,by decide +kernel⟩
theorem ok_rows_of {f:Addr} {fd:FuncData} (F:Fun K "rows_of" "rows_of" zEk f fd) (T:Txt K mg):FnOk P w K mg base CX0 1 f fd ["names", "most"] spRows:=by
 refine F.ok zDv (fun vs H Q E h=>?_) (fun cdv A outer s H vs Q E hr h=>?_)
 ·obtain ⟨l,b,ns,rfl,_⟩:=h
  rfl
 ·obtain ⟨l,b,ns,rfl,hl,hn,k⟩:=h
  refine ⟨_,(zAb (zAj (i:=2) zDv.nd rfl (by walk_at "lc") (zA0 (zAa (zA0 zAc) zAc)))
   (zAb (zAx PassesOwn.never rfl (zAm (pv 0)) (zAh (i:=3) zDv.nd rfl (by walk_at "lc"))
    (zAd (zAj (i:=2) zDv.nd rfl (by walk_at "lc") (zAp op_cat (pv 2) (zBh rfl (zBj (sc:=zAe zEk) rfl (by decide +kernel)) (Draws.own (x:= "row") (Draws.tk (i:=3) rfl (by walk_at "vs") (by walk_at "vk") (by walk_at "vf") (Draws.tk (i:=1) rfl (by walk_at "vs") (by walk_at "vk") (by walk_at "vf") Draws.nil))) (zAm (pv 2)) (fun C s₀ H₀ ex=>(zAh (i:=0) (show List.Nodup (["row", "name", "most"]:List Str) by decide +kernel) rfl (by walk_at "lc"))) (fun C s₀ H₀ ex=>(zBr (zAn op_lt (zAl (zE2 (K:=K)) (by rfl) T.z_len zCt (zAa (pv 0) zAc)) (pv 2) (zAv _)))) (fun C s₀ H₀ ex=>(zAp op_cat (pv 0) (zA0 (zAa (pv 1) zAc)))))))))
   (zAd (zAs (pv 2))))),?_⟩
  have hs:=sizeLine_eq
  refine ⟨(by walk_at "ln"),fun e he=>?_⟩
  have k1:Kp [] H (upd H e (.lst [])):=Kp.new Kp.refl he
  have e1:upd H e (.lst []) e=some (.lst []):=upd_same
  generalize upd H e (.lst [])=H1 at k1 e1
  refine ⟨(by walk_at "ln"),fun a ha=>?_⟩
  have k2:Kp [] H1 (upd H1 a (.lst [.ref e])):=Kp.new Kp.refl ha
  have R0:Rws H (upd H1 a (.lst [.ref e])) a [(e,[])]:=⟨upd_same,fun p hp=>by rw [List.mem_singleton.mp hp];exact k2 _ _ e1 (by simp),fun p hp=>by rw [List.mem_singleton.mp hp];exact he⟩
  generalize upd H1 a (.lst [.ref e])=H2 at k2 R0
  have k02:=k1.trans k2
  refine ⟨_,rfl,_,rfl,⟨_,SqL.of (k02 l _ hl (by simp))⟩,zAy (xs:=ns.map V.str) (fun i σ H3=>∃(a:Addr) (ps:List (Addr×List Str)),(∃o3,σ=[some (.ref l),some (.int b),some (.ref a),o3])/\Rws H H3 a ps/\ps.map (·.2)=zGj b (ns.take i)/\Kp [] H H3) ⟨a,[(e,[])],⟨_,rfl⟩,R0,rfl,k02⟩ (fun i σ H3 _ ⟨_,_,_,_,_,k3⟩=>SqL.of (k3 l _ hl (by simp))) ?_ ?_⟩
  ·rintro i v σ H3 hv ⟨a,ps,⟨o3,rfl⟩,R3,ep,k3⟩
   obtain ⟨n,en,rfl⟩:=zBm hv
   have hi:i<ns.length:=(List.getElem?_eq_some_iff.mp en).1
   have hpl:ps.length<=128:=by
    have h1:ps.length=(zGj b (ns.take i)).length:=by rw [<-ep,List.length_map]
    have h2:=zDi b (ns.take i) [[]]
    have h3:2^(ns.take i).length<=2^7:=Nat.pow_le_pow_right (by decide) (by rw [List.length_take];omega)
    rw [h1]
    exact Nat.le_trans h2 (by rw [List.length_singleton,Nat.one_mul];exact h3)
   refine ⟨_,rfl,_,rfl,_,rfl,⟨_,SqL.of R3.top⟩,fun B hB=>zBb (ps.map fun p=>V.ref p.1) (fun j ys τ H4=>∃qs:List (Addr×List Str),(∃o0,τ=[o0,some (.str n),some (.int b)])/\ys=qs.map (fun p=>V.ref p.1)/\H4 B=some (.lst ys)/\qs.map (·.2)=(((ps.take j).map (·.2)).filter fun r=>decide ((r.length:Int)<b)).map (fun r=>r++[n])/\(∀q∈qs,H4 q.1=some (.lst (q.2.map V.str))/\q.1≠B/\Fre H3 q.1)/\Kp [] H3 H4) ⟨[],⟨_,rfl⟩,rfl,upd_same,rfl,(fun q h=>nomatch h),Kp.new Kp.refl hB⟩ (fun j ys τ H4 ⟨_,_,_,_,_,_,k4⟩=>SqL.of (k4 _ _ R3.top (by simp))) ?_ ?_⟩
   ·rintro j v ys τ H4 hv ⟨qs,⟨o0,rfl⟩,rfl,hB4,eq,hq,k4⟩
    obtain ⟨p,epj,rfl⟩:=rw_at hv
    have mp:=List.mem_of_getElem? epj
    have hrow:=k4 _ _ (R3.row p mp) (by simp)
    have hql:qs.length<=j:=by
     have:=congrArg List.length eq
     simp only [List.length_map] at this
     rw [this]
     refine Nat.le_trans (List.length_filter_le _ _) ?_
     rw [List.length_map,List.length_take];omega
    have hj:j<ps.length:=(List.getElem?_eq_some_iff.mp epj).1
    have hp2:p.2.length<=7:=by
     have h1:p.2∈zGj b (ns.take i):=by rw [<-ep];exact List.mem_map.mpr ⟨p,mp,rfl⟩
     have h2:=zE9 b (ns.take i) [[]] 0 (fun r hr=>by rw [List.mem_singleton.mp hr];exact Nat.le_refl _) p.2 h1
     rw [List.length_take] at h2;omega
    refine ⟨_,rfl,_,_,rfl,.inl (SqL.of hrow),_,rfl,_,_,rfl,rfl,_,rfl,?_⟩
    refine ite2 (fun c=>?_) (fun c=>?_)
    ·rw [List.length_map] at c
     refine ⟨_,rfl,_,rfl,(by walk_at "ln"),fun z hz=>?_⟩
     have kz:Kp [] H4 (upd H4 z (.lst [.str n])):=Kp.new Kp.refl hz
     have hz4:upd H4 z (.lst [.str n]) z=some (.lst [.str n]):=upd_same
     have nBz:B≠z:=zAk hB4 hz
     generalize upd H4 z (.lst [.str n])=H5 at kz hz4
     refine ⟨_,_,_,_,rfl,rfl,kz _ _ hrow (by simp),hz4,by rw [List.length_map];show _+1<=_;omega,fun r hr'=>?_⟩
     have hB5:=kz _ _ hB4 (by simp)
     have nBr:B≠r:=zAk hB5 hr'
     refine ⟨(upd_ne nBr).trans hB5,by rw [List.length_map];omega,qs++[(r,p.2++[n])],⟨_,rfl⟩,by rw [List.map_append];rfl,upd_same,?_,fun q hq'=>?_,?_⟩
     ·rw [List.map_append,eq,zAi epj,List.map_append,List.filter_append,List.map_append]
      show _++[p.2++[n]]=_++(List.filter _ [p.2]).map _
      rw [List.filter_cons,if_pos c];rfl
     ·rcases List.mem_append.mp hq' with z'| z'
      ·obtain ⟨h1,h2,h3⟩:=hq q z'
       have h5:=kz _ _ h1 (by simp)
       exact ⟨by rw [upd_ne h2,upd_ne (zAk h5 hr')];exact h5,h2,h3⟩
      ·rw [List.mem_singleton.mp z']
       refine ⟨by rw [upd_ne nBr.symm,upd_same,List.map_append];rfl,nBr.symm,(k4.trans kz).fre hr' (by simp)⟩
     ·exact Kp.new (Kp.new (k4.trans kz) ((k4.trans kz).fre hr' (by simp))) hB
    ·rw [List.length_map] at c
     refine ⟨qs,⟨_,rfl⟩,rfl,hB4,?_,hq,k4⟩
     rw [eq,zAi epj,List.map_append,List.filter_append]
     show _=(_++List.filter _ [p.2]).map _
     rw [List.filter_cons,if_neg c];simp
   ·rintro ys τ H4 ⟨qs,_,rfl,hB4,eq,hq,k4⟩
    rw [List.length_map,List.take_length] at eq
    have hql:qs.length<=128:=by
     have:=congrArg List.length eq
     simp only [List.length_map] at this
     rw [this]
     exact Nat.le_trans (List.length_filter_le _ _) (by rw [List.length_map];exact hpl)
    refine ⟨_,_,_,_,rfl,rfl,k4 _ _ R3.top (by simp),hB4,by rw [List.length_map,List.length_map];omega,fun r hr'=>?_⟩
    have kr:Kp [] H4 (upd H4 r (.lst (ps.map (fun p=>V.ref p.1)++qs.map fun p=>V.ref p.1))):=Kp.new Kp.refl hr'
    refine ⟨r,ps++qs,⟨_,rfl⟩,⟨by rw [upd_same,List.map_append],fun p hp=>?_,fun p hp=>?_⟩,?_,k3.trans (k4.trans kr)⟩
    ·rcases List.mem_append.mp hp with z| z
     ·exact (k4.trans kr) _ _ (R3.row p z) (by simp)
     ·exact kr _ _ (hq p z).1 (by simp)
    ·rcases List.mem_append.mp hp with z| z
     ·exact R3.fr p z
     ·exact k3.fre (hq p z).2.2 (by simp)
    ·rw [List.map_append,eq,ep,zAi en]
     unfold zGj
     rw [List.foldl_append];rfl
  ·rintro σ H3 ⟨a,ps,⟨o3,rfl⟩,R3,ep,k3⟩
   rw [List.length_map,List.take_length] at ep
   exact ⟨_,rfl,k a ps H3 R3 ep k3⟩
end
theorem pi_listK {X:Cx} {K:PySem.W.Frag} {tg l:Expr} {tl:TE} (hl:PE X l tl) (hK:X.K=K:=by rfl):PI X tg l (iList K tl):=by subst hK;exact zAm hl
theorem zHe {X:Cx} {K:PySem.W.Frag} (hK:X.K=K:=by rfl):zDe X (.type "tuple") (fun xs H Q=>∃p ys,xs=[.ref p]/\((SqL K H p ys/\∀l,H l=none->Q (.ref l) (upd H l (.tup ys)))\/(SqT K H p ys/\Q (.ref p) H))):=by subst hK;exact zBy
def zEh (J:JR) (D:List Str):List Str:=J.ns.filter fun n=>decide (n∉D)&&rdyB J D n
def nowF (ns D r:List Str):List Str:=ns.filter fun n=>decide (n∈D)||decide (n∈r)
def zAz (J:JR) (b:Int) (D:List Str):List (List Str×List Str):=(zGj b (zEh J D)).map fun r=>(r,nowF J.ns D r)
structure SE where
 t:Addr
 ra:Addr
 r:List Str
 na:Addr
 d:List Str
structure StL (H0 H:Hp) (l:Addr) (es:List SE):Prop where
 top:H l=some (.lst (es.map fun e=>V.ref e.t))
 tup:∀e∈es,H e.t=some (.tup [.ref e.ra,.ref e.na])
 row:∀e∈es,H e.ra=some (.lst (e.r.map V.str))
 now:∀e∈es,H e.na=some (.tup (e.d.map V.str))
 fr:∀e∈es,Fre H0 e.ra
theorem StL.kp0 {H0 H H':Hp} {l:Addr} {es:List SE} (S:StL H0 H l es) (k:Kp [] H H'):StL H0 H' l es:=⟨k _ _ S.top (by simp),fun e he=>k _ _ (S.tup e he) (by simp),fun e he=>k _ _ (S.row e he) (by simp),fun e he=>k _ _ (S.now e he) (by simp),S.fr⟩
section
variable {P:Program} {w:World} {K:PySem.W.Frag} {mg:Str->Option Value} {base:Heap} {C:Addr}
def spSteps (C:Addr):Sp:=fun vs H Q _=>∃(j dn:Addr) (b:Int) (J:JR) (D:List Str),vs=[.ref j,.int b,.ref dn]/\JobsAt C H j J/\J.ns.length<=7/\H dn=some (.tup (D.map V.str))/\∀(a:Addr) (es:List SE) (H':Hp),Fre H a->StL H H' a es->es.map (fun e=>(e.r,e.d))=zAz J b D->Kp [] H H'->Q (.ref a) H'
abbrev zBt:Stmt:=top 28
theorem zC3:FnScope ["jobs", "benches", "done", "names", "free"] ["jobs", "benches", "done"] (zAe zBt):=⟨rfl,rfl,rfl,by decide +kernel,rfl,by decide +kernel,by decide +kernel⟩
theorem zIj {f:Addr} {fd:FuncData} (F:Fun K "steps_from" "steps_from" zBt f fd) (T:Txt K mg) (U:JC K mg C) (M_names:Mth P w K mg base C "names" 1 ["self"] (zH3 C)) (C_is_ready:Cal P w K mg base "is_ready" 4 ["jobs", "earlier", "name"] (spReadyT C)) (C_rows_of:Cal P w K mg base "rows_of" 1 ["names", "most"] spRows):FnOk P w K mg base CX0 5 f fd ["jobs", "benches", "done"] (spSteps C):=by
 refine F.ok zC3 (fun vs H Q E h=>?_) (fun cdv A outer s H vs Q E hr h=>?_)
 ·obtain ⟨j,dn,b,J,D,rfl,_⟩:=h
  rfl
 ·obtain ⟨j,dn,b,J,D,rfl,A0,few,hdn,k⟩:=h
  have hr1:=hr.mono (j:=1) (by decide)
  have HR4:Room 4 _:=hr
  refine ⟨_,(zAb (zAj (i:=3) zC3.nd rfl (by walk_at "lc") (zGm M_names U.cl hr1 (pv 0)))
   (zAb (zFa (i:=4) rfl (zBj (sc:=zAe zBt) rfl (by decide +kernel)) (Draws.own (x:= "name") (Draws.tk (i:=2) rfl (by walk_at "vs") (by walk_at "vk") (by walk_at "vf") (Draws.tk (i:=0) rfl (by walk_at "vs") (by walk_at "vk") (by walk_at "vf") Draws.nil))) (zAm (pv 3)) (fun C s₀ H₀ ex=>(zAh (i:=0) (show List.Nodup (["name", "done", "jobs"]:List Str) by decide +kernel) rfl (by walk_at "lc"))) (fun C s₀ H₀ ex=>(zBr (PW.pt (zFn (zAn (zDa (K:=K)) (pv 0) (pv 1) (by rfl)) (zEd (zD4 (zAg C_is_ready HR4 rfl (zAa (pv 2) (zAa (pv 1) (zAa (pv 0) zAc)))))))))) (fun C s₀ H₀ ex=>(pv 0)) zC3.nd rfl rfl)
   (zAd (zAs (zBh rfl (zBj (sc:=zAe zBt) rfl (by decide +kernel)) (Draws.own (x:= "row") (Draws.tk (i:=3) rfl (by walk_at "vs") (by walk_at "vk") (by walk_at "vf") (Draws.tk (i:=2) rfl (by walk_at "vs") (by walk_at "vk") (by walk_at "vf") Draws.nil))) (zAm (zAg C_rows_of hr1 rfl (zAa (pv 4) (zAa (pv 1) zAc)))) (fun C s₀ H₀ ex=>(zAh (i:=0) (show List.Nodup (["row", "names", "done"]:List Str) by decide +kernel) rfl (by walk_at "lc"))) (fun C s₀ H₀ ex=>zDk) (fun C s₀ H₀ ex=>(zDl (zAa (pv 0) (zAa (zAq (zHe (K:=K)) (by rfl) T.z_tuple zE3 (zAa (zBh rfl (blk_in (sc:=zAe zBt) rfl rfl (by decide +kernel)) (Draws.own (x:= "name") (Draws.tk (i:=2) rfl (by walk_at "vs") (by walk_at "vk") (by walk_at "vf") (Draws.tk (i:=0) rfl (by walk_at "vs") (by walk_at "vk") (by walk_at "vf") Draws.nil))) (pi_listK (K:=K) (pv 1)) (fun C s₀ H₀ ex=>(zAh (i:=0) (show List.Nodup (["name", "done", "row"]:List Str) by decide +kernel) rfl (by walk_at "lc"))) (fun C s₀ H₀ ex=>(zBr (PW.pt (pw_or (zAn (zC1 (K:=K)) (pv 0) (pv 1) (by rfl)) (zHn (zAn (zC1 (K:=K)) (pv 0) (pv 2) (by rfl))))))) (fun C s₀ H₀ ex=>(pv 0))) zAc)) zAc))))))))),?_⟩
  have hs:=sizeLine_eq
  refine ⟨_,rfl,j,J.dx,_,rfl,A0.ob,jf_no _ _ _ (by decide +kernel) (by decide +kernel) (by decide +kernel),j,J,rfl,A0,fun nl H1 fn h1 k1=>?_⟩
  have hd1:=k1 dn _ hdn (by simp)
  refine ⟨_,rfl,_,rfl,⟨_,SqL.of h1⟩,fun B hB=>zBb (J.ns.map V.str) (fun i ys τ H2=>(∃o0,τ=[o0,some (.ref dn),some (.ref j)])/\ys=((J.ns.take i).filter fun n=>decide (n∉D)&&rdyB J D n).map V.str/\Kp [] H1 H2/\H2 B=some (.lst ys)) ⟨⟨_,rfl⟩,rfl,Kp.new Kp.refl hB,upd_same⟩ (fun i ys τ H2 ⟨_,_,k2,_⟩=>SqL.of (k2 nl _ h1 (by simp))) ?_ ?_⟩
  ·rintro i v ys τ H2 hv ⟨⟨o0,rfl⟩,rfl,k2,h2⟩
   obtain ⟨n,en,rfl⟩:=zBm hv
   refine ⟨_,rfl,_,rfl,_,_,rfl,.inr (SqT.of (k2 dn _ hd1 (by simp))),rfl,zBi _,_,rfl,?_⟩
   rw [if_pos rfl,zCl]
   by_cases c1:n∈D
   ·rw [decide_eq_true c1]
    refine iteF (iteF ⟨⟨_,rfl⟩,?_,k2,h2⟩)
    rw [zBn en (by simp [c1])]
   ·rw [decide_eq_false c1]
    refine iteT ?_
    refine ⟨_,rfl,_,rfl,_,rfl,j,dn,J,D,n,rfl,A0.kp0 (k1.trans k2),k2 dn _ hd1 (by simp),List.mem_of_getElem? en,fun H3 k3=>⟨_,rfl,?_⟩⟩
    have h3:=k3 _ _ h2 (by simp)
    refine ite2 (fun c=>?_) (fun c=>?_)
    ·refine ⟨_,rfl,h3,by rw [List.length_map];exact zBk (by omega),⟨_,rfl⟩,?_,Kp.new (k2.trans k3) hB,upd_same⟩
     rw [zBf (p:=fun n=>decide (n∉D)&&rdyB J D n) en (by simp [c1,c]),List.map_append];rfl
    ·refine ⟨⟨_,rfl⟩,?_,k2.trans k3,h3⟩
     rw [zBn en (by simp [c])]
  rintro ys τ H2 ⟨_,rfl,k2,h2⟩
  rw [List.length_map,List.take_length] at h2
  have hfl:(zEh J D).length<=7:=Nat.le_trans (List.length_filter_le _ _) few
  refine ⟨_,rfl,_,rfl,B,b,zEh J D,rfl,h2,hfl,fun ra ps H3 R3 ep k3=>?_⟩
  have hpl:ps.length<=128:=by
   have h1:ps.length=(zGj b (zEh J D)).length:=by rw [<-ep,List.length_map]
   have h2:=zDi b (zEh J D) [[]]
   have h3:2^(zEh J D).length<=2^7:=Nat.pow_le_pow_right (by decide) hfl
   rw [h1]
   exact Nat.le_trans h2 (by rw [List.length_singleton,Nat.one_mul];exact h3)
  have k13:=k2.trans k3
  have k03:=k1.trans k13
  refine ⟨_,rfl,⟨_,SqL.of R3.top⟩,fun L hL=>zB1 (ps.map fun p=>V.ref p.1) (fun i ys τ H4=>∃es:List SE,(∃o0,τ=[o0,some (.ref nl),some (.ref dn)])/\ys=es.map (fun e=>V.ref e.t)/\H4 L=some (.lst ys)/\es.map (fun e=>(e.ra,e.r))=ps.take i/\(∀e∈es,e.t≠L/\e.na≠L/\H4 e.t=some (.tup [.ref e.ra,.ref e.na])/\H4 e.na=some (.tup (e.d.map V.str))/\e.d=nowF J.ns D e.r)/\Kp [] H3 H4) ⟨[],⟨_,rfl⟩,rfl,upd_same,rfl,(fun q h=>nomatch h),Kp.new Kp.refl hL⟩ (fun i ys τ H4 ⟨_,_,_,_,_,_,k4⟩=>SqL.of (k4 _ _ R3.top (by simp))) ?_ ?_⟩
  ·rintro i v ys τ H4 hv ⟨es,⟨o0,rfl⟩,rfl,hL4,eq,he,k4⟩
   obtain ⟨p,epi,rfl⟩:=rw_at hv
   have mp:=List.mem_of_getElem? epi
   have hi:i<ps.length:=(List.getElem?_eq_some_iff.mp epi).1
   have el:es.length=i:=by
    have:=congrArg List.length eq
    rw [List.length_map,List.length_take] at this
    omega
   have hrow:=k4 _ _ (R3.row p mp) (by simp)
   have hn4:=(k13.trans k4) nl _ h1 (by simp)
   have hd4:=(k03.trans k4) dn _ hdn (by simp)
   refine ⟨_,rfl,_,rfl,_,rfl,⟨_,SqL.of hn4⟩,fun Y hY=>zBb (J.ns.map V.str) (fun q ys τ H5=>(∃o0,τ=[o0,some (.ref dn),some (.ref p.1)])/\ys=((J.ns.take q).filter fun n=>decide (n∈D)||decide (n∈p.2)).map V.str/\H5=upd H4 Y (.lst ys)) ⟨⟨_,rfl⟩,rfl,rfl⟩ (fun q ys τ H5 ⟨_,_,z⟩=>by subst z;exact SqL.of ((Kp.new (M:=[]) Kp.refl hY) _ _ hn4 (by simp))) ?_ ?_⟩
   ·rintro q v ys τ H5 hv ⟨⟨o0,rfl⟩,rfl,rfl⟩
    obtain ⟨n,en,rfl⟩:=zBm hv
    have kY:Kp [] H4 (upd H4 Y (.lst (((J.ns.take q).filter fun n=>decide (n∈D)||decide (n∈p.2)).map V.str))):=Kp.new Kp.refl hY
    refine ⟨_,rfl,_,rfl,_,_,rfl,.inr (SqT.of (kY _ _ hd4 (by simp))),rfl,zBi _,_,rfl,?_⟩
    rw [if_neg (by decide),zCl]
    by_cases c1:n∈D
    ·rw [decide_eq_true c1]
     refine iteT (iteT ?_)
     refine ⟨_,rfl,upd_same,by rw [List.length_map];exact zBk (by omega),⟨_,rfl⟩,?_,zBg⟩
     rw [zBf (p:=fun n=>decide (n∈D)||decide (n∈p.2)) en (by simp [c1]),List.map_append];rfl
    ·rw [decide_eq_false c1]
     refine iteF ?_
     refine ⟨_,rfl,_,rfl,_,_,rfl,.inl (SqL.of (kY _ _ hrow (by simp))),rfl,zBi _,_,rfl,?_⟩
     rw [if_neg (by decide),zCl]
     refine ite2 (fun c=>?_) (fun c=>?_)
     ·refine ⟨_,rfl,upd_same,by rw [List.length_map];exact zBk (by omega),⟨_,rfl⟩,?_,zBg⟩
      rw [zBf (p:=fun n=>decide (n∈D)||decide (n∈p.2)) en (by rw [c];simp),List.map_append];rfl
     ·refine ⟨⟨_,rfl⟩,?_,rfl⟩
      rw [zBn (p:=fun n=>decide (n∈D)||decide (n∈p.2)) en (by simpa [c1] using c)]
   ·rintro ys τ H5 ⟨_,rfl,rfl⟩
    rw [List.length_map,List.take_length,show (J.ns.filter fun n=>decide (n∈D)||decide (n∈p.2))=nowF J.ns D p.2 from rfl]
    have kY:Kp [] H4 (upd H4 Y (.lst ((nowF J.ns D p.2).map V.str))):=Kp.new Kp.refl hY
    have hY5:upd H4 Y (.lst ((nowF J.ns D p.2).map V.str)) Y=some (.lst ((nowF J.ns D p.2).map V.str)):=upd_same
    refine ⟨Y,(nowF J.ns D p.2).map V.str,rfl,.inl ⟨SqL.of hY5,fun na hna=>?_⟩⟩
    have hna:upd H4 Y (.lst ((nowF J.ns D p.2).map V.str)) na=none:=hna
    generalize upd H4 Y (.lst ((nowF J.ns D p.2).map V.str))=H5 at kY hY5 hna
    have kn:Kp [] H5 (upd H5 na (.tup ((nowF J.ns D p.2).map V.str))):=Kp.new Kp.refl hna
    have hn6:upd H5 na (.tup ((nowF J.ns D p.2).map V.str)) na=some (.tup ((nowF J.ns D p.2).map V.str)):=upd_same
    have nLn:L≠na:=zAk (kY _ _ hL4 (by simp)) hna
    generalize upd H5 na (.tup ((nowF J.ns D p.2).map V.str))=H6 at kn hn6
    refine ⟨(by walk_at "ln"),fun t ht=>?_⟩
    have kt:Kp [] H6 (upd H6 t (.tup [.ref p.1,.ref na])):=Kp.new Kp.refl ht
    have hL6:=(kY.trans kn) _ _ hL4 (by simp)
    have nLt:L≠t:=zAk hL6 ht
    have k47:Kp [] H4 (upd H6 t (.tup [.ref p.1,.ref na])):=(kY.trans kn).trans kt
    have ht7:upd H6 t (.tup [.ref p.1,.ref na]) t=some (.tup [.ref p.1,.ref na]):=upd_same
    have hn7:=kt _ _ hn6 (by simp)
    have hL7:=k47 _ _ hL4 (by simp)
    generalize upd H6 t (.tup [.ref p.1,.ref na])=H7 at kt k47 ht7 hn7 hL7
    refine ⟨hL7,by rw [List.length_map];omega,es++[⟨t,p.1,p.2,na,nowF J.ns D p.2⟩],⟨_,rfl⟩,by rw [List.map_append];rfl,upd_same,?_,fun e he'=>?_,?_⟩
    ·rw [List.map_append,eq,zAi epi];rfl
    ·rcases List.mem_append.mp he' with z| z
     ·obtain ⟨h1,h2,h3,h4,h5⟩:=he e z
      exact ⟨h1,h2,by rw [upd_ne h1];exact k47 _ _ h3 (by simp),by rw [upd_ne h2];exact k47 _ _ h4 (by simp),h5⟩
     ·rw [List.mem_singleton.mp z]
      exact ⟨nLt.symm,nLn.symm,by rw [upd_ne nLt.symm];exact ht7,by rw [upd_ne nLn.symm];exact hn7,rfl⟩
    ·exact Kp.new (k4.trans k47) hL
  ·rintro ys τ H4 ⟨es,_,rfl,hL4,eq,he,k4⟩
   rw [List.length_map,List.take_length] at eq
   have bk:∀e∈es,(e.ra,e.r)∈ps:=fun e h=>by rw [<-eq];exact List.mem_map.mpr ⟨e,h,rfl⟩
   refine k L es H4 (k03.fre hL (by simp)) ⟨hL4,fun e h=>(he e h).2.2.1,fun e h=>k4 _ _ (R3.row _ (bk e h)) (by simp),fun e h=>(he e h).2.2.2.1,fun e h=>(k1.trans k2).fre (R3.fr _ (bk e h)) (by simp)⟩ ?_ (k03.trans k4)
   unfold zAz
   rw [<-ep,<-eq,List.map_map,List.map_map]
   exact List.map_congr_left fun e h=>by show (e.r,e.d)=(e.r,nowF J.ns D e.r);rw [(he e h).2.2.2.2]
end
def kyS (D:List Str):List Key:=D.map Sum.inr
theorem zCk (D:List Str):(kyS D).map kV=D.map V.str:=by unfold kyS;rw [List.map_map];rfl
theorem zFc:∀{A B:List Str},kyS A=kyS B->A=B
 | [],[],_=>rfl
 | [],_::_,h=>nomatch h
 | _::_,[],h=>nomatch h
 | a::A,b::B,h=>by
  obtain ⟨h1,h2⟩:=List.cons.inj h
  rw [Sum.inr.inj h1,zFc h2]
def powL:List Str->List (List Str)
 | []=>[[]]
 | n::ns=>powL ns++(powL ns).map (n::·)
theorem powL_len:∀ns:List Str,(powL ns).length=2^ns.length
 | []=>rfl
 | n::ns=>by
  show (powL ns++(powL ns).map (n::·)).length=2^(ns.length+1)
  rw [List.length_append,List.length_map,powL_len ns,Nat.pow_succ];omega
theorem zFi (p:Str->Bool):∀ns:List Str,ns.filter p∈powL ns
 | []=>List.mem_singleton.mpr rfl
 | n::ns=>by
  rw [List.filter_cons]
  show _∈powL ns++(powL ns).map (n::·)
  split
  ·exact List.mem_append_right _ (List.mem_map.mpr ⟨_,zFi p ns,rfl⟩)
  ·exact List.mem_append_left _ (zFi p ns)
theorem sub_lenK:∀{A B:List (List Key)},A.Nodup->(∀x∈A,x∈B)->A.length<=B.length
 | [],B,_,_=>Nat.zero_le _
 | a::A,B,h,hs=>by
  obtain ⟨h1,h2⟩:=List.nodup_cons.mp h
  have hb:=hs a List.mem_cons_self
  have:=sub_lenK (B:=B.filter fun x=>decide (x≠a)) h2 fun x hx=>List.mem_filter.mpr ⟨hs x (List.mem_cons_of_mem _ hx),decide_eq_true fun e=>h1 (e▸hx)⟩
  have:(B.filter fun x=>decide (x≠a)).length<B.length:=List.length_filter_lt_length_iff_exists.mpr ⟨a,hb,by simp⟩
  rw [List.length_cons];omega
theorem keys_few {ns:List Str} {kvs:List (List Key×V)} (hn:ns.length<=7) (nd:(kvs.map (·.1)).Nodup) (h:∀kv∈kvs,∃p,kv.1=kyS (ns.filter p)):kvs.length<=128:=by
 have h1:=sub_lenK (B:=(powL ns).map kyS) nd fun x hx=>by
  obtain ⟨kv,m,rfl⟩:=List.mem_map.mp hx
  obtain ⟨p,e⟩:=h kv m
  rw [e];exact List.mem_map.mpr ⟨_,zFi p ns,rfl⟩
 rw [List.length_map,List.length_map,powL_len] at h1
 exact Nat.le_trans h1 (Nat.pow_le_pow_right (by decide) hn:2^ns.length<=2^7)
section
variable {κ:Type} [DecidableEq κ]
theorem zHz:∀{kvs:List (κ×V)} {k:κ},k∈kvs.map (·.1)->∃v,valV kvs k=some v/\(k,v)∈kvs
 | [],k,h=>nomatch h
 | p::r,k,h=>by
  by_cases e:p.1=k
  ·exact ⟨p.2,zA9 e,by rw [<-e];exact List.mem_cons_self⟩
  ·obtain ⟨v,h1,h2⟩:=zHz (kvs:=r) (k:=k) ((List.mem_cons.mp h).resolve_left fun z=>e z.symm)
   exact ⟨v,(zA3 e).trans h1,List.mem_cons_of_mem _ h2⟩
theorem zEj:∀{kvs:List (κ×V)} {k:κ},k∉kvs.map (·.1)->valV kvs k=none
 | [],k,h=>rfl
 | p::r,k,h=>by
  rw [List.map_cons,List.mem_cons,not_or] at h
  rw [zA3 fun z=>h.1 z.symm];exact zEj h.2
theorem val_is (kvs:List (κ×V)) (k:κ):(valV kvs k).isSome=decide (k∈kvs.map (·.1)):=by
 by_cases h:k∈kvs.map (·.1)
 ·obtain ⟨v,e,_⟩:=zHz h
  rw [e,decide_eq_true h];rfl
 ·rw [zEj h,decide_eq_false h];rfl
theorem keys_putK (kvs:List (κ×V)) (k:κ) (v:V):(putK kvs k v).map (·.1)=if k∈kvs.map (·.1) then kvs.map (·.1) else kvs.map (·.1)++[k]:=by
 by_cases h:k∈kvs.map (·.1)
 ·rw [if_pos h]
  unfold putK
  have:(kvs.any fun kv=>decide (kv.1=k))=true:=by
   obtain ⟨q,h1,h2⟩:=List.mem_map.mp h
   exact List.any_eq_true.mpr ⟨q,h1,decide_eq_true h2⟩
  rw [if_pos this,List.map_map]
  exact List.map_congr_left fun q _=>by
   show (if q.1=k then (q.1,v) else q).1=q.1
   split<;>rfl
 ·rw [if_neg h,zDy v (zEj h),List.map_append];rfl
theorem nd_put {kvs:List (κ×V)} {k:κ} {v:V} (h:(kvs.map (·.1)).Nodup):((putK kvs k v).map (·.1)).Nodup:=by
 rw [keys_putK]
 split
 ·exact h
 ·rename_i n
  exact List.nodup_append.mpr ⟨h,by simp,fun a ha d hd=>by rw [List.mem_singleton.mp hd];exact fun z=>n (z▸ha)⟩
end
theorem StL.put {M:List Addr} {H0 H H':Hp} {l:Addr} {es:List SE} (S:StL H0 H l es) (k:Kp M H H') (h:∀m∈M,∃o,H0 m=some o) (h2:∀m∈M,∀ys,H m≠some (.tup ys)) (fl:Fre H0 l):StL H0 H' l es:=by
 have nf:∀x,Fre H0 x->x∉M:=fun x f z=>by
  obtain ⟨o,e⟩:=h x z
  rw [show H0 x=none from f] at e;cases e
 have nt:∀x ys,H x=some (.tup ys)->x∉M:=fun x ys e z=>h2 x z ys e
 exact ⟨k _ _ S.top (nf _ fl),fun e he=>k _ _ (S.tup e he) (nt _ _ (S.tup e he)),fun e he=>k _ _ (S.row e he) (nf _ (S.fr e he)),fun e he=>k _ _ (S.now e he) (nt _ _ (S.now e he)),S.fr⟩
structure StD (J:JR) (b:Int) (H0 H:Hp) (d:Addr) (kvs:List (List Key×V)):Prop where
 top:H d=some (.dT kvs)
 each:∀kv∈kvs,∃(D:List Str) (l:Addr) (es:List SE),kv=(kyS D,.ref l)/\StL H0 H l es/\es.map (fun e=>(e.r,e.d))=zAz J b D/\Fre H0 l/\∃p,D=J.ns.filter p
 nd:(kvs.map (·.1)).Nodup
theorem StD.kp0 {J:JR} {b:Int} {H0 H H':Hp} {d:Addr} {kvs:List (List Key×V)} (S:StD J b H0 H d kvs) (k:Kp [] H H'):StD J b H0 H' d kvs:=⟨k _ _ S.top (by simp),fun kv h=>by
 obtain ⟨D,l,es,e1,e2,e3⟩:=S.each kv h
 exact ⟨D,l,es,e1,e2.kp0 k,e3⟩,S.nd⟩
theorem StD.few {J:JR} {b:Int} {H0 H:Hp} {d:Addr} {kvs:List (List Key×V)} (S:StD J b H0 H d kvs) (hn:J.ns.length<=7):kvs.length<=128:=keys_few hn S.nd fun kv h=>by
 obtain ⟨D,l,es,rfl,_,_,_,p,rfl⟩:=S.each kv h
 exact ⟨p,rfl⟩
theorem zE6 {J:JR} {b:Int} {D:List Str} (hn:J.ns.length<=7):(zAz J b D).length<=128:=by
 have h2:=zDi b (zEh J D) [[]]
 have h3:2^(zEh J D).length<=2^7:=Nat.pow_le_pow_right (by decide) (Nat.le_trans (List.length_filter_le _ _) hn)
 unfold zAz
 rw [List.length_map]
 exact Nat.le_trans h2 (by rw [List.length_singleton,Nat.one_mul];exact h3)
theorem se_at {es:List SE} {i:Nat} {v:V} (h:(es.map fun e=>V.ref e.t)[i]?=some v):∃e,es[i]?=some e/\v= .ref e.t:=by
 rw [List.getElem?_map] at h
 obtain ⟨p,e,r⟩:=Option.map_eq_some_iff.mp h
 exact ⟨p,e,r.symm⟩
def szT (H:Hp) (a:Addr):Nat:=match H a with
 | some (.dT kvs)=>kvs.length
 | _=>0
section
variable {P:Program} {w:World} {K:PySem.W.Frag} {mg:Str->Option Value} {base:Heap} {C:Addr}
def spAll (C:Addr):Sp:=fun vs H Q _=>∃(j:Addr) (b:Int) (J:JR),vs=[.ref j,.int b]/\JobsAt C H j J/\J.ns.length<=7/\∀(d:Addr) (kvs:List (List Key×V)) (H':Hp),StD J b H H' d kvs->kyS []∈kvs.map (·.1)->(∀D,kyS D∈kvs.map (·.1)->∀s∈zAz J b D,kyS s.2∈kvs.map (·.1))->Kp [] H H'->Q (.ref d) H'
abbrev zC8:Stmt:=top 27
theorem zCp:FnScope ["jobs", "benches", "steps", "left", "done"] ["jobs", "benches"] (zAe zC8):=⟨rfl,rfl,rfl,by decide +kernel,rfl,by decide +kernel,by decide +kernel⟩
theorem ok_all_steps {f:Addr} {fd:FuncData} (F:Fun K "all_steps" "all_steps" zC8 f fd) (T:Txt K mg) (C_steps_from:Cal P w K mg base "steps_from" 5 ["jobs", "benches", "done"] (spSteps C)):FnOk P w K mg base CX0 6 f fd ["jobs", "benches"] (spAll C):=by
 refine F.ok zCp (fun vs H Q E h=>?_) (fun cdv A outer s H vs Q E hr h=>?_)
 ·obtain ⟨j,b,J,rfl,_⟩:=h
  rfl
 ·obtain ⟨j,b,J,rfl,A0,few,k⟩:=h
  have hu:=zEy hr
  refine ⟨_,(zAb (zAj (i:=2) zCp.nd rfl (by walk_at "lc") zIg)
   (zAb (zAj (i:=3) zCp.nd rfl (by walk_at "lc") (zA0 (zAa (zDl zAc) zAc)))
   (zAb (zIb PassesOwn.never (zIa (pv 3) (fun _=>rfl))
    (zAb (zAj (i:=4) zCp.nd rfl (by walk_at "lc") (pe_bm0 PySem.F.plainAttrs_list PySem.F.slot_list_pop PySem.F.type_list_pop mt_pop (pv 3)))
    (zAd (zCb (zFo (zGo hu (pv 4) (pv 2)))
     (zAb (zB9 hu (pv 2) (pv 4) (zAg C_steps_from hr rfl (zAa (pv 0) (zAa (pv 1) (zAa (pv 4) zAc)))) rfl)
     (zAd (zA4 (zEq PySem.F.plainAttrs_list PySem.F.slot_list_extend PySem.F.type_list_extend zEu (pv 3) (zAa (zBh rfl (zBj (sc:=zAe zC8) rfl (by decide +kernel)) (Draws.own (x:= "row") (Draws.own (x:= "now") Draws.nil)) (zAm (zBa hu (pv 2) (pv 4) (fun _ _=>rfl))) (fun C s₀ H₀ ex=>(zIe (K:=K) (n:=2) rfl (zAt (zAh (i:=0) (show List.Nodup (["row", "now"]:List Str) by decide +kernel) rfl (by walk_at "lc")) (zAt (zAh (i:=1) (show List.Nodup (["row", "now"]:List Str) by decide +kernel) rfl (by walk_at "lc")) zC9)))) (fun C s₀ H₀ ex=>zDk) (fun C s₀ H₀ ex=>(pv 1))) zAc)))))
     zAw))))
   (zAd (zAs (pv 2)))))),?_⟩
  have hs:=sizeLine_eq
  refine fun d hd=>?_
  have k1:Kp [] H (upd H d (.dT [])):=Kp.new Kp.refl hd
  have hd1:upd H d (.dT []) d=some (.dT []):=upd_same
  generalize upd H d (.dT [])=H1 at k1 hd1
  refine ⟨(by walk_at "ln"),fun t0 ht0=>?_⟩
  have k2:Kp [] H1 (upd H1 t0 (.tup [])):=Kp.new Kp.refl ht0
  have ht2:upd H1 t0 (.tup []) t0=some (.tup []):=upd_same
  have hd2:=k2 _ _ hd1 (by simp)
  generalize upd H1 t0 (.tup [])=H2 at k2 ht2 hd2
  refine ⟨(by walk_at "ln"),fun lf hlf=>?_⟩
  have k3:Kp [] H2 (upd H2 lf (.lst [.ref t0])):=Kp.new Kp.refl hlf
  have hl3:upd H2 lf (.lst [.ref t0]) lf=some (.lst [.ref t0]):=upd_same
  have hd3:=k3 _ _ hd2 (by simp)
  have ht3:=k3 _ _ ht2 (by simp)
  have flf:Fre H lf:=(k1.trans k2).fre hlf (by simp)
  have k03:=(k1.trans k2).trans k3
  generalize upd H2 lf (.lst [.ref t0])=Hs at k3 hl3 hd3 ht3 k03
  have ndl:d≠lf:=zBe hd3 hl3 (fun z=>nomatch z)
  have inM:∀m∈[d,lf],∃o,Hs m=some o:=fun m hm=>by
   rcases List.mem_cons.mp hm with z| z
   ·rw [z];exact ⟨_,hd3⟩
   ·rw [List.mem_singleton.mp z];exact ⟨_,hl3⟩
  have A3:=A0.kp0 k03
  show tWhile (fun σ H Q=>tVar 3 σ H fun x H'=>∃k,TruV K x H' k/\Q k H') _ _ _ _
  refine zHy (fun σ H4=>∃(kvs:List (List Key×V)) (ws:List (Addr×List Str)) (o4:Option V),σ=[some (.ref j),some (.int b),some (.ref d),some (.ref lf),o4]/\Kp [d,lf] Hs H4/\StD J b Hs H4 d kvs/\H4 lf=some (.lst (ws.map fun q=>V.ref q.1))/\(∀q∈ws,H4 q.1=some (.tup (q.2.map V.str))/\∃p,q.2=J.ns.filter p)/\(kyS []∈kvs.map (·.1)\/[]∈ws.map (·.2))/\(∀D,kyS D∈kvs.map (·.1)->∀s∈zAz J b D,kyS s.2∈kvs.map (·.1)\/s.2∈ws.map (·.2))/\ws.length+128*(128 - kvs.length)<=16385) (fun _ H4=>129*(129 - szT H4 d)+szAt H4 lf)
   ⟨[],[(t0,[])],none,rfl,Kp.refl,⟨hd3,(fun _ h=>nomatch h),List.nodup_nil⟩,hl3,fun q hq=>by
    rw [List.mem_singleton.mp hq]
    exact ⟨ht3,fun _=>false,by simp⟩,.inr (by simp),(fun _ h=>nomatch h),by simp⟩ ?_ (fun σ H Q Q' hq hc=>by
    obtain ⟨x,e,b,t,q⟩:=hc
    exact ⟨x,e,b,t,hq _ _ q⟩)
  rintro σ H4 ⟨kvs,ws,o4,rfl,k4,S4,hl4,hw4,st4,cl4,cap⟩
  refine ⟨_,rfl,_,.inl ⟨_,SqL.of hl4,rfl⟩,?_⟩
  refine ite2 (fun c=>?_) (fun c=>?_)
  ·obtain ⟨w0,x0,rfl⟩:∃w0 x0,ws=w0++[x0]:=by
    have:ws≠[]:=fun z=>by rw [z] at c;simp at c
    exact ⟨ws.dropLast,ws.getLast this,(List.dropLast_concat_getLast this).symm⟩
   have eW:(w0++[x0]).map (fun q=>V.ref q.1)=w0.map (fun q=>V.ref q.1)++[.ref x0.1]:=by rw [List.map_append];rfl
   rw [List.length_append,List.length_singleton] at cap
   have s1:szT H4 d=kvs.length:=by unfold szT;rw [S4.top]
   have s2:szAt H4 lf=w0.length+1:=by rw [zDu hl4,List.length_map,List.length_append];rfl
   rw [eW] at hl4
   refine ⟨_,rfl,.inl ⟨rfl,_,SqL.of hl4⟩,_,_,.ref x0.1,rfl,rfl,hl4,(by simp),?_⟩
   rw [List.dropLast_concat]
   obtain ⟨hx0,p0,ep0⟩:=hw4 x0 (by simp)
   have nxl:x0.1≠lf:=zBe hx0 hl4 (fun z=>nomatch z)
   have no4:∀m∈[d,lf],∀ys,H4 m≠some (.tup ys):=fun m hm ys=>by
    rcases List.mem_cons.mp hm with z| z
    ·rw [z,S4.top];exact fun z=>nomatch z
    ·rw [List.mem_singleton.mp z,hl4];exact fun z=>nomatch z
   have k5:Kp [d,lf] H4 (upd H4 lf (.lst (w0.map fun q=>V.ref q.1))):=Kp.put Kp.refl (by simp)
   have hl5:upd H4 lf (.lst (w0.map fun q=>V.ref q.1)) lf=some (.lst (w0.map fun q=>V.ref q.1)):=upd_same
   have hd5:upd H4 lf (.lst (w0.map fun q=>V.ref q.1)) d=some (.dT kvs):=(upd_ne ndl).trans S4.top
   generalize upd H4 lf (.lst (w0.map fun q=>V.ref q.1))=H5 at k5 hl5 hd5
   have tp5:∀x ys,H4 x=some (.tup ys)->H5 x=some (.tup ys):=fun x ys e=>k5 _ _ e fun z=>no4 x z ys e
   have hx5:=tp5 _ _ hx0
   have S5:StD J b Hs H5 d kvs:=⟨hd5,fun kv h=>by
    obtain ⟨D,l,es,e1,e2,e3,e4,e5⟩:=S4.each kv h
    exact ⟨D,l,es,e1,e2.put k5 inM no4 e4,e3,e4,e5⟩,S4.nd⟩
   have k35:=k4.trans k5
   have few4:=S4.few few
   refine ⟨_,rfl,_,rfl,_,_,rfl,DGet.t (k:=kyS x0.2) hd5 (by rw [zCk];exact hx5),_,rfl,?_⟩
   rw [val_is]
   refine ite2 (fun c2=>?_) (fun c2=>?_)
   ·have c2:kyS x0.2∉kvs.map (·.1):=by simpa using c2
    have hlen:w0.length<=16384:=by omega
    have k05:Kp [] H H5:=fun b o h _=>k35 b o (k03 b o h (by simp)) (nm2 (ne_fre hd h) (ne_fre flf h))
    have fr5:∀x,Fre H5 x->Fre Hs x:=fun x f=>k35.fre f (nm2 (ne_fre f hd5).symm (ne_fre f hl5).symm)
    refine ⟨_,rfl,_,rfl,_,rfl,j,x0.1,b,J,x0.2,rfl,A0.kp0 k05,few,hx5,fun l es H6 fl S6 es6 k6=>?_⟩
    have hd6:=k6 _ _ hd5 (by simp)
    have hx6:=k6 _ _ hx5 (by simp)
    have hl6:=k6 _ _ hl5 (by simp)
    refine ⟨_,rfl,_,rfl,_,_,rfl,DPut.t (k:=kyS x0.2) hd6 (by rw [zCk];exact hx6) (by omega),?_⟩
    have ev:valV (putK kvs (kyS x0.2) (.ref l)) (kyS x0.2)=some (.ref l):=by rw [valV_put,if_pos rfl]
    rw [zDy _ (zEj c2)] at ev ⊢
    have S6':StD J b Hs H6 d kvs:=S5.kp0 k6
    have T6:StL Hs H6 l es:=⟨S6.top,S6.tup,S6.row,S6.now,fun e he=>fr5 _ (S6.fr e he)⟩
    have k7:Kp [d,lf] H6 (upd H6 d (.dT (kvs++[(kyS x0.2,.ref l)]))):=Kp.put Kp.refl (by simp)
    have hd7:upd H6 d (.dT (kvs++[(kyS x0.2,.ref l)])) d=some (.dT (kvs++[(kyS x0.2,.ref l)])):=upd_same
    have hl7:=(upd_ne (o:=.dT (kvs++[(kyS x0.2,.ref l)])) ndl.symm).trans hl6
    generalize upd H6 d (.dT (kvs++[(kyS x0.2,.ref l)]))=H7 at k7 hd7 hl7
    have no6:∀m∈[d,lf],∀ys,H6 m≠some (.tup ys):=fun m hm ys=>by
     rcases List.mem_cons.mp hm with z| z
     ·rw [z,hd6];exact fun z=>nomatch z
     ·rw [List.mem_singleton.mp z,hl6];exact fun z=>nomatch z
    have tp7:∀x ys,H6 x=some (.tup ys)->H7 x=some (.tup ys):=fun x ys e=>k7 _ _ e fun z=>no6 x z ys e
    have fls:=fr5 l fl
    have T7:=T6.put k7 inM no6 fls
    have el:es.length=(zAz J b x0.2).length:=by rw [<-es6,List.length_map]
    have el2:es.length<=128:=by rw [el];exact zE6 few
    have nd7:((kvs++[(kyS x0.2,V.ref l)]).map (·.1)).Nodup:=by rw [<-zDy (V.ref l) (zEj c2)];exact nd_put S4.nd
    have S7:StD J b Hs H7 d (kvs++[(kyS x0.2,.ref l)]):=⟨hd7,fun kv h=>by
     rcases List.mem_append.mp h with z| z
     ·obtain ⟨D,l,es,e1,e2,e3,e4,e5⟩:=S6'.each kv z
      exact ⟨D,l,es,e1,e2.put k7 inM no6 e4,e3,e4,e5⟩
     ·rw [List.mem_singleton.mp z]
      exact ⟨_,_,es,rfl,T7,es6,fls,p0,ep0⟩,nd7⟩
    have few7:=S7.few few
    rw [List.length_append,List.length_singleton] at few7
    have g7:=DGet.t (k:=kyS x0.2) hd7 (by rw [zCk];exact tp7 _ _ hx6)
    rw [ev] at g7
    refine ⟨_,rfl,.inl ⟨rfl,_,SqL.of hl7⟩,_,rfl,_,rfl,_,_,rfl,g7,_,rfl,⟨_,SqL.of T7.top⟩,fun B hB=>zB1 (es.map fun e=>V.ref e.t) (fun i ys τ H8=>(∃o0 o1,τ=[o0,o1])/\ys=(es.take i).map (fun e=>V.ref e.na)/\H8=upd H7 B (.lst ys)) ⟨⟨_,_,rfl⟩,rfl,rfl⟩ (fun i ys τ H8 ⟨_,_,z⟩=>by subst z;exact SqL.of ((Kp.new (M:=[]) Kp.refl hB) _ _ T7.top (by simp))) ?_ ?_⟩
    ·rintro i v ys τ H8 hv ⟨⟨o0,o1,rfl⟩,rfl,rfl⟩
     obtain ⟨e,ee,rfl⟩:=se_at hv
     have hrow:=(Kp.new (l:=B) (o:=.lst ((es.take i).map fun e=>V.ref e.na)) (M:=[]) Kp.refl hB) _ _ (T7.tup e (List.mem_of_getElem? ee)) (by simp)
     have hi:i<es.length:=(List.getElem?_eq_some_iff.mp ee).1
     refine ⟨_,_,rfl,.inl (.inl hrow),rfl,_,_,rfl,_,_,rfl,rfl,?_⟩
     refine ⟨_,rfl,upd_same,by rw [List.length_map,List.length_take];omega,⟨_,_,rfl⟩,?_,zBg⟩
     rw [zAi ee,List.map_append];rfl
    ·rintro ys τ H8 ⟨_,rfl,rfl⟩
     rw [List.length_map,List.take_length]
     have k8:Kp [] H7 (upd H7 B (.lst (es.map fun e=>V.ref e.na))):=Kp.new Kp.refl hB
     have hB8:upd H7 B (.lst (es.map fun e=>V.ref e.na)) B=some (.lst (es.map fun e=>V.ref e.na)):=upd_same
     generalize upd H7 B (.lst (es.map fun e=>V.ref e.na))=H8 at k8 hB8
     have hl8:=k8 _ _ hl7 (by simp)
     have hd8:=k8 _ _ hd7 (by simp)
     refine ⟨_,_,_,_,rfl,rfl,hl8,hB8,by rw [List.length_map,List.length_map];omega,?_⟩
     have ew:w0.map (fun q=>V.ref q.1)++es.map (fun e=>V.ref e.na)=(w0++es.map fun e=>(e.na,e.d)).map fun q=>V.ref q.1:=by rw [List.map_append,List.map_map];rfl
     rw [ew]
     have no8:∀m∈[d,lf],∀ys,H8 m≠some (.tup ys):=fun m hm ys=>by
      rcases List.mem_cons.mp hm with z| z
      ·rw [z,hd8];exact fun z=>nomatch z
      ·rw [List.mem_singleton.mp z,hl8];exact fun z=>nomatch z
     have k9:Kp [d,lf] H8 (upd H8 lf (.lst ((w0++es.map fun e=>(e.na,e.d)).map fun q=>V.ref q.1))):=Kp.put Kp.refl (by simp)
     have hl9:upd H8 lf (.lst ((w0++es.map fun e=>(e.na,e.d)).map fun q=>V.ref q.1)) lf=some (.lst ((w0++es.map fun e=>(e.na,e.d)).map fun q=>V.ref q.1)):=upd_same
     have hd9:=(upd_ne (o:=.lst ((w0++es.map fun e=>(e.na,e.d)).map fun q=>V.ref q.1)) ndl).trans hd8
     generalize upd H8 lf (.lst ((w0++es.map fun e=>(e.na,e.d)).map fun q=>V.ref q.1))=H9 at k9 hl9 hd9
     have S8:=S7.kp0 k8
     have tp9:∀x ys,H7 x=some (.tup ys)->H9 x=some (.tup ys):=fun x ys e=>k9 _ _ (k8 _ _ e (by simp)) fun z=>no8 x z ys (k8 _ _ e (by simp))
     have mk:∀x:List Key,x∈kvs.map (·.1)->x∈(kvs++[(kyS x0.2,V.ref l)]).map (·.1):=fun x h=>by rw [List.map_append];exact List.mem_append_left _ h
     have mx:kyS x0.2∈(kvs++[(kyS x0.2,V.ref l)]).map (·.1):=by rw [List.map_append];exact List.mem_append_right _ (List.mem_singleton.mpr rfl)
     have mw:∀x:List Str,(kyS x∈kvs.map (·.1)\/x∈(w0++[x0]).map (·.2))->kyS x∈(kvs++[(kyS x0.2,V.ref l)]).map (·.1)\/x∈(w0++es.map fun e=>(e.na,e.d)).map (·.2):=fun x h=>by
      rcases h with z| z
      ·exact .inl (mk _ z)
      ·rw [List.map_append] at z
       rcases List.mem_append.mp z with y| y
       ·exact .inr (by rw [List.map_append];exact List.mem_append_left _ y)
       ·have y:x=x0.2:=List.mem_singleton.mp y
        rw [y];exact .inl mx
     refine ⟨⟨_,w0++es.map fun e=>(e.na,e.d),_,rfl,fun b o h z=>k9 b o (k8 b o (k7 b o (k6 b o (k35 b o h z) (by simp)) z) (by simp)) z,⟨hd9,fun kv h=>?_,nd7⟩,hl9,fun q hq=>?_,mw _ st4,fun D hD s hs=>?_,?_⟩,?_⟩
     ·obtain ⟨D,l,es,e1,e2,e3,e4,e5⟩:=S8.each kv h
      exact ⟨D,l,es,e1,e2.put k9 inM no8 e4,e3,e4,e5⟩
     ·rcases List.mem_append.mp hq with z| z
      ·obtain ⟨h1,h2⟩:=hw4 q (List.mem_append_left _ z)
       exact ⟨tp9 _ _ (tp7 _ _ (k6 _ _ (tp5 _ _ h1) (by simp))),h2⟩
      ·obtain ⟨e,he,rfl⟩:=List.mem_map.mp z
       refine ⟨tp9 _ _ (T7.now e he),?_⟩
       have:(e.r,e.d)∈zAz J b x0.2:=by rw [<-es6];exact List.mem_map.mpr ⟨e,he,rfl⟩
       obtain ⟨r,_,er⟩:=List.mem_map.mp this
       exact ⟨_,(congrArg (·.2) er).symm⟩
     ·rw [List.map_append] at hD
      rcases List.mem_append.mp hD with z| z
      ·exact mw _ (cl4 D z s hs)
      ·have:=zFc (List.mem_singleton.mp z)
       subst this
       rw [<-es6] at hs
       obtain ⟨e,he,rfl⟩:=List.mem_map.mp hs
       exact .inr (List.mem_map.mpr ⟨(e.na,e.d),List.mem_append_right _ (List.mem_map.mpr ⟨e,he,rfl⟩),rfl⟩)
     ·rw [List.length_append,List.length_append,List.length_map,List.length_singleton];omega
     ·have s3:szT H9 d=kvs.length+1:=by unfold szT;rw [hd9];exact List.length_append
      have s4:szAt H9 lf=w0.length+es.length:=by rw [zDu hl9,List.length_map,List.length_append,List.length_map]
      show 129*(129 - szT H9 d)+szAt H9 lf<129*(129 - szT H4 d)+szAt H4 lf
      rw [s1,s2,s3,s4];omega
   ·have c2:kyS x0.2∈kvs.map (·.1):=by simpa using c2
    refine ⟨⟨kvs,w0,_,rfl,k35,S5,hl5,fun q hq=>?_,?_,fun D hD s hs=>?_,by omega⟩,?_⟩
    ·obtain ⟨h1,h2⟩:=hw4 q (List.mem_append_left _ hq)
     exact ⟨tp5 _ _ h1,h2⟩
    ·rcases st4 with z| z
     ·exact .inl z
     ·rw [List.map_append] at z
      rcases List.mem_append.mp z with y| y
      ·exact .inr y
      ·have y:[]=x0.2:=List.mem_singleton.mp y
       rw [<-y] at c2;exact .inl c2
    ·rcases cl4 D hD s hs with z| z
     ·exact .inl z
     ·rw [List.map_append] at z
      rcases List.mem_append.mp z with y| y
      ·exact .inr y
      ·have y:s.2=x0.2:=List.mem_singleton.mp y
       rw [<-y] at c2;exact .inl c2
    ·have s3:szT H5 d=kvs.length:=by unfold szT;rw [hd5]
     have s4:szAt H5 lf=w0.length:=by rw [zDu hl5,List.length_map]
     show 129*(129 - szT H5 d)+szAt H5 lf<129*(129 - szT H4 d)+szAt H4 lf
     rw [s1,s2,s3,s4];omega
  ·have eW:ws=[]:=by
    cases ws with
    | nil=>rfl
    | cons _ _=>exact absurd rfl c
   subst eW
   refine ⟨_,rfl,?_⟩
   have k04:Kp [] H H4:=fun b o h _=>k4 b o (k03 b o h (by simp)) (nm2 (ne_fre hd h) (ne_fre flf h))
   refine k d kvs H4 ⟨S4.top,fun kv h=>?_,S4.nd⟩ (st4.resolve_right fun z=>nomatch z) (fun D hD s hs=>(cl4 D hD s hs).resolve_right fun z=>nomatch z) k04
   obtain ⟨D,l,es,e1,e2,e3,e4,e5⟩:=S4.each kv h
   exact ⟨D,l,es,e1,⟨e2.top,e2.tup,e2.row,e2.now,fun e he=>k03.fre (e2.fr e he) (by simp)⟩,e3,k03.fre e4 (by simp),e5⟩
end
end My
namespace RV
open PySem
end RV
namespace L2
open PySem PySem.Spec PyProof.Rows
section
variable {X:Cx}
theorem rel_key {P:Program} {w:World} {k:Key} {u:Value} (h:(zA2 P w).is k u=true):RelV (kV k) u:=by
 rcases zA5 (show keyIs k u=true from h) with ⟨i,t,rfl,rfl⟩| ⟨x,t,rfl,rfl⟩
 ·exact ⟨t,rfl⟩
 ·exact ⟨t,rfl⟩
theorem kv_at:∀{kvs:List (Key×V)} {vs:List (Key×Value)} {j:Nat} {k:Key} {v:V},KV kvs vs->kvs[j]?=some (k,v)->∃u,vs[j]?=some (k,u)/\RelV v u
 | _,_,j,_,_,.nil,h=>by simp at h
 | _,_,0,k,v,.cons (a:=a) (b:=b) r _,h=>by
  have e:a=(k,v):=by simpa using h
  subst e
  exact ⟨b.2,by simp;exact Prod.ext r.1.symm rfl,r.2⟩
 | _,_,j+1,k,v,.cons r rr,h=>by
  obtain ⟨u,h1,h2⟩:=kv_at rr (show _=some (k,v) by simpa using h)
  exact ⟨u,by simpa using h1,h2⟩
end
section
variable {X:Cx} {pins:List (Addr×Obj)} {σ:St} {H:Hp} {s:Shared} {a:Addr} {u o':HO}
theorem Inv.retell (I:Inv X pins σ H s) (e:H a=some u) (nt:∀xs,u≠.tup xs) (no:∀x,u≠.own x) (nb:∀ps,u≠.tbl ps) (nf:∀o v,X.H₀ a≠some (.frz o v)) (new:zA8 X.prog X.w (upd H a o') s.heap a o'):Inv X pins σ (upd H a o') s:=by
 have ne:∀b,H b=none->b≠a:=fun b h z=>by rw [z,e] at h;cases h
 refine ⟨I.ok,I.os,I.bare,⟨I.base.keep,I.base.slot,fun b o q n x=>?_,I.base.there,fun b xs q=>?_,fun b o v q=>?_,fun b ps q=>?_⟩,I.loc,I.cell,?_,fun x c h=>?_,fun p hp=>?_,fun b o q=>?_,I.len⟩
 ·have:=I.base.free b o q n x
  rw [upd_ne (ne b this)];exact this
 ·have:=I.base.tups b xs q
  rw [upd_ne (fun z=>by rw [z,e] at this;exact nt xs (Option.some.inj this))];exact this
 ·have:=I.base.frzs b o v q
  rw [upd_ne (fun z=>nf o v (by rw [<-z];exact q))];exact this
 ·obtain ⟨more,this⟩:=I.base.tbls b ps q
  exact ⟨more,by rw [upd_ne (fun z=>by rw [z,e] at this;exact nb _ (Option.some.inj this))];exact this⟩
 ·rw [upd_ne (ne _ I.free)];exact I.free
 ·rw [upd_ne (ne _ (I.freeC x c h))];exact I.freeC x c h
 ·obtain ⟨h1,h2,h3⟩:=I.pin p hp
  exact ⟨h1,by rw [upd_ne (ne _ h2)];exact h2,h3⟩
 ·by_cases z:b=a
  ·subst z;rw [upd_same] at q;cases q;exact new
  ·rw [upd_ne z] at q
   refine (I.hok b o q).stay (fun c v _ y=>y) (fun c y=>?_) fun c xs y=>?_
   ·rw [upd_ne (fun z=>by rw [z,e] at y;exact no _ (Option.some.inj y))];exact y
   ·rw [upd_ne (fun z=>by rw [z,e] at y;exact nt _ (Option.some.inj y))];exact y
end
def thawE (D:Ends) (a:Addr) (o:Obj) (kvs:List (Key×V)):Ends where
 nx:=fun σ H=>H a=some (.frz o (.dK kvs))/\D.nx σ (upd H a (.dK kvs))
 rt:=fun v H=>H a=some (.frz o (.dK kvs))/\D.rt v (upd H a (.dK kvs))
 bk:=fun σ H=>H a=some (.frz o (.dK kvs))/\D.bk σ (upd H a (.dK kvs))
 ct:=fun σ H=>H a=some (.frz o (.dK kvs))/\D.ct σ (upd H a (.dK kvs))
section
variable {X:Cx}
theorem Inv.thaw {pins:List (Addr×Obj)} {σ:St} {H:Hp} {s:Shared} {a:Addr} {o:Obj} {kvs:List (Key×V)} (I:Inv X pins σ H s) (e:H a=some (.frz o (.dK kvs))) (nf:∀o v,X.H₀ a≠some (.frz o v)):Inv X pins σ (upd H a (.dK kvs)) s:=by
 obtain ⟨_,z⟩:zA8 X.prog X.w H s.heap a (.frz o (.dK kvs)):=I.hok a _ e
 exact I.retell e (fun _ h=>nomatch h) (fun _ h=>nomatch h) (fun _ h=>nomatch h) nf z
theorem ps_frz {st:Stmt} {t:TS} (h:PS X st t):PS X st (fun D σ H=>∃a kvs,H a=some (.dK kvs)/\∀o,t (thawE D a o kvs) σ (upd H a (.frz o (.dK kvs)))):=by
 intro pins s σ H D I ⟨a,kvs,e,q⟩
 have ok:zA8 X.prog X.w H s.heap a (.dK kvs):=I.hok a _ e
 obtain ⟨_,_,_,_,o,_,_,ho,_⟩:=id ok
 have nf:∀o v,X.H₀ a≠some (.frz o v):=fun o v z=>by
  have:=I.base.frzs a o v z
  rw [e] at this;cases this
 have I1:Inv X pins σ (upd H a (.frz o (.dK kvs))) s:=I.retell e (fun _ h=>nomatch h) (fun _ h=>nomatch h) (fun _ h=>nomatch h) nf ⟨ho,ok⟩
 refine thn (h pins s σ _ _ I1 (q o)) fun f s' r=>?_
 cases f with
 | next=>obtain ⟨σ',H',I',e',d'⟩:=r;exact ⟨σ',_,I'.thaw e' nf,d'⟩
 | brk=>obtain ⟨σ',H',I',e',d'⟩:=r;exact ⟨σ',_,I'.thaw e' nf,d'⟩
 | cont=>obtain ⟨σ',H',I',e',d'⟩:=r;exact ⟨σ',_,I'.thaw e' nf,d'⟩
 | ret u=>obtain ⟨v,σ',H',I',rv,e',d'⟩:=r;exact ⟨v,σ',_,I'.thaw e' nf,rv,d'⟩
end
end L2
namespace RV
open PySem
theorem e_itemIter:entryFor table "dict_itemiterator.__iter__" = some Builtin.«dict_keyiterator.__iter__» :=
 entryFor_alias (id':= "dict_keyiterator.__iter__") (by kernel_rfl) (by decide +kernel) (by decide +kernel) (by kernel_rfl)
end RV
namespace L2
open PySem PySem.Spec PyProof.Rows
theorem frz_at {X:Cx} {pins:List (Addr×Obj)} {σ:St} {H:Hp} {s:Shared} {a:Addr} {o:Obj} {kvs:List (Key×V)} (I:Inv X pins σ H s) (e:H a=some (.frz o (.dK kvs))) :
  ∃vs es ep,KV kvs vs/\o.data= .dict es ep/\es.size=kvs.length/\s.heap.DictAt (zA2 X.prog X.w) a vs ep/\(a==sysModules)=false/\kvs.length<=sizeLine/\s.heap.get? a=some o/\o.ExactDict:=by
 obtain ⟨ho,z,hd,vs,rel,o1,es,ep,y1,y2,y3,y4,y5,y6⟩:zA8 X.prog X.w H s.heap a (.frz o (.dK kvs)):=I.hok a _ e
 rw [ho] at y1
 cases y1
 have l1:=y5.length
 have l2:=rel.length
 exact ⟨vs,es,ep,rel,y3,by simp only [Array.length_toList] at l1;omega,⟨o,es,ho,y2,y3,y4,y5,y6⟩,hd,z,ho,y2⟩
end L2
namespace ST
open PySem PyProof.Rows PySem.W
end ST
namespace L2
open PySem PySem.Spec PyProof.Rows
def Itk (a:Addr) (o:Obj) (kvs:List (Key×V)):It :=
 ⟨fun i H=>H a=some (.frz o (.dK kvs))/\i<kvs.length,fun i H v H'=>H'=H/\∃k x,kvs[i]?=some (k,x)/\v=kV k,fun i H=>H a=some (.frz o (.dK kvs))/\kvs.length<=i⟩
theorem turn_keys {P:Program} {w:World} {K:PySem.W.Frag} {tg:Expr} (a it:Addr) (o:Obj) (es:Array DictEntry) (ep:Nat) (kvs:List (Key×V)) (hd:o.data= .dict es ep):Turn P w K tg (Itk a o kvs) [it] it (fun i h=>h.IsKeyIter it a i kvs.length ep) where
 mem:=by simp
 obj:=fun i h ⟨o,st,c,dt⟩ b hb=>by
  have:b=it:=by simpa using hb
  subst this
  exact ⟨_,st,fun v y=>by rw [dt] at y;cases y⟩
 keep:=fun i h h' st k=>st.at fun o e=>k it (by simp) o e
 item:=by
  intro X hP hw hK hc i pins s σ H E I hf st hg
  subst hP hw hK
  obtain ⟨e,hi⟩:=hg
  obtain ⟨vs,es',ep',rel,hd',_,da,_,_,ho,_⟩:=frz_at I e
  have ee:ep'=ep:=by rw [hd] at hd';cases hd';rfl
  subst ee
  have len:=rel.length
  have ek:kvs[i]?=some (kvs[i].1,kvs[i].2):=List.getElem?_eq_getElem hi
  obtain ⟨v,ev,rv⟩:=kv_at rel ek
  rw [len] at st
  obtain ⟨f0,f1,f2,f3,f4,f5⟩:=hf it (by simp)
  refine wpAny_pyNext_dict_item st da ev fun key h' hk st' sb=>?_
  have I1:Inv X pins σ H {s with heap:=h',toks:=s.toks}:=I.turned (t':=s.toks) (fun b o hb y=>sb.extBut b o hb y) f0 f1 f3 f4 f5
  rw [<-len] at st'
  obtain ⟨o2,g1,g2,g3⟩:=id st'
  exact ⟨_,rfl,go_of (s:={s with heap:=h'}) (n:= "dict_keyiterator") g1 g2 g3 (by decide) ⟨kV kvs[i].1,H,I1,rel_key hk,⟨rfl,_,_,ek,rfl⟩,st',fun b hb=>(hf b hb).1⟩⟩
 done:=by
  intro X hP hw hK hc i pins s σ H E I hf st hg
  subst hP hw hK
  obtain ⟨e,hi⟩:=hg
  obtain ⟨vs,es',ep',rel,hd',_,da,_,_,ho,_⟩:=frz_at I e
  have ee:ep'=ep:=by rw [hd] at hd';cases hd';rfl
  subst ee
  have len:=rel.length
  rw [len] at st
  obtain ⟨f0,f1,f2,f3,f4,f5⟩:=hf it (by simp)
  exact wpAny_pyNext_dict_end (I.ok.hd hc) st da (by simp;omega) fun h' eb=>⟨rfl,I.turned (t':=s.toks) (fun b o hb y=>eb b o hb y) f0 f1 f3 f4 f5⟩
 self:=fun _ _ _ _ _ st h=>wpAny_pyIter_keyiter st h
section
variable {X:Cx}
theorem zId {tg o:Expr} {to:TE} (ho:PE X o to):PI X tg o (fun σ H R=>to σ H fun x H1=>∃a ob kvs,x= .ref a/\H1 a=some (.frz ob (.dK kvs))/\R (Itk a ob kvs) H1):=by
 intro pins s σ H R I h
 refine thn (ho pins s σ H _ I h) fun v s1 ⟨x,H1,I1,r1,a,ob,kvs,ex,e,q⟩=>?_
 subst ex
 cases r1
 obtain ⟨vs,es,ep,rel,hd,sz,da,nsys,z,hget,exd⟩:=frz_at I1 e
 have len:=rel.length
 refine wpAny_pyIter_dict nsys da ?_
 refine ⟨s1.heap.objs.size,[s1.heap.objs.size],_,_,H1,rfl,I1.kept (t':=s1.toks) fun b o e=>Heap.get?_push_of_some _ e,turn_keys a _ ob es ep kvs hd,⟨_,Heap.get?_push_size _ rfl,rfl,by rw [len];rfl⟩,fun b hb=>?_,q⟩
 have e:b=s1.heap.objs.size:=by simpa using hb
 subst e
 exact I1.fpOk (Nat.le_refl _) (I1.hok.fresh (Nat.le_refl _))
theorem for_keys {a:Addr} {o:Obj} {kvs:List (Key×V)} {g:TG} {tb:TS} {D:Ends} {σ:St} {H:Hp} (Pv:Nat->St->Hp->Prop) (h0:Pv 0 σ H) (hl:∀i σ H,i<=kvs.length->Pv i σ H->H a=some (.frz o (.dK kvs)))
  (hs:∀i k v σ H,kvs[i]?=some (k,v)->Pv i σ H->g (kV k) σ H fun σ2 H2=>tb {D with nx:=Pv (i+1),ct:=Pv (i+1),bk:=D.nx} σ2 H2) (hd:∀σ H,Pv kvs.length σ H->D.nx σ H) :
  ∃W:Nat->Nat->St->Hp->Prop,(∃m,W 0 m σ H)/\∀i m σ H,W i m σ H ->
   ((Itk a o kvs).stop i H/\D.nx σ H)\/((Itk a o kvs).go i H/\∃N:St->Hp->Prop,(∀σ' H',N σ' H'->∃m',m'<m/\W (i+1) m' σ' H')/\∀x H',(Itk a o kvs).yld i H x H'->g x σ H' fun σ2 H2=>tb {D with nx:=N,ct:=N,bk:=D.nx} σ2 H2):=by
 refine ⟨fun i m σ H=>m=kvs.length - i/\i<=kvs.length/\Pv i σ H,⟨kvs.length,by simp,Nat.zero_le _,h0⟩,?_⟩
 rintro i m σ H ⟨rfl,hi,p⟩
 by_cases hlt:i<kvs.length
 ·refine .inr ⟨⟨hl i σ H hi p,hlt⟩,Pv (i+1),fun σ' H' p'=>⟨_,?_,rfl,hlt,p'⟩,fun x H' y=>?_⟩
  ·show kvs.length - (i+1)<kvs.length - i
   omega
  ·obtain ⟨rfl,k,v,ek,rfl⟩:=y
   exact hs i k v σ H' ek p
 ·have e:i=kvs.length:=by omega
  subst e
  exact .inl ⟨⟨hl _ σ H hi p,Nat.le_refl _⟩,hd σ H p⟩
theorem zG3 {a:Addr} {o:Obj} {kvs:List (Key×V)} {ix:List (Option Nat)} {g:TG} {tt:TT} {te:TE} {QD:Hp->Prop} {σ:St} {H1:Hp} {D:Addr} (Pv:Nat->List V->St->Hp->Prop) (h0:Pv 0 [] (zCx σ ix) (upd H1 D (.lst [])))
  (hl:∀i ys τ H,Pv i ys τ H->H a=some (.frz o (.dK kvs)))
  (hs:∀i k v ys τ H,kvs[i]?=some (k,v)->Pv i ys τ H->g (kV k) τ H fun τ' H4=>tt τ' H4 fun b H5=>if b=true then te τ' H5 fun v H6=>H6 D=some (.lst ys)/\ys.length<sizeLine/\Pv (i+1) (ys++[v]) τ' (upd H6 D (.lst (ys++[v]))) else Pv (i+1) ys τ' H5)
  (hd:∀ys τ H,Pv kvs.length ys τ H->QD H) :
  ∃W:Nat->Nat->List V->St->Hp->Prop,(∃m,W 0 m [] (zCx σ ix) (upd H1 D (.lst [])))/\∀i m ys τ H2,W i m ys τ H2 ->
   ((Itk a o kvs).stop i H2/\QD H2)\/((Itk a o kvs).go i H2/\∃N:List V->St->Hp->Prop,(∀ys' τ' H',N ys' τ' H'->∃m',m'<m/\W (i+1) m' ys' τ' H')/\∀x H3,(Itk a o kvs).yld i H2 x H3->g x τ H3 fun τ' H4=>tt τ' H4 fun b H5 =>
    if b=true then te τ' H5 fun v H6=>H6 D=some (.lst ys)/\ys.length<sizeLine/\N (ys++[v]) τ' (upd H6 D (.lst (ys++[v])))
    else N ys τ' H5):=by
 refine ⟨fun i m ys τ H=>m=kvs.length - i/\i<=kvs.length/\Pv i ys τ H,⟨kvs.length,by simp,Nat.zero_le _,h0⟩,?_⟩
 rintro i m ys τ H ⟨rfl,hi,p⟩
 by_cases hlt:i<kvs.length
 ·refine .inr ⟨⟨hl i ys τ H p,hlt⟩,Pv (i+1),fun ys' τ' H' p'=>⟨_,?_,rfl,hlt,p'⟩,fun x H' y=>?_⟩
  ·show kvs.length - (i+1)<kvs.length - i
   omega
  ·obtain ⟨rfl,k,v,ek,rfl⟩:=y
   exact hs i k v ys τ H' ek p
 ·have e:i=kvs.length:=by omega
  subst e
  exact .inl ⟨⟨hl _ ys τ H p,Nat.le_refl _⟩,hd ys τ H p⟩
end
section
variable {X:Cx}
def tDisp1 (tk tv:TE):TE:=fun σ H Q=>∀p,H p=none->tPairs [(tk,tv)] σ (upd H p (.dT [])) fun ps H2=>∃(ks:List Key) (b:Addr) (y:V),ps=[(.ref b,y)]/\H2 p=some (.dT [])/\H2 b=some (.tup (ks.map kV))/\Q (.ref p) (upd H2 p (.dT [(ks,y)]))
theorem pe_disp1 {pos:Pos} {k v:Expr} {tk tv:TE} (hu:X.A.units+1<cLine) (hk:PE X k tk) (hv:PE X v tv):PE X (.Dict [some k] [v] pos) (tDisp1 tk tv):=by
 intro pins s σ H Q I q
 have hn:=I.hok.fresh (Nat.le_refl s.heap.objs.size)
 have I1:=I.laid (a:=s.heap.objs.size) (o:=.dT []) (h':=s.heap.push {cls:=.type "dict",data:=.dict #[]}) (t':=s.toks) (fun _ _ q=>Heap.get?_push_of_some _ q) (Nat.le_refl _) (dt_empty s.heap I.big)
 have pp:PPs X pos [some k] [v] [(tk,tv)]:=pps_cons hk hv pps_nil
 refine wpAny_Dict_any rfl rfl (by simp) (show (1:Nat)<=15 by decide) (thn (pp pins _ σ _ _ I1 (q _ hn)) fun ws s2 ⟨ps,H2,I2,rel,ks,b,y,ep,e,eb,q2⟩=>?_)
 subst ep
 cases rel with
 | @cons p0 q0 ps0 qs0 r t =>
  cases t
  obtain ⟨w2,u⟩:=q0
  obtain ⟨r1,r2⟩:=r
  cases (show w2=Value.ref b from r1)
  obtain ⟨z,hd,xs,rl,dd⟩:=dt_of I2.hok e
  cases rl
  unfold storeAll
  rw [List.forIn_cons]
  refine wpAny_bind (wpAny_bind (wpAny_dictSet_heap (knd:=tupleKind (zA2 X.prog X.w)) (show (tupleKind (zA2 X.prog X.w)).room X.A from Nat.lt_of_succ_lt hu) (zGx I2.hok eb) dd (fun h' dd' hs=>wpAny_pure ?_)))
  show wpAny _ _ (forIn [] PUnit.unit _) _ _ _
  rw [List.forIn_nil]
  refine wpAny_pure ⟨.ref s.heap.objs.size,_,?_,rfl,q2⟩
  obtain ⟨qo,es,ep,hq,h2,h3,h4,_,h5⟩:=dd'
  refine d_write I2 (by rw [e];exact True.intro) hs ⟨qo,hq⟩ ⟨by show (1:Nat)<=sizeLine;decide,hd,_,?_,qo,es,ep,hq,h2,h3,h4,h5⟩
  have nb:b≠s.heap.objs.size:=zBe eb e (fun z=>nomatch z)
  exact .cons ⟨rfl,(upd_ne nb).trans eb,r2⟩ .nil
end
end L2
namespace RV3
open PySem
section
variable {P:Program} {w:World} {A:Around} {E:Value->Shared->Prop} {s:Shared}
theorem key_next {it d:Addr} {i n ep:Nat} {od:Obj} {es:Array DictEntry} {en:DictEntry} {Q:Option Value->Shared->Prop} (hit:s.heap.IsKeyIter it d i n ep) (o1:s.heap.get? d=some od) (o2:od.data= .dict es ep) (hn:es.size=n) (he:es[i]?=some en)
  (q:∀h',h'.IsKeyIter it d (i+1) n ep->Heap.SameBut it s.heap h'->Q (some en.key) {s with heap:=h'}):wpAny (model P w) A (pyNext (.ref it)) Q E s:=by
 obtain ⟨o,ho,hc,hd⟩:=id hit
 have ty:=hit.typeIs
 have hlt:i<es.size:=by
  rcases Nat.lt_or_ge i es.size with h| h
  ·exact h
  ·rw [Array.getElem?_eq_none h] at he;cases he
 have en':es[i]=en:=by rw [Array.getElem?_eq_getElem hlt] at he;exact Option.some.inj he
 unfold pyNext
 refine wpAny_bind (wpAny_attempt (wpAny_callSpecial?_slot (name:=Str.ofString "__next__") ty F.slot_dict_keyiterator_next (wpAny_call_entry F.slot_dict_keyiterator_next ty F.entry_dict_keyiterator_next ?_ (F.args_dict_keyiterator_next_1 _))))
 refine wpAny_bind (wpAny_pure (wpAny_bind (wpAny_bind ?_)))
 first| refine wpAny_bind (wpAny_typeNameOfWhole_keyiter ty (wpAny_pure ?_))| refine wpAny_bind (wpAny_typeNameOf_keyiter ty (wpAny_pure ?_))
 refine wpAny_bind (wpAny_fieldsOf ho hd ?_)
 have own:Builtin.Dict_items.ownsTuple "dict_keyiterator" = false:=by decide
 simp only [own,Bool.false_eq_true,if_false]
 have ni:¬((i:Int)<0):=by omega
 show wpAny _ _ (if (Value.ref d==Value.none)=true then _ else _) _ _ _
 refine wpAny_ite_split (fun z=>absurd z Bool.false_ne_true) fun _=>wpAny_bind (wpAny_pure (wpAny_bind (wpAny_dictEntries o1 o2 ?_)))
 refine wpAny_ite_split (fun z=>absurd z (by rw [hn];simp)) fun _=>wpAny_bind (wpAny_pure (wpAny_bind (wpAny_dictEpoch o1 o2 ?_)))
 refine wpAny_ite_split (fun z=>absurd z (by simp)) fun _=>wpAny_pure ?_
 simp only [ni,if_false,Int.toNat_natCast,he]
 refine wpAny_bind ?_
 first| refine wpAny_bind (wpAny_typeNameOfWhole_keyiter ty (wpAny_pure ?_))| refine wpAny_bind (wpAny_typeNameOf_keyiter ty (wpAny_pure ?_))
 refine wpAny_bind (wpAny_isOneOf_keyiter ty ?_)
 have up:(s.heap.update it (Obj.mapFields (·.setIfInBounds 1 (rawInt ((i:Int)+1))))).IsKeyIter it d (i+1) n ep :=
  ⟨_,Heap.get?_update_self _ ho (Obj.isFreed_of_fields (Obj.data_mapFields hd _)),(Obj.cls_mapFields ..).trans hc,by rw [Obj.data_mapFields hd];simp [rawInt]⟩
 refine wpAny_bind (show wpAny _ _ (setField (.ref it) 1 (rawInt ((i:Int)+1))) _ _ s from wpAny_setField ho hd (by simp) ?_)
 refine wpAny_bind (wpAny_holding (wpAny_bind (wpAny_isOneOf_keyiter (s:={s with heap:=s.heap.update it (Obj.mapFields (·.setIfInBounds 1 (rawInt ((i:Int)+1))))}) up.typeIs ?_)))
 exact (show wpAny _ _ (pure en.key) _ _ _ from wpAny_pure (wpAny_pure ⟨_,rfl,wpAny_pure (q _ up (Heap.SameBut.update ..))⟩))
theorem stopped {Q:Option Value->Shared->Prop} {Z:PySem.Fin->Shared->Prop} (hh:A.handled=none) (q:∀h',(∀b o,s.heap.get? b=some o->h'.get? b=some o)->Q none {s with heap:=h'}) :
  wpAny (model P w) A.in1 (do let e<-newExc (.type "StopIteration") [];raiseNew e:Sem PySem.Fin) Z (fun e s'=>wpAny (model P w) A (do if (<-isInstance e (.type "StopIteration")) then pure none else throw e) Q E s') s:=by
 refine wpAny_bind ?_
 simp only [newExc,newTuple]
 refine wpAny_bind (wpAny_newObj_type ?_ (by size_fits))
 refine wpAny_bind (m:=firstArgMember _ _) (wpAny_of_eq (a:=Value.none) (by first| rfl| (simp only [firstArgMember];rfl)) ?_)
 refine wpAny_newObj_type ?_ (by size_fits)
 simp only [raiseNew]
 refine wpAny_bind (wpAny_handled ?_)
 rw [show A.in1.handled=none from hh]
 refine wpAny_bind (wpAny_pure (wpAny_throw ?_))
 refine wpAny_bind (wpAny_isInstance (T:= "StopIteration") (b:=true) ⟨_,Heap.get?_push_size _ rfl,rfl⟩ isSubtype_stop ?_)
 exact wpAny_pure (q _ fun b o y=>Heap.get?_push_of_some _ (Heap.get?_push_of_some _ y))
theorem key_end {it d:Addr} {i n ep:Nat} {od:Obj} {es:Array DictEntry} {Q:Option Value->Shared->Prop} (hh:A.handled=none) (hit:s.heap.IsKeyIter it d i n ep) (o1:s.heap.get? d=some od) (o2:od.data= .dict es ep) (hn:es.size=n) (he:n<=i)
  (q:∀h',Heap.ExtBut it s.heap h'->Q none {s with heap:=h'}):wpAny (model P w) A (pyNext (.ref it)) Q E s:=by
 obtain ⟨o,ho,hc,hd⟩:=id hit
 have ty:=hit.typeIs
 have en:es[i]?=none:=Array.getElem?_eq_none (by omega)
 have ni:¬((i:Int)<0):=by omega
 unfold pyNext
 refine wpAny_bind (wpAny_attempt (wpAny_callSpecial?_slot (name:=Str.ofString "__next__") ty F.slot_dict_keyiterator_next (wpAny_call_entry F.slot_dict_keyiterator_next ty F.entry_dict_keyiterator_next ?_ (F.args_dict_keyiterator_next_1 _))))
 refine wpAny_bind (wpAny_pure (wpAny_bind (wpAny_bind ?_)))
 first| refine wpAny_bind (wpAny_typeNameOfWhole_keyiter ty (wpAny_pure ?_))| refine wpAny_bind (wpAny_typeNameOf_keyiter ty (wpAny_pure ?_))
 refine wpAny_bind (wpAny_fieldsOf ho hd ?_)
 have own:Builtin.Dict_items.ownsTuple "dict_keyiterator" = false:=by decide
 simp only [own,Bool.false_eq_true,if_false]
 show wpAny _ _ (if (Value.ref d==Value.none)=true then _ else _) _ _ _
 refine wpAny_ite_split (fun z=>absurd z Bool.false_ne_true) fun _=>wpAny_bind (wpAny_pure (wpAny_bind (wpAny_dictEntries o1 o2 ?_)))
 refine wpAny_ite_split (fun z=>absurd z (by rw [hn];simp)) fun _=>wpAny_bind (wpAny_pure (wpAny_bind (wpAny_dictEpoch o1 o2 ?_)))
 refine wpAny_ite_split (fun z=>absurd z (by simp)) fun _=>wpAny_pure ?_
 simp only [ni,if_false,Int.toNat_natCast,en]
 refine wpAny_bind ?_
 first| refine wpAny_bind (wpAny_typeNameOfWhole_keyiter ty (wpAny_pure ?_))| refine wpAny_bind (wpAny_typeNameOf_keyiter ty (wpAny_pure ?_))
 refine wpAny_bind (show wpAny _ _ (setField (.ref it) 0 .none) _ _ s from wpAny_setField ho hd (by simp) ?_)
 exact stopped (s:={s with heap:=s.heap.update it (Obj.mapFields (·.setIfInBounds 0 .none))}) hh fun h' k=>q h' fun b o nb y=>k b o ((Heap.SameBut.update ..).extBut b o nb y)
theorem item_end {it d:Addr} {i n ep:Nat} {ok ov:Value} {od:Obj} {es:Array DictEntry} {Q:Option Value->Shared->Prop} (hh:A.handled=none) (hit:IsItemIter s.heap it d i n ep ok ov) (o1:s.heap.get? d=some od) (o2:od.data= .dict es ep) (hn:es.size=n) (he:n<=i)
  (q:∀h',Heap.ExtBut it s.heap h'->Q none {s with heap:=h'}):wpAny (model P w) A (pyNext (.ref it)) Q E s:=by
 have ty:s.TypeIs (.ref it) "dict_itemiterator" := ⟨_,hit,rfl⟩
 have en:es[i]?=none:=Array.getElem?_eq_none (by omega)
 have ni:¬((i:Int)<0):=by omega
 unfold pyNext
 refine wpAny_bind (wpAny_attempt (wpAny_callSpecial?_slot (name:=Str.ofString "__next__") ty F.slot_dict_itemiterator_next (wpAny_call_entry F.slot_dict_itemiterator_next ty F.entry_dict_itemiterator_next ?_ (F.args_dict_itemiterator_next_1 _))))
 refine wpAny_bind (wpAny_pure (wpAny_bind (wpAny_bind ?_)))
 first| refine wpAny_bind (wpAny_typeNameOfWhole_itemiter ty (wpAny_pure ?_))| refine wpAny_bind (wpAny_typeNameOf_itemiter ty (wpAny_pure ?_))
 refine wpAny_bind (wpAny_fieldsOf hit rfl ?_)
 have own:Builtin.Dict_items.ownsTuple "dict_itemiterator" = true:=by decide
 simp only [own,if_true]
 show wpAny _ _ (if (Value.ref d==Value.none)=true then _ else _) _ _ _
 refine wpAny_ite_split (fun z=>absurd z Bool.false_ne_true) fun _=>wpAny_bind (wpAny_pure (wpAny_bind (wpAny_dictEntries o1 o2 ?_)))
 refine wpAny_ite_split (fun z=>absurd z (by rw [hn];simp)) fun _=>wpAny_bind (wpAny_pure (wpAny_bind (wpAny_dictEpoch o1 o2 ?_)))
 refine wpAny_ite_split (fun z=>absurd z (by simp)) fun _=>wpAny_pure ?_
 simp only [ni,if_false,Int.toNat_natCast,en]
 refine wpAny_bind ?_
 first| refine wpAny_bind (wpAny_typeNameOfWhole_itemiter ty (wpAny_pure ?_))| refine wpAny_bind (wpAny_typeNameOf_itemiter ty (wpAny_pure ?_))
 refine wpAny_bind (show wpAny _ _ (setField (.ref it) 2 .none) _ _ s from wpAny_setField hit rfl (by simp) ?_)
 exact stopped (s:={s with heap:=s.heap.update it (Obj.mapFields (·.setIfInBounds 2 .none))}) hh fun h' k=>q h' fun b o nb y=>k b o ((Heap.SameBut.update ..).extBut b o nb y)
theorem item_next {it d:Addr} {i n ep:Nat} {ok ov:Value} {od:Obj} {es:Array DictEntry} {en:DictEntry} {Q:Option Value->Shared->Prop} (hit:IsItemIter s.heap it d i n ep ok ov) (o1:s.heap.get? d=some od) (o2:od.data= .dict es ep) (hn:es.size=n) (he:es[i]?=some en)
  (q:∀h',IsItemIterOut h' it d (i+1) n ep en.key en.val s.heap.objs.size->h'.get? s.heap.objs.size=some {cls:=.type "tuple",data:=.seq #[en.key,en.val]} ->
   (∀b o,b≠it->s.heap.get? b=some o->h'.get? b=some o)->Q (some (.ref s.heap.objs.size)) {s with heap:=h'}):wpAny (model P w) A (pyNext (.ref it)) Q E s:=by
 obtain ⟨h0,g,dr,tk,os⟩:=s
 have hit:IsItemIter h0 it d i n ep ok ov:=hit
 have ty:Shared.TypeIs ⟨h0,g,dr,tk,os⟩ (.ref it) "dict_itemiterator" := ⟨_,hit,rfl⟩
 have ni:¬((i:Int)<0):=by omega
 unfold pyNext
 refine wpAny_bind (wpAny_attempt (wpAny_callSpecial?_slot (name:=Str.ofString "__next__") ty F.slot_dict_itemiterator_next (wpAny_call_entry F.slot_dict_itemiterator_next ty F.entry_dict_itemiterator_next ?_ (F.args_dict_itemiterator_next_1 _))))
 refine wpAny_bind (wpAny_pure (wpAny_bind (wpAny_bind ?_)))
 first| refine wpAny_bind (wpAny_typeNameOfWhole_itemiter ty (wpAny_pure ?_))| refine wpAny_bind (wpAny_typeNameOf_itemiter ty (wpAny_pure ?_))
 refine wpAny_bind (wpAny_fieldsOf hit rfl ?_)
 have own:Builtin.Dict_items.ownsTuple "dict_itemiterator" = true:=by decide
 simp only [own,if_true]
 show wpAny _ _ (if (Value.ref d==Value.none)=true then _ else _) _ _ _
 refine wpAny_ite_split (fun z=>absurd z Bool.false_ne_true) fun _=>wpAny_bind (wpAny_pure (wpAny_bind (wpAny_dictEntries o1 o2 ?_)))
 refine wpAny_ite_split (fun z=>absurd z (by rw [hn];simp)) fun _=>wpAny_bind (wpAny_pure (wpAny_bind (wpAny_dictEpoch o1 o2 ?_)))
 refine wpAny_ite_split (fun z=>absurd z (by simp)) fun _=>wpAny_pure ?_
 simp only [ni,if_false,Int.toNat_natCast,he]
 refine wpAny_bind ?_
 first| refine wpAny_bind (wpAny_typeNameOfWhole_itemiter ty (wpAny_pure ?_))| refine wpAny_bind (wpAny_typeNameOf_itemiter ty (wpAny_pure ?_))
 refine wpAny_bind (wpAny_isOneOf_itemiter ty ?_)
 refine wpAny_bind (show wpAny _ _ (setField (.ref it) 3 (rawInt ((i:Int)+1))) _ _ _ from wpAny_setField_rec hit (by simp) fun h1 e1 s1=>?_)
 have s1:Heap.SameBut it h0 h1:=s1
 have e1:IsItemIter h1 it d (i+1) n ep ok ov:=by
  have e:((i+1:Nat):Int)=(i:Int)+1:=by omega
  unfold IsItemIter;rw [e];simpa [rawInt] using e1
 have ty1:Shared.TypeIs ⟨h1,g,dr,tk,os⟩ (.ref it) "dict_itemiterator" := ⟨_,e1,rfl⟩
 refine wpAny_bind (wpAny_holding (wpAny_bind (wpAny_isOneOf_itemiter ty1 (wpAny_bind (wpAny_isOneOf_itemiter ty1 ?_)))))
 show wpAny _ _ (Builtin.Dict_items.pairFromOwner (.ref it) 6 en.key en.val) _ _ _
 unfold Builtin.Dict_items.pairFromOwner
 refine wpAny_bind (wpAny_newTuple ?_)
 have e2:IsItemIter (h1.push {cls:=.type "tuple",data:=.seq #[en.key,en.val]}) it d (i+1) n ep ok ov:=Heap.get?_push_of_some _ e1
 have z1:h1.objs.size=h0.objs.size:=s1.1
 have il:it<h0.objs.size:=Heap.lt_size hit
 have t2:(h1.push {cls:=.type "tuple",data:=.seq #[en.key,en.val]}).get? h0.objs.size=some {cls:=.type "tuple",data:=.seq #[en.key,en.val]}:=by rw [<-z1];exact Heap.get?_push_size _ rfl
 have k2:∀b o,b≠it->h0.get? b=some o->(h1.push {cls:=.type "tuple",data:=.seq #[en.key,en.val]}).get? b=some o:=fun b o hb e=>Heap.get?_push_of_some _ (s1.extBut b o hb e)
 rw [z1]
 generalize h1.push {cls:=.type "tuple",data:=.seq #[en.key,en.val]}=h2 at e2 t2 k2
 refine wpAny_bind ?_
 unfold Builtin.Dict_items.ownedTupleIsFree
 refine wpAny_bind (wpAny_field e2 rfl (x:=.none) rfl (wpAny_pure ?_))
 simp only [if_true]
 refine wpAny_bind (wpAny_field e2 rfl (x:=ok) rfl (wpAny_bind (wpAny_field e2 rfl (x:=ov) rfl ?_)))
 refine wpAny_bind (wpAny_setField_rec e2 (by simp) fun h3 e3 s3=>wpAny_bind (wpAny_setField_rec e3 (by simp) fun h4 e4 s4=>wpAny_bind (wpAny_setField_rec e4 (by simp) fun h5 e5 s5=>wpAny_bind (wpAny_setField_rec e5 (by simp) fun h6 e6 s6=>?_))))
 have s3:Heap.SameBut it h2 h3:=s3
 have s4:Heap.SameBut it h3 h4:=s4
 have s5:Heap.SameBut it h4 h5:=s5
 have s6:Heap.SameBut it h5 h6:=s6
 have k6:∀b o,b≠it->h2.get? b=some o->h6.get? b=some o:=fun b o hb e=>s6.extBut b o hb (s5.extBut b o hb (s4.extBut b o hb (s3.extBut b o hb e)))
 exact wpAny_bind (wpAny_letGo (wpAny_pure (wpAny_pure ⟨_,rfl,wpAny_pure (q h6 e6 (k6 _ _ (Nat.ne_of_gt il) t2) fun b o hb e=>k6 b o hb (k2 b o hb e))⟩)))
end
section
variable {P:Program} {w:World} {A:Around} {E:Value->Shared->Prop} {s:Shared}
theorem keys_iter {d:Addr} {od:Obj} {es:Array DictEntry} {ep:Nat} {Q:Value->Shared->Prop} (hd:(d==sysModules)=false) (o1:s.heap.get? d=some od) (c1:od.cls= .type "dict") (o2:od.data= .dict es ep)
  (q:Q (.ref s.heap.objs.size) {s with heap:=s.heap.push {cls:=.type "dict_keyiterator",data:=.fields #[.ref d,.int 0 0,.int es.size 0,.int ep 0]}}):wpAny (model P w) A (pyIter (.ref d)) Q E s:=by
 have ty:s.TypeIs (.ref d) "dict" := ⟨_,o1,c1⟩
 refine wpAny_pyIter_slot ty F.slot_dict_iter (wpAny_call_entry F.slot_dict_iter ty F.entry_dict_iter ?_ (F.args_dict_iter_1 _))
 unfold Builtin.«dict.__iter__»
 refine wpAny_bind ?_
 unfold Builtin.Dict.dictSlotNone
 refine wpAny_bind (wpAny_notOrdered_dict ty (show wpAny _ _ (pure (Value.ref d)) _ _ s from wpAny_pure ?_))
 show wpAny _ _ (Builtin.Dict.showsAll d >>= _) _ _ s
 unfold Builtin.Dict.showsAll
 rw [if_neg (by rw [hd];exact Bool.false_ne_true)]
 refine wpAny_bind (wpAny_pure (wpAny_bind (wpAny_dictEntries o1 o2 (wpAny_bind (wpAny_dictEpoch o1 o2 ?_)))))
 refine wpAny_bind (wpAny_newObj_type (wpAny_pure ⟨_,rfl, "dict_keyiterator",_,⟨_,Heap.get?_push_size _ rfl,rfl⟩,F.slot_dict_keyiterator_next.lookup,?_⟩))
 simpa [rawInt] using q
theorem items_call {d:Addr} {od:Obj} {Q:Value->Shared->Prop} (hd:(d==sysModules)=false) (o1:s.heap.get? d=some od) (c1:od.cls= .type "dict")
  (q:Q (.ref s.heap.objs.size) {s with heap:=s.heap.push {cls:=.type "dict_items",data:=.fields #[.ref d]}}):wpAny (model P w) A (call (.builtin "dict.items") [.ref d]) Q E s:=by
 have ty:s.TypeIs (.ref d) "dict" := ⟨_,o1,c1⟩
 refine wpAny_call_entry F.slot_dict_items ty F.entry_dict_items ?_ (F.args_dict_items_1 _)
 unfold Builtin.«dict.items»
 refine wpAny_bind ?_
 unfold Builtin.Dict.noArgs
 refine wpAny_bind (wpAny_notOrdered_dict ty (show wpAny _ _ (pure d) _ _ s from wpAny_pure ?_))
 show wpAny _ _ (Builtin.Dict.showsAll d >>= _) _ _ s
 unfold Builtin.Dict.showsAll
 rw [if_neg (by rw [hd];exact Bool.false_ne_true)]
 exact wpAny_bind (wpAny_pure (wpAny_bind (wpAny_newObj_type (wpAny_pure ⟨_,rfl,q⟩))))
theorem items_iter {v d:Addr} {od:Obj} {es:Array DictEntry} {ep:Nat} {Q:Value->Shared->Prop} (hv:s.heap.IsItemsView v d) (o1:s.heap.get? d=some od) (o2:od.data= .dict es ep)
  (q:Q (.ref s.heap.objs.size) {s with heap:=s.heap.push {cls:=.type "dict_itemiterator",data:=.fields #[.none,.bool false,.ref d,.int 0 0,.int es.size 0,.int ep 0,.none,.none]}}):wpAny (model P w) A (pyIter (.ref v)) Q E s:=by
 obtain ⟨ov,hov,hcv,hdv⟩:=id hv
 refine wpAny_pyIter_slot hv.typeIs F.slot_dict_items_iter (wpAny_call_entry F.slot_dict_items_iter hv.typeIs F.entry_dict_items_iter ?_ (F.args_dict_items_iter_1 _))
 unfold Builtin.«dict_items.__iter__»
 refine wpAny_bind (wpAny_pure (wpAny_bind ?_))
 unfold Builtin.Dict_items.dictOf
 refine wpAny_bind (wpAny_field hov hdv (x:=.ref d) rfl (wpAny_pure (wpAny_bind ?_)))
 unfold Builtin.Dict_items.newIterator
 refine wpAny_bind (wpAny_dictEntries o1 o2 (wpAny_bind (wpAny_dictEpoch o1 o2 ?_)))
 have own:Builtin.Dict_items.ownsTuple "dict_itemiterator" = true:=by decide
 simp only [own,if_true]
 refine wpAny_newObj_type (wpAny_pure ⟨_,rfl, "dict_itemiterator",_,⟨_,Heap.get?_push_size _ rfl,rfl⟩,F.slot_dict_itemiterator_next.lookup,?_⟩)
  (by simp only [sizeOk,Builtin.Dict_items.ownedTupleFields,List.size_toArray,List.length_append,List.length_cons,List.length_nil,sizeLine_eq];omega)
 simpa [rawInt,Builtin.Dict_items.ownedTupleFields] using q
end
end RV3
namespace L2
open PySem PySem.Spec PyProof.Rows
def thawT (D:Ends) (a:Addr) (o:Obj) (kvs:List (List Key×V)):Ends where
 nx:=fun σ H=>H a=some (.frz o (.dT kvs))/\D.nx σ (upd H a (.dT kvs))
 rt:=fun v H=>H a=some (.frz o (.dT kvs))/\D.rt v (upd H a (.dT kvs))
 bk:=fun σ H=>H a=some (.frz o (.dT kvs))/\D.bk σ (upd H a (.dT kvs))
 ct:=fun σ H=>H a=some (.frz o (.dT kvs))/\D.ct σ (upd H a (.dT kvs))
def tFrzT (t:TS):TS:=fun D σ H=>∃a kvs,H a=some (.dT kvs)/\∀o,t (thawT D a o kvs) σ (upd H a (.frz o (.dT kvs)))
section
variable {X:Cx}
theorem Inv.thawT {pins:List (Addr×Obj)} {σ:St} {H:Hp} {s:Shared} {a:Addr} {o:Obj} {kvs:List (List Key×V)} (I:Inv X pins σ H s) (e:H a=some (.frz o (.dT kvs))) (nf:∀o v,X.H₀ a≠some (.frz o v)):Inv X pins σ (upd H a (.dT kvs)) s:=by
 obtain ⟨_,z⟩:zA8 X.prog X.w H s.heap a (.frz o (.dT kvs)):=I.hok a _ e
 obtain ⟨z1,z2,xs,rel,z3⟩:=z
 refine I.retell e (fun _ h=>nomatch h) (fun _ h=>nomatch h) (fun _ h=>nomatch h) nf ⟨z1,z2,xs,?_,z3⟩
 exact KT.keeps (H:=H) rel fun b ys y=>by rw [upd_ne (zBe y e (fun z=>nomatch z))];exact y
theorem ps_frzT {st:Stmt} {t:TS} (h:PS X st t):PS X st (tFrzT t):=by
 intro pins s σ H D I ⟨a,kvs,e,q⟩
 have ok:zA8 X.prog X.w H s.heap a (.dT kvs):=I.hok a _ e
 obtain ⟨y1,y2,xs,rel,o,es,ep,ho,y3⟩:=id ok
 have nf:∀o v,X.H₀ a≠some (.frz o v):=fun o v z=>by
  have:=I.base.frzs a o v z
  rw [e] at this;cases this
 have I1:Inv X pins σ (upd H a (.frz o (.dT kvs))) s:=I.retell e (fun _ h=>nomatch h) (fun _ h=>nomatch h) (fun _ h=>nomatch h) nf ⟨ho,y1,y2,xs,KT.keeps (H:=H) rel (fun b ys y=>by rw [upd_ne (zBe y e (fun z=>nomatch z))];exact y),o,es,ep,ho,y3⟩
 refine thn (h pins s σ _ _ I1 (q o)) fun f s' r=>?_
 cases f with
 | next=>obtain ⟨σ',H',I',e',d'⟩:=r;exact ⟨σ',_,I'.thawT e' nf,d'⟩
 | brk=>obtain ⟨σ',H',I',e',d'⟩:=r;exact ⟨σ',_,I'.thawT e' nf,d'⟩
 | cont=>obtain ⟨σ',H',I',e',d'⟩:=r;exact ⟨σ',_,I'.thawT e' nf,d'⟩
 | ret u=>obtain ⟨v,σ',H',I',rv,e',d'⟩:=r;exact ⟨v,σ',_,I'.thawT e' nf,rv,d'⟩
theorem zFg {pins:List (Addr×Obj)} {σ:St} {H:Hp} {s:Shared} {a:Addr} {o:Obj} {kvs:List (List Key×V)} (I:Inv X pins σ H s) (e:H a=some (.frz o (.dT kvs))) :
  ∃(es:Array DictEntry) (ep:Nat),o.data= .dict es ep/\es.size=kvs.length/\(a==sysModules)=false/\s.heap.get? a=some o/\o.cls= .type "dict" /\o.ExactDict/\∀(i:Nat) (k:List Key) (v:V),kvs[i]?=some (k,v)->∃(en:DictEntry) (b:Addr),es[i]?=some en/\en.key=Value.ref b/\H b=some (.tup (k.map kV))/\RelV v en.val:=by
 obtain ⟨ho,z,hd,xs,rel,o1,es,ep,y1,y2,y3,y4,y5⟩:zA8 X.prog X.w H s.heap a (.frz o (.dT kvs)):=I.hok a _ e
 rw [ho] at y1
 cases y1
 have l1:kvs.length=xs.length:=Paired.length rel
 have l2:es.toList.length=xs.length:=by rw [y4,List.length_map]
 refine ⟨es,ep,y3,by simp only [Array.length_toList] at l2;omega,hd,ho,y2.1,y2,fun i k v ek=>?_⟩
 have hi:i<xs.length:=by have:=(List.getElem?_eq_some_iff.mp ek).1;omega
 have key:∀{l:List (List Key×V)} {m:List (List Key×Addr×Value)},KT H l m->∀(i:Nat) (k:List Key) (v:V),l[i]?=some (k,v)->∃q,m[i]?=some q/\k=q.1/\H q.2.1=some (.tup (k.map kV))/\RelV v q.2.2:=by
  intro l m r
  induction r with
  | nil=>intro i k v h;simp at h
  | @cons p q ps qs h t ih =>
   intro i k v hk
   cases i with
   | zero =>
    have:p=(k,v):=by simpa using hk
    subst this
    exact ⟨q,rfl,h⟩
   | succ i=>exact ih i k v (by simpa using hk)
 obtain ⟨q,eq,h1,h2,h3⟩:=key rel i k v ek
 refine ⟨entryOfKey (tupleKind (zA2 X.prog X.w)) q,q.2.1,?_,rfl,h2,h3⟩
 rw [<-Array.getElem?_toList,y4,List.getElem?_map,eq];rfl
end
def ItmT (a:Addr) (o:Obj) (kvs:List (List Key×V)):It :=
 ⟨fun i H=>H a=some (.frz o (.dT kvs))/\i<kvs.length,fun i H v H'=>∃t b k x,v= .ref t/\H t=none/\kvs[i]?=some (k,x)/\H b=some (.tup (k.map kV))/\H'=upd H t (.tup [.ref b,x]),fun i H=>H a=some (.frz o (.dT kvs))/\kvs.length<=i⟩
def ItkT (a:Addr) (o:Obj) (kvs:List (List Key×V)):It :=
 ⟨fun i H=>H a=some (.frz o (.dT kvs))/\i<kvs.length,fun i H v H'=>H'=H/\∃b k x,kvs[i]?=some (k,x)/\v= .ref b/\H b=some (.tup (k.map kV)),fun i H=>H a=some (.frz o (.dT kvs))/\kvs.length<=i⟩
theorem turn_itemsT {P:Program} {w:World} {K:PySem.W.Frag} {elts:List Expr} {kk:Nat} {tp:Pos} (a it:Addr) (o:Obj) (es:Array DictEntry) (ep:Nat) (kvs:List (List Key×V)) (hd:o.data= .dict es ep):Turn P w K (.Tuple elts kk tp) (ItmT a o kvs) [it] it (fun i h=>∃ok ov,IsItemIter h it a i kvs.length ep ok ov) where
 mem:=by simp
 obj:=fun i h ⟨ok,ov,st⟩ b hb=>by
  have:b=it:=by simpa using hb
  subst this
  exact ⟨_,st,fun v y=>by cases y⟩
 keep:=fun i h h' ⟨ok,ov,st⟩ k=>⟨ok,ov,k it (by simp) _ st⟩
 item:=by
  intro X hP hw hK hc i pins s σ H E I hf st hg
  subst hP hw hK
  obtain ⟨e,hi⟩:=hg
  obtain ⟨ok,ov,st⟩:=st
  obtain ⟨es',ep',hd',sz,_,ho,_,_,en⟩:=zFg I e
  rw [hd] at hd'
  cases hd'
  have ek:kvs[i]?=some (kvs[i].1,kvs[i].2):=List.getElem?_eq_getElem hi
  obtain ⟨d,b,e1,e2,eb,rv⟩:=en i _ _ ek
  refine RV3.item_next st ho hd sz e1 fun h1 eo t1 o1=>?_
  refine ⟨_,rfl,wpAny_letOwnedTupleGo_items eo fun h2 e3 b2=>?_⟩
  have b2:Heap.SameBut it h1 h2:=b2
  have ilt:it<s.heap.objs.size:=Heap.lt_size st
  have t2:h2.get? s.heap.objs.size=some {cls:=.type "tuple",data:=.seq #[d.key,d.val]}:=b2.extBut _ _ (Nat.ne_of_gt ilt) t1
  have on:∀b u,b∉[it]->s.heap.get? b=some u->h2.get? b=some u:=fun b u nb y=>b2.extBut b u (fun z=>nb (by simp [z])) (o1 b u (fun z=>nb (by simp [z])) y)
  have hn:∀b∈[it],H b=none:=fun b hb=>(hf b hb).1
  have new:zA8 X.prog X.w (upd H s.heap.objs.size (.tup [.ref b,kvs[i].2])) h2 s.heap.objs.size (.tup [.ref b,kvs[i].2]):=⟨by show (2:Nat)<=sizeLine;decide,[d.key,d.val],.cons e2 (.cons rv .nil),⟨_,t2,rfl,_,rfl⟩⟩
  have I2:Inv X pins σ (upd H s.heap.objs.size (.tup [.ref b,kvs[i].2])) {s with heap:=h2}:=I.call' (ch:=[it]) rfl (un_laid on (Nat.le_refl _) (I.hok.fresh (Nat.le_refl _))) (hok_laid I.hok on hn (Nat.le_refl _) new) I.bare fun b hb=>by
   obtain ⟨_,f1,_,f3,f4,f5⟩:=hf b hb
   exact ⟨f3,f1,f4,f5⟩
  refine ⟨.ref s.heap.objs.size,_,I2,rfl,⟨_,_,_,_,rfl,I.hok.fresh (Nat.le_refl _),ek,eb,rfl⟩,⟨_,_,e3⟩,fun b hb=>?_⟩
  have hb':=hn b hb
  have:b=it:=by simpa using hb
  rw [upd_ne (by rw [this];exact Nat.ne_of_lt ilt)];exact hb'
 done:=by
  intro X hP hw hK hc i pins s σ H E I hf st hg
  subst hP hw hK
  obtain ⟨e,hi⟩:=hg
  obtain ⟨ok,ov,st⟩:=st
  obtain ⟨es',ep',hd',sz,_,ho,_,_,en⟩:=zFg I e
  rw [hd] at hd'
  cases hd'
  obtain ⟨f0,f1,f2,f3,f4,f5⟩:=hf it (by simp)
  exact RV3.item_end (I.ok.hd hc) st ho hd sz hi fun h' eb=>⟨rfl,I.turned (t':=s.toks) (fun b o hb y=>eb b o hb y) f0 f1 f3 f4 f5⟩
 self:=fun A i s Q E ⟨ok,ov,st⟩ h=>by
  have ty:s.TypeIs (.ref it) "dict_itemiterator" := ⟨_,st,rfl⟩
  refine wpAny_pyIter_slot ty PySem.F.slot_dict_itemiterator_iter (wpAny_call_entry PySem.F.slot_dict_itemiterator_iter ty RV.e_itemIter ?_ (PySem.F.args_dict_itemiterator_iter_1 _))
  exact wpAny_bind (wpAny_pure (wpAny_pure ⟨_,rfl, "dict_itemiterator",_,ty,PySem.F.slot_dict_itemiterator_next.lookup,h⟩))
theorem turn_keysT {P:Program} {w:World} {K:PySem.W.Frag} {tg:Expr} (a it:Addr) (o:Obj) (es:Array DictEntry) (ep:Nat) (kvs:List (List Key×V)) (hd:o.data= .dict es ep):Turn P w K tg (ItkT a o kvs) [it] it (fun i h=>h.IsKeyIter it a i kvs.length ep) where
 mem:=by simp
 obj:=fun i h ⟨o,st,c,dt⟩ b hb=>by
  have:b=it:=by simpa using hb
  subst this
  exact ⟨_,st,fun v y=>by rw [dt] at y;cases y⟩
 keep:=fun i h h' ⟨o,st,c,dt⟩ k=>⟨o,k it (by simp) _ st,c,dt⟩
 item:=by
  intro X hP hw hK hc i pins s σ H E I hf st hg
  subst hP hw hK
  obtain ⟨e,hi⟩:=hg
  obtain ⟨es',ep',hd',sz,_,ho,_,_,en⟩:=zFg I e
  rw [hd] at hd'
  cases hd'
  have ek:kvs[i]?=some (kvs[i].1,kvs[i].2):=List.getElem?_eq_getElem hi
  obtain ⟨d,b,e1,e2,eb,rv⟩:=en i _ _ ek
  obtain ⟨f0,f1,f2,f3,f4,f5⟩:=hf it (by simp)
  refine RV3.key_next st ho hd sz e1 fun h' st' sb=>?_
  have I1:Inv X pins σ H {s with heap:=h',toks:=s.toks}:=I.turned (t':=s.toks) (fun b o hb y=>sb.extBut b o hb y) f0 f1 f3 f4 f5
  obtain ⟨o2,g1,g2,g3⟩:=id st'
  exact ⟨_,rfl,go_of (s:={s with heap:=h'}) (n:= "dict_keyiterator") g1 g2 g3 (by decide) ⟨.ref b,H,I1,e2,⟨rfl,_,_,_,ek,rfl,eb⟩,st',fun b hb=>(hf b hb).1⟩⟩
 done:=by
  intro X hP hw hK hc i pins s σ H E I hf st hg
  subst hP hw hK
  obtain ⟨e,hi⟩:=hg
  obtain ⟨es',ep',hd',sz,_,ho,_,_,en⟩:=zFg I e
  rw [hd] at hd'
  cases hd'
  obtain ⟨f0,f1,f2,f3,f4,f5⟩:=hf it (by simp)
  exact RV3.key_end (I.ok.hd hc) st ho hd sz hi fun h' eb=>⟨rfl,I.turned (t':=s.toks) (fun b o hb y=>eb b o hb y) f0 f1 f3 f4 f5⟩
 self:=fun _ _ _ _ _ st h=>wpAny_pyIter_keyiter st h
section
variable {X:Cx} {elts:List Expr} {kk:Nat} {tp:Pos}
theorem pi_itemsT {o:Expr} {to:TE} {apos cpos:Pos} (ho:PE X o to) (hbase:attributeBase o "items" X.env (eval o X.env)=eval o X.env:=by rfl) (hline:(apos.endLine==cpos.line)=true:=by rfl) :
  PI X (.Tuple elts kk tp) (.Call (.Attribute o "items" apos) [] [] cpos) (fun σ H R=>to σ H fun x H1=>∃a ob kvs,x= .ref a/\H1 a=some (.frz ob (.dT kvs))/\R (ItmT a ob kvs) H1):=by
 intro pins s σ H R I h
 refine wpAny_Call_method0_late hbase hline (thn (ho pins s σ H _ I h) fun v s1 ⟨x,H1,I1,r1,a,ob,kvs,ex,e,q⟩=>?_)
 subst ex
 cases r1
 obtain ⟨es,ep,hd,sz,nsys,hget,hc,exd,_⟩:=zFg I1 e
 have ty:s1.TypeIs (.ref a) "dict" := ⟨_,hget,hc⟩
 refine ⟨"dict", "dict.items",PySem.F.plainAttrs_dict,PySem.F.slot_dict_items,PySem.F.type_dict_items,ty,(fun b y=>by cases y;exact ⟨ob,hget,exd.2.1⟩),Calls.callWith_builtin rfl (PySem.evalArgs_none ?_)⟩
 refine RV3.items_call nsys hget hc ?_
 show wpAny _ _ (pyIter _) _ _ _
 have hv:(s1.heap.push {cls:=.type "dict_items",data:=.fields #[.ref a]}).IsItemsView s1.heap.objs.size a:=⟨_,Heap.get?_push_size _ rfl,rfl,rfl⟩
 refine RV3.items_iter (s:={s1 with heap:=s1.heap.push {cls:=.type "dict_items",data:=.fields #[.ref a]}}) hv (Heap.get?_push_of_some _ hget) hd ?_
 have k1:∀b u,s1.heap.get? b=some u->((s1.heap.push {cls:=.type "dict_items",data:=.fields #[.ref a]}).push {cls:=.type "dict_itemiterator",data:=.fields #[.none,.bool false,.ref a,.int 0 0,.int es.size 0,.int ep 0,.none,.none]}).get? b=some u:=fun b u y=>Heap.get?_push_of_some _ (Heap.get?_push_of_some _ y)
 refine ⟨_,[(s1.heap.push {cls:=.type "dict_items",data:=.fields #[.ref a]}).objs.size],_,_,H1,rfl,I1.kept (t':=s1.toks) k1,turn_itemsT a _ ob es ep kvs hd,⟨_,_,by rw [<-sz];exact Heap.get?_push_size _ rfl⟩,fun b hb=>?_,q⟩
 have:b=(s1.heap.push {cls:=.type "dict_items",data:=.fields #[.ref a]}).objs.size:=by simpa using hb
 subst this
 have ge:s1.heap.objs.size<=(s1.heap.push {cls:=.type "dict_items",data:=.fields #[.ref a]}).objs.size:=by rw [Heap.size_push];exact Nat.le_succ _
 exact I1.fpOk ge (I1.hok.fresh ge)
theorem pi_keysT {tg o:Expr} {to:TE} (ho:PE X o to):PI X tg o (fun σ H R=>to σ H fun x H1=>∃a ob kvs,x= .ref a/\H1 a=some (.frz ob (.dT kvs))/\R (ItkT a ob kvs) H1):=by
 intro pins s σ H R I h
 refine thn (ho pins s σ H _ I h) fun v s1 ⟨x,H1,I1,r1,a,ob,kvs,ex,e,q⟩=>?_
 subst ex
 cases r1
 obtain ⟨es,ep,hd,sz,nsys,hget,hc,exd,_⟩:=zFg I1 e
 refine RV3.keys_iter nsys hget hc hd ?_
 refine ⟨s1.heap.objs.size,[s1.heap.objs.size],_,_,H1,rfl,I1.kept (t':=s1.toks) fun b o e=>Heap.get?_push_of_some _ e,turn_keysT a _ ob es ep kvs hd,⟨_,Heap.get?_push_size _ rfl,rfl,by rw [sz];rfl⟩,fun b hb=>?_,q⟩
 have e:b=s1.heap.objs.size:=by simpa using hb
 subst e
 exact I1.fpOk (Nat.le_refl _) (I1.hok.fresh (Nat.le_refl _))
end
theorem for_itemsT {a:Addr} {o:Obj} {kvs:List (List Key×V)} {g:TG} {tb:TS} {D:Ends} {σ:St} {H:Hp} (Pv:Nat->St->Hp->Prop) (h0:Pv 0 σ H) (hl:∀i σ H,i<=kvs.length->Pv i σ H->H a=some (.frz o (.dT kvs)))
  (hs:∀i k v σ H t b,kvs[i]?=some (k,v)->Pv i σ H->H t=none->H b=some (.tup (k.map kV))->g (.ref t) σ (upd H t (.tup [.ref b,v])) fun σ2 H2=>tb {D with nx:=Pv (i+1),ct:=Pv (i+1),bk:=D.nx} σ2 H2) (hd:∀σ H,Pv kvs.length σ H->D.nx σ H) :
  ∃W:Nat->Nat->St->Hp->Prop,(∃m,W 0 m σ H)/\∀i m σ H,W i m σ H ->
   ((ItmT a o kvs).stop i H/\D.nx σ H)\/((ItmT a o kvs).go i H/\∃N:St->Hp->Prop,(∀σ' H',N σ' H'->∃m',m'<m/\W (i+1) m' σ' H')/\∀x H',(ItmT a o kvs).yld i H x H'->g x σ H' fun σ2 H2=>tb {D with nx:=N,ct:=N,bk:=D.nx} σ2 H2):=by
 refine ⟨fun i m σ H=>m=kvs.length - i/\i<=kvs.length/\Pv i σ H,⟨kvs.length,by simp,Nat.zero_le _,h0⟩,?_⟩
 rintro i m σ H ⟨rfl,hi,p⟩
 by_cases hlt:i<kvs.length
 ·refine .inr ⟨⟨hl i σ H hi p,hlt⟩,Pv (i+1),fun σ' H' p'=>⟨_,?_,rfl,hlt,p'⟩,fun x H' y=>?_⟩
  ·show kvs.length - (i+1)<kvs.length - i
   omega
  ·obtain ⟨t,b,k,v,rfl,ft,ek,eb,rfl⟩:=y
   exact hs i k v σ H t b ek p ft eb
 ·have e:i=kvs.length:=by omega
  subst e
  exact .inl ⟨⟨hl _ σ H hi p,Nat.le_refl _⟩,hd σ H p⟩
theorem for_keysT {a:Addr} {o:Obj} {kvs:List (List Key×V)} {g:TG} {tb:TS} {D:Ends} {σ:St} {H:Hp} (Pv:Nat->St->Hp->Prop) (h0:Pv 0 σ H) (hl:∀i σ H,i<=kvs.length->Pv i σ H->H a=some (.frz o (.dT kvs)))
  (hs:∀i k v σ H b,kvs[i]?=some (k,v)->Pv i σ H->H b=some (.tup (k.map kV))->g (.ref b) σ H fun σ2 H2=>tb {D with nx:=Pv (i+1),ct:=Pv (i+1),bk:=D.nx} σ2 H2) (hd:∀σ H,Pv kvs.length σ H->D.nx σ H) :
  ∃W:Nat->Nat->St->Hp->Prop,(∃m,W 0 m σ H)/\∀i m σ H,W i m σ H ->
   ((ItkT a o kvs).stop i H/\D.nx σ H)\/((ItkT a o kvs).go i H/\∃N:St->Hp->Prop,(∀σ' H',N σ' H'->∃m',m'<m/\W (i+1) m' σ' H')/\∀x H',(ItkT a o kvs).yld i H x H'->g x σ H' fun σ2 H2=>tb {D with nx:=N,ct:=N,bk:=D.nx} σ2 H2):=by
 refine ⟨fun i m σ H=>m=kvs.length - i/\i<=kvs.length/\Pv i σ H,⟨kvs.length,by simp,Nat.zero_le _,h0⟩,?_⟩
 rintro i m σ H ⟨rfl,hi,p⟩
 by_cases hlt:i<kvs.length
 ·refine .inr ⟨⟨hl i σ H hi p,hlt⟩,Pv (i+1),fun σ' H' p'=>⟨_,?_,rfl,hlt,p'⟩,fun x H' y=>?_⟩
  ·show kvs.length - (i+1)<kvs.length - i
   omega
  ·obtain ⟨rfl,b,k,v,ek,rfl,eb⟩:=y
   exact hs i k v σ H' b ek p eb
 ·have e:i=kvs.length:=by omega
  subst e
  exact .inl ⟨⟨hl _ σ H hi p,Nat.le_refl _⟩,hd σ H p⟩
end L2
namespace My
open PySem L2
abbrev WL:=List (List Str×Int)
def addW (A:WL) (k:List Str) (v:Int):WL:=if k∈A.map (·.1) then A.map (fun e=>if e.1=k then (e.1,e.2+v) else e) else A++[(k,v)]
def getW:WL->List Str->Int
 | [],_=>0
 | e::A,k=>if e.1=k then e.2 else getW A k
theorem zIs {e:List Str×Int} {A:WL} {k:List Str} (h:e.1=k):getW (e::A) k=e.2:=if_pos h
theorem zF5 {e:List Str×Int} {A:WL} {k:List Str} (h:¬e.1=k):getW (e::A) k=getW A k:=if_neg h
def zH2 (J:JR) (b:Int) (A:WL) (e:List Str×Int):WL:=(zAz J b e.1).foldl (fun A s=>addW A s.2 e.2) A
def wayF (J:JR) (b:Int):Nat->WL
 | 0=>[([],1)]
 | t+1=>(wayF J b t).foldl (zH2 J b) []
def wV (A:WL):List (List Key×V):=A.map fun e=>(kyS e.1,V.int e.2)
theorem keys_addW (A:WL) (k:List Str) (v:Int):(addW A k v).map (·.1)=if k∈A.map (·.1) then A.map (·.1) else A.map (·.1)++[k]:=by
 unfold addW
 split
 ·rw [List.map_map]
  exact List.map_congr_left fun q _=>by
   show (if q.1=k then (q.1,q.2+v) else q).1=q.1
   split<;>rfl
 ·rw [List.map_append];rfl
theorem in_addW {A:WL} {k x:List Str} {v:Int} (h:x∈(addW A k v).map (·.1)):x∈A.map (·.1)\/x=k:=by
 rw [keys_addW] at h
 split at h
 ·exact .inl h
 ·rw [List.mem_append,List.mem_singleton] at h;exact h
theorem nd_addW {A:WL} {k:List Str} {v:Int} (h:(A.map (·.1)).Nodup):((addW A k v).map (·.1)).Nodup:=by
 rw [keys_addW]
 split
 ·exact h
 ·rename_i n
  exact List.nodup_append.mpr ⟨h,by simp,fun a ha d hd=>by rw [List.mem_singleton.mp hd];exact fun z=>n (z▸ha)⟩
theorem in_stepW {J:JR} {b:Int} {x:List Str} {v:Int}:∀(ss:List (List Str×List Str)) (A:WL),x∈(ss.foldl (fun A s=>addW A s.2 v) A).map (·.1)->x∈A.map (·.1)\/∃s∈ss,x=s.2
 | [],A,h=>.inl h
 | s::ss,A,h=>by
  rcases in_stepW (J:=J) (b:=b) ss _ h with z| ⟨q,h1,h2⟩
  ·rcases in_addW z with y| y
   ·exact .inl y
   ·exact .inr ⟨s,List.mem_cons_self,y⟩
  ·exact .inr ⟨q,List.mem_cons_of_mem _ h1,h2⟩
theorem zEt {v:Int}:∀(ss:List (List Str×List Str)) (A:WL),(A.map (·.1)).Nodup->((ss.foldl (fun A s=>addW A s.2 v) A).map (·.1)).Nodup
 | [],A,h=>h
 | s::ss,A,h=>zEt ss _ (nd_addW h)
theorem zIr {J:JR} {b:Int} {x:List Str}:∀(L A:WL),x∈(L.foldl (zH2 J b) A).map (·.1)->x∈A.map (·.1)\/∃q∈L,∃s∈zAz J b q.1,x=s.2
 | [],A,h=>.inl h
 | q::L,A,h=>by
  rcases zIr L _ h with z| ⟨p,h1,h2⟩
  ·rcases in_stepW (J:=J) (b:=b) _ _ z with y| y
   ·exact .inl y
   ·exact .inr ⟨q,List.mem_cons_self,y⟩
  ·exact .inr ⟨p,List.mem_cons_of_mem _ h1,h2⟩
theorem zF1 {J:JR} {b:Int}:∀(L A:WL),(A.map (·.1)).Nodup->((L.foldl (zH2 J b) A).map (·.1)).Nodup
 | [],A,h=>h
 | q::L,A,h=>zF1 L _ (zEt _ _ h)
theorem wayF_nd (J:JR) (b:Int):∀t,((wayF J b t).map (·.1)).Nodup
 | 0=>by show ([[]]:List (List Str)).Nodup;simp
 | t+1=>zF1 _ _ List.nodup_nil
theorem step_filt {J:JR} {b:Int} {D r D':List Str} (h:(r,D')∈zAz J b D):∃p,D'=J.ns.filter p:=by
 obtain ⟨r,_,er⟩:=List.mem_map.mp h
 exact ⟨_,(congrArg (·.2) er).symm⟩
theorem way_filt {J:JR} {b:Int}:∀{t:Nat} {D:List Str},D∈(wayF J b t).map (·.1)->∃p,D=J.ns.filter p
 | 0,D,h=>⟨fun _=>false,by rw [List.mem_singleton.mp h];simp⟩
 | t+1,D,h=>by
  rcases zIr _ _ h with z| ⟨q,h1,s,h2,rfl⟩
  ·exact nomatch z
  ·exact step_filt h2
theorem way_key {J:JR} {b:Int} {ks:List (List Key)} (h0:kyS []∈ks) (hc:∀D,kyS D∈ks->∀s∈zAz J b D,kyS s.2∈ks):∀{t:Nat} {D:List Str},D∈(wayF J b t).map (·.1)->kyS D∈ks
 | 0,D,h=>by rw [List.mem_singleton.mp h];exact h0
 | t+1,D,h=>by
  rcases zIr _ _ h with z| ⟨q,h1,s,h2,rfl⟩
  ·exact nomatch z
  ·exact hc _ (way_key h0 hc (List.mem_map.mpr ⟨q,h1,rfl⟩)) s h2
theorem way_few {J:JR} {b:Int} {t:Nat} (hn:J.ns.length<=7):(wayF J b t).length<=128:=by
 have:=keys_few (kvs:=wV (wayF J b t)) hn (by
  unfold wV
  rw [List.map_map]
  show ((wayF J b t).map fun e=>kyS e.1).Nodup
  rw [show ((wayF J b t).map fun e=>kyS e.1)=((wayF J b t).map (·.1)).map kyS by rw [List.map_map];rfl]
  exact (wayF_nd J b t).map kyS fun x y n z=>n (zFc z)) fun kv h=>by
  obtain ⟨e,he,rfl⟩:=List.mem_map.mp h
  obtain ⟨p,ep⟩:=way_filt (List.mem_map.mpr ⟨e,he,rfl⟩)
  exact ⟨p,by rw [<-ep]⟩
 unfold wV at this
 rw [List.length_map] at this;exact this
theorem val_wV (k:List Str):∀A:WL,valV (wV A) (kyS k)=if k∈A.map (·.1) then some (.int (getW A k)) else none
 | []=>rfl
 | e::A=>by
  show valV ((kyS e.1,V.int e.2)::wV A) (kyS k)=_
  by_cases z:e.1=k
  ·rw [zA9 (by show kyS e.1=kyS k;rw [z]),if_pos (by rw [<-z];exact List.mem_cons_self),zIs z]
  ·rw [zA3 (fun y=>z (zFc y)),val_wV k A]
   have:(k∈(e::A).map (·.1))↔k∈A.map (·.1):=by
    rw [List.map_cons,List.mem_cons]
    exact ⟨fun h=>h.resolve_left fun y=>z y.symm,.inr⟩
   rw [zF5 z]
   by_cases c:k∈A.map (·.1)
   ·rw [if_pos c,if_pos (this.mpr c)]
   ·rw [if_neg c,if_neg fun y=>c (this.mp y)]
theorem getW_no {k:List Str}:∀{A:WL},k∉A.map (·.1)->getW A k=0
 | [],_=>rfl
 | e::A,h=>by
  rw [List.map_cons,List.mem_cons,not_or] at h
  rw [zF5 fun z=>h.1 z.symm];exact getW_no h.2
theorem get_wV (A:WL) (k:List Str):(valV (wV A) (kyS k)).getD (.int 0)= .int (getW A k):=by
 rw [val_wV]
 split
 ·rfl
 ·rename_i h
  rw [getW_no h];rfl
theorem zIt:∀{A:WL} {e:List Str×Int},(A.map (·.1)).Nodup->e∈A->getW A e.1=e.2
 | q::A,e,nd,h=>by
  obtain ⟨n1,n2⟩:=List.nodup_cons.mp nd
  rcases List.mem_cons.mp h with z| z
  ·rw [z,zIs rfl]
  ·rw [zF5 fun y=>n1 (List.mem_map.mpr ⟨e,z,y.symm⟩)]
   exact zIt n2 z
theorem put_wV {A:WL} (nd:(A.map (·.1)).Nodup) (k:List Str) (v:Int):putK (wV A) (kyS k) (.int (getW A k+v))=wV (addW A k v):=by
 by_cases c:k∈A.map (·.1)
 ·have:((wV A).any fun kv=>decide (kv.1=kyS k))=true:=by
   obtain ⟨e,h1,h2⟩:=List.mem_map.mp c
   exact List.any_eq_true.mpr ⟨(kyS e.1,V.int e.2),List.mem_map.mpr ⟨e,h1,rfl⟩,decide_eq_true (by rw [h2])⟩
  unfold putK addW
  rw [if_pos this,if_pos c]
  unfold wV
  rw [List.map_map,List.map_map]
  refine List.map_congr_left fun e he=>?_
  show (if kyS e.1=kyS k then (kyS e.1,V.int (getW A k+v)) else (kyS e.1,V.int e.2))=(kyS (if e.1=k then (e.1,e.2+v) else e).1,V.int (if e.1=k then (e.1,e.2+v) else e).2)
  by_cases z:e.1=k
  ·rw [if_pos (by rw [z]),if_pos z,<-z,zIt nd he]
  ·rw [if_neg fun y=>z (zFc y),if_neg z]
 ·rw [zDy _ (by rw [val_wV,if_neg c]),getW_no c,Int.zero_add]
  unfold addW wV
  rw [if_neg c,List.map_append];rfl
theorem zIn {p x:Addr} {H:Hp} {u v:HO} (e:H x=some u) (h:H p=some v) (n:u≠v):x∉[p]:=nm1 (zBe e h n)
section
variable {P:Program} {w:World} {K:PySem.W.Frag} {mg:Str->Option Value} {base:Heap} {C:Addr}
def spTurns:Sp:=fun vs H Q _=>∃t:Int,vs=[.int t]/\0<=t/\t<=40/\Q .non H
abbrev zC5:Stmt:=top 24
theorem zHa:FnScope ["turns"] ["turns"] (zAe zC5):=⟨rfl,rfl,rfl,by decide +kernel,rfl,by decide +kernel,by decide +kernel⟩
theorem zHb {f:Addr} {fd:FuncData} (F:Fun K "check_turns" "check_turns" zC5 f fd) (T:Txt K mg) (C_is_whole:Cal P w K mg base "is_whole" 1 ["thing"] zF9):FnOk P w K mg base CX0 2 f fd ["turns"] spTurns:=by
 refine F.ok zHa (fun vs H Q E h=>?_) (fun cdv A outer s H vs Q E hr h=>?_)
 ·obtain ⟨t,rfl,_⟩:=h
  rfl
 ·obtain ⟨t,rfl,h0,h1,k⟩:=h
  obtain ⟨tM,hM⟩:=T.c_MOST_TURNS
  refine ⟨_,(zAd (zCb (PW.pt (pw_or (zD5 (zD4 (zAg C_is_whole hr rfl (zAa (pv 0) zAc)))) (zHn (zD5 (pt_chain op_le op_le zAf (pv 0) (zIf rfl hM (v:=.int 40) ⟨_,rfl⟩))))))
    (zAd zBp)
    zAw)),?_⟩
  refine ⟨_,rfl,t,rfl,_,rfl,iteF ?_⟩
  refine ⟨_,rfl,_,_,rfl,rfl,_,rfl,?_⟩
  rw [decide_eq_true h0]
  refine iteT ⟨_,_,rfl,rfl,_,rfl,?_⟩
  rw [decide_eq_true h1]
  exact iteF k
def spWaysOn:Sp:=fun vs H Q _=>∃(s p:Addr) (J:JR) (b:Int) (t:Nat) (F:Hp) (ks:List (List Key×V)),vs=[.ref s,.ref p]/\StD J b F H s ks/\kyS []∈ks.map (·.1)/\(∀D,kyS D∈ks.map (·.1)->∀s∈zAz J b D,kyS s.2∈ks.map (·.1))/\H p=some (.dT (wV (wayF J b t)))/\J.ns.length<=7/\s≠p /\
 ∀(p':Addr) (H':Hp),H' p'=some (.dT (wV (wayF J b (t+1))))->Fre H p'->Kp [] H H'->Q (.ref p') H'
abbrev zBw:Stmt:=top 26
theorem zAr:FnScope ["steps", "ways", "later", "done", "many", "row", "now"] ["steps", "ways"] (zAe zBw):=⟨rfl,rfl,rfl,by decide +kernel,rfl,by decide +kernel,by decide +kernel⟩
theorem zEf {f:Addr} {fd:FuncData} (F:Fun K "ways_one_turn_on" "ways_one_turn_on" zBw f fd):FnOk P w K mg base CX0 1 f fd ["steps", "ways"] spWaysOn:=by
 refine F.ok zAr (fun vs H Q E h=>?_) (fun cdv A outer s H vs Q E hr h=>?_)
 ·obtain ⟨s,p,J,b,t,F,ks,rfl,_⟩:=h
  rfl
 ·obtain ⟨sa,p,J,b,t,Fh,ks,rfl,S,st0,cl,hp,few,nsp,k⟩:=h
  have hu:=zEy hr
  refine ⟨_,(zAb (zAj (i:=2) zAr.nd rfl (by walk_at "lc") zIg)
   (zAb (ps_frzT (zAx PassesOwn.never rfl (pi_itemsT (pv 1)) (zHo rfl (zAt (zAh (i:=3) zAr.nd rfl (by walk_at "lc")) (zAt (zAh (i:=4) zAr.nd rfl (by walk_at "lc")) zC9)))
    (zAd (zAx PassesOwn.never rfl (zAm (zBa hu (pv 0) (pv 3) (fun _ _=>rfl))) (zHo rfl (zAt (zAh (i:=5) zAr.nd rfl (by walk_at "lc")) (zAt (zAh (i:=6) zAr.nd rfl (by walk_at "lc")) zC9)))
     (zAd (zB9 hu (pv 2) (pv 6) (zAp zCa (zEp hu (pv 2) (pv 6) zAf ⟨rfl,rfl,rfl,rfl⟩) (pv 4)) rfl))))))
   (zAd (zAs (pv 2))))),?_⟩
  have hs:=sizeLine_eq
  have wl:∀A:WL,(wV A).length=A.length:=fun A=>List.length_map _
  have hkl:(wayF J b t).length<=128:=way_few few
  refine fun l hl=>?_
  have fl:Fre H l:=hl
  have nlp:l≠p:=fun e=>by rw [e] at fl;exact absurd hp (by rw [show H p=none from fl];exact fun z=>nomatch z)
  have k1:Kp [] H (upd H l (.dT [])):=Kp.new Kp.refl fl
  have hl1:upd H l (.dT []) l=some (.dT []):=upd_same
  generalize upd H l (.dT [])=H1 at k1 hl1
  have hp1:=k1 _ _ hp (by simp)
  refine ⟨p,_,hp1,fun o=>?_⟩
  have kF1:Kp [p] H (upd H1 p (.frz o (.dT (wV (wayF J b t))))):=(k1.weak (by simp)).trans (Kp.put Kp.refl (by simp))
  have keep:∀{H2:Hp},Kp [p] H H2->∀x u,H x=some u->u≠.dT (wV (wayF J b t))->H2 x=some u:=fun k x u e n=>k x u e (zIn e hp n)
  refine ⟨_,rfl,p,o,_,rfl,upd_same,for_itemsT (fun i σ H2=>∃(A:WL) (o3 o4 o5 o6:Option V),σ=[some (.ref sa),some (.ref p),some (.ref l),o3,o4,o5,o6]/\Kp [p] H H2/\H2 p=some (.frz o (.dT (wV (wayF J b t))))/\H2 l=some (.dT (wV A))/\A=((wayF J b t).take i).foldl (zH2 J b) []/\A.length<=128*i)
   ⟨[],none,none,none,none,rfl,kF1,upd_same,(upd_ne nlp).trans hl1,rfl,Nat.le_refl _⟩ (fun i σ H2 _ ⟨_,_,_,_,_,_,_,h,_⟩=>h) ?_ ?_⟩
  ·rintro i kk v σ H2 tt bb hv ⟨A0,o3,o4,o5,o6,rfl,k2,hp2,hl2,eA,len2⟩ htt hbb
   unfold wV at hv
   rw [List.getElem?_map] at hv
   obtain ⟨e,ee,ekv⟩:=Option.map_eq_some_iff.mp hv
   cases ekv
   have kt:Kp [] H2 (upd H2 tt (.tup [.ref bb,.int e.2])):=Kp.new Kp.refl htt
   refine ⟨_,_,rfl,.inl (.inl upd_same),rfl,_,_,rfl,_,_,rfl,rfl,?_⟩
   have k3:Kp [p] H (upd H2 tt (.tup [.ref bb,.int e.2])):=k2.trans (kt.weak (by simp))
   have hp3:=kt _ _ hp2 (by simp)
   have hb3:=kt _ _ hbb (by simp)
   have hl3:=kt _ _ hl2 (by simp)
   generalize upd H2 tt (.tup [.ref bb,.int e.2])=H3 at k3 hp3 hb3 hl3
   have hi:i<(wayF J b t).length:=(List.getElem?_eq_some_iff.mp ee).1
   obtain ⟨v,g1,g2⟩:=zHz (way_key st0 cl (List.mem_map.mpr ⟨e,List.mem_of_getElem? ee,rfl⟩))
   obtain ⟨D',sl,es,ekv',S1,S2,S3,S4⟩:=S.each _ g2
   obtain ⟨e1,rfl⟩:=Prod.mk.inj ekv'
   have e1:=zFc e1
   subst e1
   have hs3:=k3 _ _ S.top (nm1 nsp)
   have g3:=DGet.t (k:=kyS e.1) hs3 hb3
   rw [g1] at g3
   have el2:es.length<=128:=by
    have:es.length=(zAz J b e.1).length:=by rw [<-S2,List.length_map]
    rw [this];exact zE6 few
   refine ⟨_,rfl,_,rfl,_,_,rfl,g3,_,rfl,⟨_,SqL.of (keep k3 _ _ S1.top (fun z=>nomatch z))⟩,zAy (xs:=es.map fun e=>V.ref e.t) (fun q σ H4=>∃(A:WL) (o5 o6:Option V),σ=[some (.ref sa),some (.ref p),some (.ref l),some (.ref bb),some (.int e.2),o5,o6]/\Kp [p] H H4/\H4 p=some (.frz o (.dT (wV (wayF J b t))))/\H4 l=some (.dT (wV A))/\A=((zAz J b e.1).take q).foldl (fun A s=>addW A s.2 e.2) A0/\A.length<=128*i+q)
    ⟨A0,o5,o6,rfl,k3,hp3,hl3,rfl,len2⟩ (fun q σ H4 _ ⟨_,_,_,_,k4,_⟩=>SqL.of (keep k4 _ _ S1.top (fun z=>nomatch z))) ?_ ?_⟩
   ·rintro q v σ H4 hv ⟨A1,o5,o6,rfl,k4,hp4,hl4,eA1,len4⟩
    obtain ⟨s1,es1,rfl⟩:=se_at hv
    have me:=List.mem_of_getElem? es1
    have hq:q<es.length:=(List.getElem?_eq_some_iff.mp es1).1
    have eS:(zAz J b e.1)[q]?=some (s1.r,s1.d):=by rw [<-S2,List.getElem?_map,es1];rfl
    have hd4:=keep k4 _ _ (S1.now s1 me) (fun z=>nomatch z)
    have nd1:(A1.map (·.1)).Nodup:=by rw [eA1,eA];exact zEt _ _ (zF1 _ _ List.nodup_nil)
    refine ⟨_,_,rfl,.inl (.inl (keep k4 _ _ (S1.tup s1 me) (fun z=>nomatch z))),rfl,_,_,rfl,_,_,rfl,rfl,?_⟩
    refine ⟨_,rfl,l,rfl,.inr ⟨_,.inl hl4⟩,_,rfl,_,DGet.t (k:=kyS s1.d) hl4 (by rw [zCk];exact hd4),_,rfl,?_⟩
    rw [get_wV]
    refine ⟨_,_,rfl,rfl,_,rfl,_,rfl,_,_,rfl,DPut.t (k:=kyS s1.d) hl4 (by rw [zCk];exact hd4) (by rw [wl];omega),?_⟩
    rw [put_wV nd1]
    refine ⟨addW A1 s1.d e.2,_,_,rfl,Kp.new k4 fl,(upd_ne nlp.symm).trans hp4,upd_same,?_,?_⟩
    ·rw [zAi eS,List.foldl_append,<-eA1];rfl
    ·have h1:=zCj (wV A1) (kyS s1.d) (.int (getW A1 s1.d+e.2))
     rw [put_wV nd1,wl,wl] at h1
     omega
   ·rintro σ H4 ⟨A1,o5,o6,rfl,k4,hp4,hl4,eA1,len4⟩
    rw [List.length_map] at eA1 len4
    refine ⟨A1,_,_,_,_,rfl,k4,hp4,hl4,?_,by omega⟩
    have:(zAz J b e.1).take es.length=zAz J b e.1:=List.take_of_length_le (by rw [<-S2,List.length_map];exact Nat.le_refl _)
    rw [this] at eA1
    rw [zAi ee,List.foldl_append,<-eA,eA1];rfl
  ·rintro σ H2 ⟨A0,o3,o4,o5,o6,rfl,k2,hp2,hl2,eA,len2⟩
   rw [wl,List.take_length] at eA
   subst eA
   refine ⟨hp2,?_⟩
   refine ⟨_,rfl,k l _ ((upd_ne nlp).trans hl2) fl fun b o h _=>?_⟩
   by_cases e:b=p
   ·rw [e] at h ⊢
    rw [upd_same,<-hp,h]
   ·rw [upd_ne e];exact k2 b o h (nm1 e)
end
theorem thaw_kp {H H2:Hp} {d:Addr} {kvs:List (Key×V)} (hd:H d=some (.dK kvs)) (k:Kp [d] H H2):Kp [] H (upd H2 d (.dK kvs)):=fun c o h n=>by
 by_cases e:c=d
 ·subst e
  rw [hd] at h;cases h
  exact upd_same
 ·rw [upd_ne e];exact k c o h (nm1 e)
def tFrz (t:TS):TS:=fun D σ H=>∃a kvs,H a=some (.dK kvs)/\∀o,t (thawE D a o kvs) σ (upd H a (.frz o (.dK kvs)))
theorem zIc {X:Cx} {st:Stmt} {t:TS} (h:PS X st t):PS X st (tFrz t):=ps_frz h
section
variable {P:Program} {w:World} {K:PySem.W.Frag} {mg:Str->Option Value} {base:Heap} {C:Addr}
def cntF (J:JR) (b:Int) (t:Nat):Int:=getW (wayF J b t) J.ns
def zGb (C:Addr):Sp:=fun vs H Q _=>∃(j:Addr) (b:Int) (t:Nat) (J:JR),vs=[.ref j,.int b,.int t]/\JobsAt C H j J/\1<=b/\t<=40/\J.ns.length<=7/\∀H':Hp,Kp [] H H'->Q (.int (cntF J b t)) H'
abbrev zGe:Stmt:=top 25
theorem zCz:FnScope ["jobs", "benches", "turns", "steps", "ways", "number"] ["jobs", "benches", "turns"] (zAe zGe):=⟨rfl,rfl,rfl,by decide +kernel,rfl,by decide +kernel,by decide +kernel⟩
theorem ok_counted {f:Addr} {fd:FuncData} (F:Fun K "counted" "counted" zGe f fd) (T:Txt K mg) (U:JC K mg C) (M_names:Mth P w K mg base C "names" 1 ["self"] (zH3 C)) (C_check_benches:Cal P w K mg base "check_benches" 2 ["benches"] spBench) (C_check_turns:Cal P w K mg base "check_turns" 2 ["turns"] spTurns) (C_check_few:Cal P w K mg base "check_few" 2 ["jobs"] (spFew C))
  (C_all_steps:Cal P w K mg base "all_steps" 6 ["jobs", "benches"] (spAll C)) (C_ways_one_turn_on:Cal P w K mg base "ways_one_turn_on" 1 ["steps", "ways"] spWaysOn):FnOk P w K mg base CX0 7 f fd ["jobs", "benches", "turns"] (zGb C):=by
 refine F.ok zCz (fun vs H Q E h=>?_) (fun cdv A outer s H vs Q E hr h=>?_)
 ·obtain ⟨j,b,t,J,rfl,_⟩:=h
  rfl
 ·obtain ⟨j,b,t,J,rfl,A0,hb,ht,few,k⟩:=h
  have hu:=zEy hr
  have hr1:=hr.mono (j:=1) (by decide)
  have hr2:=hr.mono (j:=2) (by decide)
  refine ⟨_,(zAb (zA4 (zAg C_check_benches hr2 rfl (zAa (pv 1) zAc)))
   (zAb (zA4 (zAg C_check_turns hr2 rfl (zAa (pv 2) zAc)))
   (zAb (zA4 (zAg C_check_few hr2 rfl (zAa (pv 0) zAc)))
   (zAb (zAj (i:=3) zCz.nd rfl (by walk_at "lc") (zAg C_all_steps hr rfl (zAa (pv 0) (zAa (pv 1) zAc))))
   (zAb (zAj (i:=4) zCz.nd rfl (by walk_at "lc") (pe_disp1 hu (zDl zAc) zAf))
   (zAb (zAx PassesOwn.never rfl (zB4 rfl T.z_range (zAa (pv 2) zAc)) (zAh (i:=5) zCz.nd rfl (by walk_at "lc"))
    (zAd (zAj (i:=4) zCz.nd rfl (by walk_at "lc") (zAg C_ways_one_turn_on hr1 rfl (zAa (pv 3) (zAa (pv 4) zAc))))))
   (zAd (zAs (zEp hu (pv 4) (zAq zBy (by rfl) T.z_tuple zE3 (zAa (zGm M_names U.cl hr1 (pv 0)) zAc)) zAf ⟨rfl,rfl,rfl,rfl⟩))))))))),?_⟩
  have hs:=sizeLine_eq
  refine ⟨_,rfl,b,rfl,hb,?_⟩
  refine ⟨_,rfl,(t:Int),rfl,by omega,by omega,?_⟩
  refine ⟨_,rfl,j,J,rfl,A0,few,fun H1 k1=>?_⟩
  refine ⟨_,rfl,_,rfl,j,b,J,rfl,A0.kp0 k1,few,fun d ks H2 S2 st0 cl k2=>?_⟩
  have k02:=k1.trans k2
  refine fun p hp=>?_
  have fp:Fre H2 p:=hp
  have kp:Kp [] H2 (upd H2 p (.dT [])):=Kp.new Kp.refl hp
  have hp3:upd H2 p (.dT []) p=some (.dT []):=upd_same
  have ndp:d≠p:=zAk S2.top hp
  generalize upd H2 p (.dT [])=H3 at kp hp3
  refine ⟨(by walk_at "ln"),fun t0 ht0=>?_⟩
  have kt:Kp [] H3 (upd H3 t0 (.tup [])):=Kp.new Kp.refl ht0
  have ht4:upd H3 t0 (.tup []) t0=some (.tup []):=upd_same
  have hp4:=kt _ _ hp3 (by simp)
  generalize upd H3 t0 (.tup [])=H4 at kt ht4 hp4
  refine ⟨[],t0,.int 1,rfl,hp4,ht4,?_⟩
  have k26:Kp [] H2 (upd H4 p (.dT [([],.int 1)])):=Kp.new (kp.trans kt) hp
  have hp6:upd H4 p (.dT [([],.int 1)]) p=some (.dT (wV (wayF J b 0))):=upd_same
  generalize upd H4 p (.dT [([],.int 1)])=H6 at k26 hp6
  refine ⟨_,rfl,_,rfl,by omega,by omega,zBo (lo:=0) (n:=t) (fun i σ H7=>∃(p:Addr) (o5:Option V),σ=[some (.ref j),some (.int b),some (.int t),some (.ref d),some (.ref p),o5]/\Kp [] H2 H7/\H7 p=some (.dT (wV (wayF J b i)))/\d≠p) ⟨p,none,rfl,k26,hp6,ndp⟩ ?_ ?_⟩
  ·rintro i σ H7 hi ⟨p,o5,rfl,k7,hp7,ndp⟩
   refine ⟨_,rfl,_,rfl,d,p,J,b,i,H1,ks,rfl,S2.kp0 k7,st0,cl,hp7,few,ndp,fun p' H' hp' fp' k'=>?_⟩
   exact ⟨p',_,rfl,k7.trans k',hp',zAk (k7 _ _ S2.top (by simp)) fp'⟩
  ·rintro σ H7 ⟨p,o5,rfl,k7,hp7,ndp⟩
   have k07:=k02.trans k7
   have A7:=A0.kp0 k07
   refine ⟨_,rfl,p,rfl,.inr ⟨_,.inl hp7⟩,_,rfl,j,J.dx,_,rfl,A7.ob,jf_no _ _ _ (by decide +kernel) (by decide +kernel) (by decide +kernel),j,J,rfl,A7,fun nl H8 fn h8 k8=>?_⟩
   refine ⟨nl,_,rfl,.inl ⟨SqL.of h8,fun tp htp=>?_⟩⟩
   have k9:Kp [] H8 (upd H8 tp (.tup (J.ns.map V.str))):=Kp.new Kp.refl htp
   have h9:upd H8 tp (.tup (J.ns.map V.str)) tp=some (.tup (J.ns.map V.str)):=upd_same
   generalize upd H8 tp (.tup (J.ns.map V.str))=H9 at k9 h9
   have k79:=k8.trans k9
   refine ⟨_,DGet.t (k:=kyS J.ns) (k79 _ _ hp7 (by simp)) (by rw [zCk];exact h9),?_⟩
   rw [get_wV]
   exact k H9 (k07.trans k79)
end
theorem DGet.z {H:Hp} {a:Addr} {kvs:List (Key×V)} {k:Key} {o:Obj} (e:H a=some (.frz o (.dK kvs))):DGet H a (kV k) (valV kvs k):=.inl ⟨kvs,k,.inr ⟨o,e⟩,rfl,rfl⟩
theorem zG1 {K:PySem.W.Frag} {H:Hp} {c e:Addr} {xs:List V} {Q:VK} (h1:SqL K H c xs) (h2:SqL K H e []) (h:Q (.bl (decide (xs=[]))) H):zGl K 8 true (.ref c) (.ref e) H Q\/zGk K false (.ref c) (.ref e) H Q:=by
 by_cases z:xs=[]
 ·subst z
  exact .inl ⟨c,e,_,_,rfl,rfl,h1,h2,rfl,(fun i x y h=>by simp at h),h⟩
 ·rw [decide_eq_false z] at h
  exact .inr ⟨c,e,_,_,rfl,rfl,h1,h2,fun y=>z (List.length_eq_zero_iff.mp y),h⟩
theorem NR.kp0 {H H':Hp} {d:Addr} {ns:List Str} {na:Str->Addr} {f:Str->List Str} (D:NR H d ns na f) (k:Kp [] H H'):NR H' d ns na f:=D.kp k (by simp) (by simp)
section
variable {P:Program} {w:World} {K:PySem.W.Frag} {mg:Str->Option Value} {base:Heap}
abbrev zH8:Stmt:=top 49
theorem zFx:FnScope ["_law_free_here", "_law_benches_here", "_law_rows_here", "_law_name"] ["_law_free_here", "_law_benches_here"] (zAe zH8):=⟨rfl,rfl,rfl,by decide +kernel,rfl,by decide +kernel,by decide +kernel⟩
theorem ok_lrows {f:Addr} {fd:FuncData} (F:Fun K "_law_rows" "_law_rows" zH8 f fd) (T:Txt K mg):FnOk P w K mg base CX0 1 f fd ["_law_free_here", "_law_benches_here"] spRows:=by
 refine F.ok zFx (fun vs H Q E h=>?_) (fun cdv A outer s H vs Q E hr h=>?_)
 ·obtain ⟨l,b,ns,rfl,_⟩:=h
  rfl
 ·obtain ⟨l,b,ns,rfl,hl,hn,k⟩:=h
  refine ⟨_,(zAb (zAj (i:=2) zFx.nd rfl (by walk_at "lc") (zA0 (zAa (zA0 zAc) zAc)))
   (zAb (zAx PassesOwn.never rfl (zAm (pv 0)) (zAh (i:=3) zFx.nd rfl (by walk_at "lc"))
    (zAd (zAj (i:=2) zFx.nd rfl (by walk_at "lc") (zAp op_cat (pv 2) (zBh rfl (zBj (sc:=zAe zH8) rfl (by decide +kernel)) (Draws.own (x:= "_law_row") (Draws.tk (i:=3) rfl (by walk_at "vs") (by walk_at "vk") (by walk_at "vf") (Draws.tk (i:=1) rfl (by walk_at "vs") (by walk_at "vk") (by walk_at "vf") Draws.nil))) (zAm (pv 2)) (fun C s₀ H₀ ex=>(zAh (i:=0) (show List.Nodup (["_law_row", "_law_name", "_law_benches_here"]:List Str) by decide +kernel) rfl (by walk_at "lc"))) (fun C s₀ H₀ ex=>(zBr (zAn op_lt (zAl (zE2 (K:=K)) (by rfl) T.z_len zCt (zAa (pv 0) zAc)) (pv 2) (zAv _)))) (fun C s₀ H₀ ex=>(zAp op_cat (pv 0) (zA0 (zAa (pv 1) zAc)))))))))
   (zAd (zAs (pv 2))))),?_⟩
  have hs:=sizeLine_eq
  refine ⟨(by walk_at "ln"),fun e he=>?_⟩
  have k1:Kp [] H (upd H e (.lst [])):=Kp.new Kp.refl he
  have e1:upd H e (.lst []) e=some (.lst []):=upd_same
  generalize upd H e (.lst [])=H1 at k1 e1
  refine ⟨(by walk_at "ln"),fun a ha=>?_⟩
  have k2:Kp [] H1 (upd H1 a (.lst [.ref e])):=Kp.new Kp.refl ha
  have R0:Rws H (upd H1 a (.lst [.ref e])) a [(e,[])]:=⟨upd_same,fun p hp=>by rw [List.mem_singleton.mp hp];exact k2 _ _ e1 (by simp),fun p hp=>by rw [List.mem_singleton.mp hp];exact he⟩
  generalize upd H1 a (.lst [.ref e])=H2 at k2 R0
  have k02:=k1.trans k2
  refine ⟨_,rfl,_,rfl,⟨_,SqL.of (k02 l _ hl (by simp))⟩,zAy (xs:=ns.map V.str) (fun i σ H3=>∃(a:Addr) (ps:List (Addr×List Str)),(∃o3,σ=[some (.ref l),some (.int b),some (.ref a),o3])/\Rws H H3 a ps/\ps.map (·.2)=zGj b (ns.take i)/\Kp [] H H3) ⟨a,[(e,[])],⟨_,rfl⟩,R0,rfl,k02⟩ (fun i σ H3 _ ⟨_,_,_,_,_,k3⟩=>SqL.of (k3 l _ hl (by simp))) ?_ ?_⟩
  ·rintro i v σ H3 hv ⟨a,ps,⟨o3,rfl⟩,R3,ep,k3⟩
   obtain ⟨n,en,rfl⟩:=zBm hv
   have hi:i<ns.length:=(List.getElem?_eq_some_iff.mp en).1
   have hpl:ps.length<=128:=by
    have h1:ps.length=(zGj b (ns.take i)).length:=by rw [<-ep,List.length_map]
    have h2:=zDi b (ns.take i) [[]]
    have h3:2^(ns.take i).length<=2^7:=Nat.pow_le_pow_right (by decide) (by rw [List.length_take];omega)
    rw [h1]
    exact Nat.le_trans h2 (by rw [List.length_singleton,Nat.one_mul];exact h3)
   refine ⟨_,rfl,_,rfl,_,rfl,⟨_,SqL.of R3.top⟩,fun B hB=>zBb (ps.map fun p=>V.ref p.1) (fun j ys τ H4=>∃qs:List (Addr×List Str),(∃o0,τ=[o0,some (.str n),some (.int b)])/\ys=qs.map (fun p=>V.ref p.1)/\H4 B=some (.lst ys)/\qs.map (·.2)=(((ps.take j).map (·.2)).filter fun r=>decide ((r.length:Int)<b)).map (fun r=>r++[n])/\(∀q∈qs,H4 q.1=some (.lst (q.2.map V.str))/\q.1≠B/\Fre H3 q.1)/\Kp [] H3 H4) ⟨[],⟨_,rfl⟩,rfl,upd_same,rfl,(fun q h=>nomatch h),Kp.new Kp.refl hB⟩ (fun j ys τ H4 ⟨_,_,_,_,_,_,k4⟩=>SqL.of (k4 _ _ R3.top (by simp))) ?_ ?_⟩
   ·rintro j v ys τ H4 hv ⟨qs,⟨o0,rfl⟩,rfl,hB4,eq,hq,k4⟩
    obtain ⟨p,epj,rfl⟩:=rw_at hv
    have mp:=List.mem_of_getElem? epj
    have hrow:=k4 _ _ (R3.row p mp) (by simp)
    have hql:qs.length<=j:=by
     have:=congrArg List.length eq
     simp only [List.length_map] at this
     rw [this]
     refine Nat.le_trans (List.length_filter_le _ _) ?_
     rw [List.length_map,List.length_take];omega
    have hj:j<ps.length:=(List.getElem?_eq_some_iff.mp epj).1
    have hp2:p.2.length<=7:=by
     have h1:p.2∈zGj b (ns.take i):=by rw [<-ep];exact List.mem_map.mpr ⟨p,mp,rfl⟩
     have h2:=zE9 b (ns.take i) [[]] 0 (fun r hr=>by rw [List.mem_singleton.mp hr];exact Nat.le_refl _) p.2 h1
     rw [List.length_take] at h2;omega
    refine ⟨_,rfl,_,_,rfl,.inl (SqL.of hrow),_,rfl,_,_,rfl,rfl,_,rfl,?_⟩
    refine ite2 (fun c=>?_) (fun c=>?_)
    ·rw [List.length_map] at c
     refine ⟨_,rfl,_,rfl,(by walk_at "ln"),fun z hz=>?_⟩
     have kz:Kp [] H4 (upd H4 z (.lst [.str n])):=Kp.new Kp.refl hz
     have hz4:upd H4 z (.lst [.str n]) z=some (.lst [.str n]):=upd_same
     have nBz:B≠z:=zAk hB4 hz
     generalize upd H4 z (.lst [.str n])=H5 at kz hz4
     refine ⟨_,_,_,_,rfl,rfl,kz _ _ hrow (by simp),hz4,by rw [List.length_map];show _+1<=_;omega,fun r hr'=>?_⟩
     have hB5:=kz _ _ hB4 (by simp)
     have nBr:B≠r:=zAk hB5 hr'
     refine ⟨(upd_ne nBr).trans hB5,by rw [List.length_map];omega,qs++[(r,p.2++[n])],⟨_,rfl⟩,by rw [List.map_append];rfl,upd_same,?_,fun q hq'=>?_,?_⟩
     ·rw [List.map_append,eq,zAi epj,List.map_append,List.filter_append,List.map_append]
      show _++[p.2++[n]]=_++(List.filter _ [p.2]).map _
      rw [List.filter_cons,if_pos c];rfl
     ·rcases List.mem_append.mp hq' with z'| z'
      ·obtain ⟨h1,h2,h3⟩:=hq q z'
       have h5:=kz _ _ h1 (by simp)
       exact ⟨by rw [upd_ne h2,upd_ne (zAk h5 hr')];exact h5,h2,h3⟩
      ·rw [List.mem_singleton.mp z']
       refine ⟨by rw [upd_ne nBr.symm,upd_same,List.map_append];rfl,nBr.symm,(k4.trans kz).fre hr' (by simp)⟩
     ·exact Kp.new (Kp.new (k4.trans kz) ((k4.trans kz).fre hr' (by simp))) hB
    ·rw [List.length_map] at c
     refine ⟨qs,⟨_,rfl⟩,rfl,hB4,?_,hq,k4⟩
     rw [eq,zAi epj,List.map_append,List.filter_append]
     show _=(_++List.filter _ [p.2]).map _
     rw [List.filter_cons,if_neg c];simp
   ·rintro ys τ H4 ⟨qs,_,rfl,hB4,eq,hq,k4⟩
    rw [List.length_map,List.take_length] at eq
    have hql:qs.length<=128:=by
     have:=congrArg List.length eq
     simp only [List.length_map] at this
     rw [this]
     exact Nat.le_trans (List.length_filter_le _ _) (by rw [List.length_map];exact hpl)
    refine ⟨_,_,_,_,rfl,rfl,k4 _ _ R3.top (by simp),hB4,by rw [List.length_map,List.length_map];omega,fun r hr'=>?_⟩
    have kr:Kp [] H4 (upd H4 r (.lst (ps.map (fun p=>V.ref p.1)++qs.map fun p=>V.ref p.1))):=Kp.new Kp.refl hr'
    refine ⟨r,ps++qs,⟨_,rfl⟩,⟨by rw [upd_same,List.map_append],fun p hp=>?_,fun p hp=>?_⟩,?_,k3.trans (k4.trans kr)⟩
    ·rcases List.mem_append.mp hp with z| z
     ·exact (k4.trans kr) _ _ (R3.row p z) (by simp)
     ·exact kr _ _ (hq p z).1 (by simp)
    ·rcases List.mem_append.mp hp with z| z
     ·exact R3.fr p z
     ·exact k3.fre (hq p z).2.2 (by simp)
    ·rw [List.map_append,eq,ep,zAi en]
     unfold zGj
     rw [List.foldl_append];rfl
  ·rintro σ H3 ⟨a,ps,⟨o3,rfl⟩,R3,ep,k3⟩
   rw [List.length_map,List.take_length] at ep
   exact ⟨_,rfl,k a ps H3 R3 ep k3⟩
def spBefore:Sp:=fun vs H Q _=>∃(l d:Addr) (ns:List Str) (la:Str->Addr) (L:Str->List Str),vs=[.ref l,.ref d]/\Txs H l ns/\DR H d ns la L/\ns.Nodup/\ns.length<=20 /\
 ∀d' na H',NR H' d' ns na (ahL ns L)->Kp [] H H'->Q (.ref d') H'
abbrev zFz:Stmt:=top 50
theorem zGd:FnScope ["_law_names_here", "_law_behind_here", "_law_found", "_law_name"] ["_law_names_here", "_law_behind_here"] (zAe zFz):=⟨rfl,rfl,rfl,by decide +kernel,rfl,by decide +kernel,by decide +kernel⟩
theorem ok_before {f:Addr} {fd:FuncData} (F:Fun K "_law_before" "_law_before" zFz f fd):FnOk P w K mg base CX0 1 f fd ["_law_names_here", "_law_behind_here"] spBefore:=by
 refine F.ok zGd (fun vs H Q E h=>?_) (fun cdv A outer s H vs Q E hr h=>?_)
 ·obtain ⟨l,d,ns,la,L,rfl,_⟩:=h
  rfl
 ·obtain ⟨l,d,ns,la,L,rfl,hl,D0,nd,len,k⟩:=h
  have hu:=zEy hr
  refine ⟨_,(zAb (zAj (i:=2) zGd.nd rfl (by walk_at "lc") zCd)
   (zAb (zAx PassesOwn.never rfl (zAm (pv 0)) (zAh (i:=3) zGd.nd rfl (by walk_at "lc"))
    (zAd (zB9 hu (pv 2) (pv 3) (zBh rfl (zBj (sc:=zAe zFz) rfl (by decide +kernel)) (Draws.own (x:= "_law_other") (Draws.tk (i:=3) rfl (by walk_at "vs") (by walk_at "vk") (by walk_at "vf") (Draws.tk (i:=1) rfl (by walk_at "vs") (by walk_at "vk") (by walk_at "vf") Draws.nil))) (zAm (pv 0)) (fun C s₀ H₀ ex=>(zAh (i:=0) (show List.Nodup (["_law_other", "_law_name", "_law_behind_here"]:List Str) by decide +kernel) rfl (by walk_at "lc"))) (fun C s₀ H₀ ex=>(zBr (zFo (zHp hu (pv 1) (zBa hu (pv 2) (pv 0) (fun _ _=>rfl)))))) (fun C s₀ H₀ ex=>(pv 0))) rfl)))
   (zAd (zAs (pv 2))))),?_⟩
  refine fun d0 hd0=>?_
  have fd0:Fre H d0:=hd0
  refine ⟨_,rfl,_,rfl,⟨_,SqL.of ((Kp.new (M:=[]) Kp.refl fd0) l _ hl (by simp))⟩,zAy (fun i σ H2=>(∃o3:Option V,σ=[some (.ref l),some (.ref d),some (.ref d0),o3])/\Kp [] H H2/\∃na,NR H2 d0 (ns.take i) na (ahL ns L))
   ⟨⟨_,rfl⟩,Kp.new Kp.refl fd0,fun _=>0,upd_same,(fun n h=>nomatch h)⟩ (fun i σ H2 _ ⟨_,k2,_⟩=>SqL.of (k2 l _ hl (by simp))) ?_ ?_⟩
  ·rintro i v σ H2 hv ⟨⟨o3,rfl⟩,k2,na,N⟩
   obtain ⟨n,en,rfl⟩:=zBm hv
   have ni:=zDb nd en
   have hl2:=k2 l _ hl (by simp)
   refine ⟨_,rfl,_,rfl,⟨_,SqL.of hl2⟩,fun B hB=>zBb (ns.map V.str) (fun j ys τ H3=>(∃o0,τ=[o0,some (.str n),some (.ref d)])/\ys=((ns.take j).filter fun o=>decide (n∈L o)).map V.str/\H3=upd H2 B (.lst ys))
    ⟨⟨_,rfl⟩,rfl,rfl⟩ (fun j ys τ H3 ⟨_,_,z⟩=>by subst z;exact SqL.of ((Kp.new (M:=[]) Kp.refl hB) _ _ hl2 (by simp))) ?_ ?_⟩
   ·rintro j v ys τ H3 hv ⟨⟨o0,rfl⟩,rfl,rfl⟩
    obtain ⟨x,ex,rfl⟩:=zBm hv
    have kB:Kp [] H2 (upd H2 B (.lst (((ns.take j).filter fun o=>decide (n∈L o)).map V.str))):=Kp.new Kp.refl hB
    have D3:=D0.kp0 (k2.trans kB)
    have hx:=List.mem_of_getElem? ex
    refine ⟨_,rfl,_,rfl,_,rfl,d,_,rfl,D3.get hx,_,_,rfl,DGet.k (k:=Sum.inr n) (D3.row x hx),_,rfl,?_⟩
    rw [zFf]
    refine ite2 (fun c=>?_) (fun c=>?_)
    ·refine ⟨_,rfl,upd_same,by rw [List.length_map];exact zBk (by omega),⟨_,rfl⟩,?_,zBg⟩
     rw [zBf (p:=fun o=>decide (n∈L o)) ex c,List.map_append];rfl
    ·refine ⟨⟨_,rfl⟩,?_,rfl⟩
     rw [zBn (p:=fun o=>decide (n∈L o)) ex c]
   ·rintro ys τ H3 ⟨_,rfl,rfl⟩
    rw [List.length_map,List.take_length]
    show∃_,_
    have fB:Fre H2 B:=hB
    have nB:d0≠B:=ne_fre fB N.top
    have k3:Kp [] H2 (upd H2 B (.lst ((ahL ns L n).map V.str))):=Kp.new Kp.refl fB
    have hd3:=k3 d0 _ N.top (by simp)
    refine ⟨_,rfl,_,rfl,_,_,rfl,DPut.k (k:=Sum.inr n) hd3 ?_,?_⟩
    ·rw [zDq,List.length_take,sizeLine_eq];omega
    rw [zDj _ ni,zIv ni,<-zAi en]
    refine ⟨⟨_,rfl⟩,Kp.new (k2.trans k3) fd0,fun x=>if x=n then B else na x,upd_same,fun x hx=>?_⟩
    show Txs _ (if x=n then B else na x) (ahL ns L x)
    by_cases z:x=n
    ·rw [if_pos z,z];exact (upd_ne nB.symm).trans upd_same
    ·rw [if_neg z]
     rw [zAi en] at hx
     rcases List.mem_append.mp hx with y| y
     ·have h1:=k3 _ _ (N.row x y) (by simp)
      exact (upd_ne (zBe h1 hd3 (fun z=>nomatch z))).trans h1
     ·exact absurd (List.mem_singleton.mp y) z
  ·rintro σ H1 ⟨⟨o3,rfl⟩,k1,na,N⟩
   rw [List.length_map,List.take_length] at N
   exact ⟨_,rfl,k d0 na H1 N k1⟩
def spFree:Sp:=fun vs H Q _=>∃(d t:Addr) (J:JR) (D:List Str) (na:Str->Addr),vs=[.ref d,.ref t]/\NR H d J.ns na (fun n=>J.ns.filter fun m=>decide (m∈J.S n))/\H t=some (.tup (D.map V.str))/\J.ns.length<=20 /\
 ∀l H',Txs H' l (zEh J D)->Kp [] H H'->Q (.ref l) H'
abbrev s_free:Stmt:=top 51
theorem sc_free:FnScope ["_law_before_here", "_law_done", "_law_free_here", "_law_name"] ["_law_before_here", "_law_done"] (zAe s_free):=⟨rfl,rfl,rfl,by decide +kernel,rfl,by decide +kernel,by decide +kernel⟩
theorem ok_free {f:Addr} {fd:FuncData} (F:Fun K "_law_free" "_law_free" s_free f fd):FnOk P w K mg base CX0 1 f fd ["_law_before_here", "_law_done"] spFree:=by
 refine F.ok sc_free (fun vs H Q E h=>?_) (fun cdv A outer s H vs Q E hr h=>?_)
 ·obtain ⟨d,t,J,D,na,rfl,_⟩:=h
  rfl
 ·obtain ⟨d,t,J,D,na,rfl,N0,ht,len,k⟩:=h
  have hu:=zEy hr
  refine ⟨_,(zAb (zAj (i:=2) sc_free.nd rfl (by walk_at "lc") (zA0 zAc))
   (zAb (zIc (zAx PassesOwn.never rfl (zId (pv 0)) (zAh (i:=3) sc_free.nd rfl (by walk_at "lc"))
    (zAd (zCb (PW.pt (zFn (zAn zDm (pv 3) (pv 1) (by rfl)) (zEd (zAn (op_eqL hr) (zBh rfl (zBj (sc:=zAe s_free) rfl (by decide +kernel)) (Draws.own (x:= "_law_other") (Draws.tk (i:=1) rfl (by walk_at "vs") (by walk_at "vk") (by walk_at "vf") Draws.nil)) (zAm (zBa hu (pv 0) (pv 3) (fun _ _=>rfl))) (fun C s₀ H₀ ex=>(zAh (i:=0) (show List.Nodup (["_law_other", "_law_done"]:List Str) by decide +kernel) rfl (by walk_at "lc"))) (fun C s₀ H₀ ex=>(zBr (zAn (zDa (K:=K)) (pv 0) (pv 1) (by rfl)))) (fun C s₀ H₀ ex=>(pv 0))) (zA0 zAc) (zAv _)))))
     (zAd (zA4 (zEq PySem.F.plainAttrs_list PySem.F.slot_list_append PySem.F.type_list_append zB5 (pv 2) (zAa (pv 3) zAc))))
     zAw))))
   (zAd (zAs (pv 2))))),?_⟩
  have hs:=sizeLine_eq
  refine ⟨(by walk_at "ln"),fun B hB=>?_⟩
  have fB:Fre H B:=hB
  have k1:Kp [] H (upd H B (.lst [])):=Kp.new Kp.refl fB
  have hB1:upd H B (.lst []) B=some (.lst []):=upd_same
  have N1:=N0.kp0 k1
  have ht1:=k1 t _ ht (by simp)
  generalize upd H B (.lst [])=H1 at k1 hB1 N1 ht1
  refine ⟨d,_,N1.top,fun o=>?_⟩
  have nBd:B≠d:=zBe hB1 N1.top (fun z=>nomatch z)
  have kf:Kp [d] H1 (upd H1 d (.frz o (.dK (dT1 J.ns fun n=>.ref (na n))))):=Kp.put Kp.refl (by simp)
  have hd2:upd H1 d (.frz o (.dK (dT1 J.ns fun n=>.ref (na n)))) d=some (.frz o (.dK (dT1 J.ns fun n=>.ref (na n)))):=upd_same
  have hB2:=kf _ _ hB1 (nm1 nBd)
  generalize upd H1 d (.frz o (.dK (dT1 J.ns fun n=>.ref (na n))))=H2 at kf hd2 hB2
  have keep:∀{H3:Hp},Kp [B] H2 H3->∀x u,H x=some u->x≠d->H3 x=some u:=fun k x u e n=>k x u (kf x u (k1 x u e (by simp)) (nm1 n)) (nm1 (ne_fre fB e))
  refine ⟨_,rfl,d,o,_,rfl,hd2,for_keys (fun i σ H3=>(∃o3:Option V,σ=[some (.ref d),some (.ref t),some (.ref B),o3])/\Kp [B] H2 H3/\H3 B=some (.lst (((J.ns.take i).filter fun n=>decide (n∉D)&&rdyB J D n).map V.str))) ⟨⟨_,rfl⟩,Kp.refl,hB2⟩ (fun i σ H3 _ ⟨_,k3,_⟩=>k3 d _ hd2 (nm1 nBd.symm)) ?_ ?_⟩
  ·rintro i kk v σ H3 hv ⟨⟨o3,rfl⟩,k3,h3⟩
   rw [List.getElem?_map] at hv
   obtain ⟨n,en,ekv⟩:=Option.map_eq_some_iff.mp hv
   cases ekv
   have mn:=List.mem_of_getElem? en
   have ntd:t≠d:=zBe ht N0.top (fun z=>nomatch z)
   have ht3:=keep k3 t _ ht ntd
   have hd3:=k3 d _ hd2 (nm1 nBd.symm)
   have hi:i<J.ns.length:=(List.getElem?_eq_some_iff.mp en).1
   have fl:(((J.ns.take i).filter fun n=>decide (n∉D)&&rdyB J D n).map V.str).length<sizeLine:=by rw [List.length_map];exact zBk (by omega)
   refine ⟨_,rfl,_,rfl,_,_,rfl,.inr (SqT.of ht3),rfl,zBi _,_,rfl,?_⟩
   rw [if_pos rfl,show inV (kV (Sum.inr n)) (D.map V.str)=decide (n∈D) from zCl n D]
   by_cases c1:n∈D
   ·rw [decide_eq_true c1]
    refine iteF (iteF ⟨⟨_,rfl⟩,k3,?_⟩)
    rw [zBn en (by simp [c1])];exact h3
   ·rw [decide_eq_false c1]
    refine iteT ?_
    have g:=DGet.z (k:=Sum.inr n) hd3
    rw [zBu,if_pos mn] at g
    have hrow:=keep k3 _ _ (N0.row n mn) (zBe (N0.row n mn) N0.top (fun z=>nomatch z))
    refine ⟨_,rfl,_,rfl,d,_,rfl,g,_,rfl,⟨_,SqL.of hrow⟩,fun Y hY=>zBb ((J.ns.filter fun m=>decide (m∈J.S n)).map V.str) (fun j ys τ H4=>(∃o0,τ=[o0,some (.ref t)])/\ys=(((J.ns.filter fun m=>decide (m∈J.S n)).take j).filter fun m=>decide (m∉D)).map V.str/\H4=upd H3 Y (.lst ys)) ⟨⟨_,rfl⟩,rfl,rfl⟩ (fun j ys τ H4 ⟨_,_,z⟩=>by subst z;exact SqL.of ((Kp.new (M:=[]) Kp.refl hY) _ _ hrow (by simp))) ?_ ?_⟩
    ·rintro j v ys τ H4 hv ⟨⟨o0,rfl⟩,rfl,rfl⟩
     obtain ⟨x,ex,rfl⟩:=zBm hv
     have kY:Kp [] H3 (upd H3 Y (.lst ((((J.ns.filter fun m=>decide (m∈J.S n)).take j).filter fun m=>decide (m∉D)).map V.str))):=Kp.new Kp.refl hY
     have fl2:(J.ns.filter fun m=>decide (m∈J.S n)).length<=4096:=Nat.le_trans (List.length_filter_le _ _) (by omega)
     refine ⟨_,rfl,_,rfl,_,_,rfl,.inr (SqT.of (kY _ _ ht3 (by simp))),rfl,zBi _,_,rfl,?_⟩
     rw [if_pos rfl,zCl]
     refine ite2 (fun c=>?_) (fun c=>?_)
     ·refine ⟨_,rfl,upd_same,by rw [List.length_map];exact zBk fl2,⟨_,rfl⟩,?_,zBg⟩
      rw [zBf (p:=fun m=>decide (m∉D)) ex (by simpa using c),List.map_append];rfl
     ·refine ⟨⟨_,rfl⟩,?_,rfl⟩
      rw [zBn (p:=fun m=>decide (m∉D)) ex (by simpa using c)]
    ·rintro ys τ H4 ⟨_,rfl,rfl⟩
     rw [List.length_map,List.take_length]
     have hYf:Fre H3 Y:=hY
     generalize eys:(J.ns.filter fun m=>decide (m∈J.S n)).filter (fun m=>decide (m∉D))=ys
     have k4:Kp [] H3 (upd H3 Y (.lst (ys.map V.str))):=Kp.new Kp.refl hYf
     have h4:upd H3 Y (.lst (ys.map V.str)) Y=some (.lst (ys.map V.str)):=upd_same
     generalize upd H3 Y (.lst (ys.map V.str))=H4 at k4 h4
     refine ⟨(by walk_at "ln"),fun z hz=>?_⟩
     have k5:Kp [] H4 (upd H4 z (.lst [])):=Kp.new Kp.refl hz
     have h5:upd H4 z (.lst []) z=some (.lst []):=upd_same
     have hY5:=k5 _ _ h4 (by simp)
     generalize upd H4 z (.lst [])=H5 at k5 h5 hY5
     refine zG1 (SqL.of hY5) (SqL.of h5) ⟨_,rfl,?_⟩
     have er:rdyB J D n=decide (ys.map V.str=[]):=by
      rw [<-eys]
      unfold rdyB
      rw [Bool.eq_iff_iff,decide_eq_true_eq,List.map_eq_nil_iff,List.filter_eq_nil_iff,List.all_eq_true]
      exact ⟨fun h x hx=>by have:=of_decide_eq_true (h x hx);simp [this],fun h x hx=>by have:=h x hx;simpa using this⟩
     rw [<-er]
     have hB5:=(k4.trans k5) _ _ h3 (by simp)
     have k35:Kp [B] H2 H5:=k3.trans ((k4.trans k5).weak (by simp))
     refine ite2 (fun c=>?_) (fun c=>?_)
     ·refine ⟨_,rfl,.inl ⟨rfl,_,SqL.of hB5⟩,_,rfl,_,_,_,rfl,rfl,hB5,fl,⟨_,rfl⟩,Kp.put k35 (by simp),?_⟩
      rw [upd_same,zBf (p:=fun n=>decide (n∉D)&&rdyB J D n) en (by simp [c1,c]),List.map_append];rfl
     ·refine ⟨⟨_,rfl⟩,k35,?_⟩
      rw [zBn en (by simp [c])];exact hB5
  ·rintro σ H3 ⟨⟨o3,rfl⟩,k3,h3⟩
   rw [zDq,List.take_length] at h3
   refine ⟨k3 d _ hd2 (nm1 nBd.symm),?_⟩
   refine ⟨_,rfl,k B _ ((upd_ne nBd).trans h3) fun x u e _=>?_⟩
   by_cases z:x=d
   ·subst z
    rw [upd_same,<-e];exact N0.top.symm
   ·rw [upd_ne z];exact keep k3 x u e z
end
inductive Pth (J:JR) (b:Int):List Str->List (List Str)->Prop
 | nil:Pth J b [] []
 | snoc {D D' r:List Str} {rs:List (List Str)}:Pth J b D rs->(r,D')∈zAz J b D->Pth J b D' (rs++[r])
structure TurnOk (J:JR) (b:Int) (A r:List Str):Prop where
 ns:∀n∈r,n∈J.ns
 nd:r.Nodup
 nw:∀n∈r,n∉A
 rd:∀n∈r,rdyB J A n=true
 fit:(r.length:Int)<=b
theorem zGi {b:Int}:∀(ns:List Str) (rs:List (List Str)),(∀r∈rs,(r.length:Int)<=b)->∀r∈ns.foldl (fun rs n=>rs++(rs.filter fun r=>decide ((r.length:Int)<b)).map fun r=>r++[n]) rs,(r.length:Int)<=b/\∃r0∈rs,∃s:List Str,s.Sublist ns/\r=r0++s
 | [],rs,h,r,hr=>⟨h r hr,r,hr,[],List.Sublist.refl _,by simp⟩
 | n::ns,rs,h,r,hr=>by
  obtain ⟨h1,r0,h2,s,h3,h4⟩:=zGi ns _ (fun q hq=>by
   rcases List.mem_append.mp hq with z| z
   ·exact h q z
   ·obtain ⟨q',y1,rfl⟩:=List.mem_map.mp z
    have:=of_decide_eq_true (List.mem_filter.mp y1).2
    rw [List.length_append,List.length_singleton];omega) r hr
  refine ⟨h1,?_⟩
  rcases List.mem_append.mp h2 with z| z
  ·exact ⟨r0,z,s,h3.cons n,h4⟩
  ·obtain ⟨q',y1,rfl⟩:=List.mem_map.mp z
   exact ⟨q',(List.mem_filter.mp y1).1,n::s,h3.cons_cons n,by rw [h4,List.append_assoc];rfl⟩
theorem rdy_congr {J:JR} {A B:List Str} (h:∀n,n∈A↔n∈B) (n:Str):rdyB J A n=rdyB J B n:=by
 unfold rdyB
 congr 1
 funext m
 exact decide_eq_decide.mpr (h m)
abbrev AF (rs:List (List Str)) (A:List Str):List Str:=rs.foldl (fun A r=>r.foldl addA A) A
structure RightI (J:JR) (b:Int) (rs:List (List Str)):Prop where
 at':∀(i:Nat) (r:List Str),rs[i]?=some r->TurnOk J b (AF (rs.take i) []) r
 all:∀n∈J.ns,n∈AF rs []
theorem step_ok {J:JR} {b:Int} {D A r D':List Str} (nd:J.ns.Nodup) (hb:1<=b) (hA:∀n,n∈D↔n∈A) (h:(r,D')∈zAz J b D):TurnOk J b A r/\D'=nowF J.ns D r:=by
 obtain ⟨r1,h1,h2⟩:=List.mem_map.mp h
 obtain ⟨e1,e2⟩:=Prod.mk.inj h2
 subst e1
 obtain ⟨h3,r0,h4,s,h5,h6⟩:=zGi (zEh J D) [[]] (fun r hr=>by rw [List.mem_singleton.mp hr];show ((0:Nat):Int)<=b;omega) r1 h1
 rw [List.mem_singleton.mp h4] at h6
 have h6:r1=s:=h6
 subst h6
 have fr:∀n∈r1,n∈J.ns/\n∉D/\rdyB J D n=true:=fun n hn=>by
  obtain ⟨y1,y2⟩:=List.mem_filter.mp (h5.subset hn)
  obtain ⟨y3,y4⟩:=Bool.and_eq_true_iff.mp y2
  exact ⟨y1,of_decide_eq_true y3,y4⟩
 exact ⟨⟨fun n hn=>(fr n hn).1,(nd.sublist List.filter_sublist).sublist h5,fun n hn z=>(fr n hn).2.1 ((hA n).mpr z),fun n hn=>by rw [<-rdy_congr hA];exact (fr n hn).2.2,h3⟩,e2.symm⟩
theorem Pth.right {J:JR} {b:Int} {D:List Str} {rs:List (List Str)} (nd:J.ns.Nodup) (hb:1<=b) (h:Pth J b D rs):(∀n,n∈D↔n∈AF rs [])/\(∀n∈D,n∈J.ns)/\∀(i:Nat) (r:List Str),rs[i]?=some r->TurnOk J b (AF (rs.take i) []) r:=by
 induction h with
 | nil=>exact ⟨fun n=>Iff.rfl,(fun n h=>nomatch h),fun i r h=>by simp at h⟩
 | @snoc D D' r rs _ hs ih =>
  obtain ⟨h1,h2,h3⟩:=ih
  obtain ⟨ok,e⟩:=step_ok nd hb h1 hs
  refine ⟨fun n=>?_,fun n hn=>?_,fun i q hq=>?_⟩
  ·unfold AF
   rw [List.foldl_append]
   show n∈D'↔n∈r.foldl addA (AF rs [])
   rw [zEw,<-h1,e]
   unfold nowF
   rw [List.mem_filter,Bool.or_eq_true_iff,decide_eq_true_eq,decide_eq_true_eq]
   exact ⟨fun z=>z.2,fun z=>⟨z.elim (h2 n) (ok.ns n),z⟩⟩
  ·rw [e] at hn;exact (List.mem_filter.mp hn).1
  ·by_cases c:i<rs.length
   ·rw [List.getElem?_append_left c] at hq
    rw [List.take_append_of_le_length (Nat.le_of_lt c)]
    exact h3 i q hq
   ·have hi:=(List.getElem?_eq_some_iff.mp hq).1
    rw [List.length_append,List.length_singleton] at hi
    have:i=rs.length:=by omega
    subst this
    rw [List.getElem?_append_right (Nat.le_refl _),Nat.sub_self] at hq
    have:r=q:=by simpa using hq
    subst this
    rw [List.take_left']
    ·exact ok
    ·rfl
theorem Pth.ok {J:JR} {b:Int} {rs:List (List Str)} (nd:J.ns.Nodup) (hb:1<=b) (h:Pth J b J.ns rs):RightI J b rs:=⟨(h.right nd hb).2.2,fun n hn=>((h.right nd hb).1 n).mp hn⟩
theorem zHs {n:Str}:∀(rs:List (List Str)) (A:List Str),n∈AF rs A↔n∈A\/∃r∈rs,n∈r
 | [],A=>by simp
 | q::rs,A=>by
  show n∈AF rs (q.foldl addA A)↔_
  rw [zHs rs,zEw]
  constructor
  ·rintro ((h| h)| ⟨r,hr,h⟩)
   ·exact .inl h
   ·exact .inr ⟨q,List.mem_cons_self,h⟩
   ·exact .inr ⟨r,List.mem_cons_of_mem _ hr,h⟩
  ·rintro (h| ⟨r,hr,h⟩)
   ·exact .inl (.inl h)
   ·rcases List.mem_cons.mp hr with z| z
    ·subst z;exact .inl (.inr h)
    ·exact .inr ⟨r,z,h⟩
def tI:List (List Str)->Str->Nat
 | [],_=>0
 | r::rs,n=>if n∈r then 0 else tI rs n+1
theorem tI_eq {n:Str}:∀{rs:List (List Str)} {i:Nat} {r:List Str},rs[i]?=some r->n∈r->(∀q∈rs.take i,n∉q)->tI rs n=i
 | [],i,r,h,_,_=>by simp at h
 | q::rs,0,r,h,hn,_=>by
  have e:q=r:=by simpa using h
  subst e
  exact if_pos hn
 | q::rs,i+1,r,h,hn,hq=>by
  have:n∉q:=hq q (by rw [List.take_succ_cons];exact List.mem_cons_self)
  show (if n∈q then 0 else tI rs n+1)=i+1
  rw [if_neg this,tI_eq (by simpa using h) hn fun p hp=>hq p (by rw [List.take_succ_cons];exact List.mem_cons_of_mem _ hp)]
theorem tI_lt {n:Str}:∀{rs:List (List Str)} {i:Nat} {q:List Str},q∈rs.take i->n∈q->tI rs n<i
 | [],i,q,h,_=>by simp at h
 | p::rs,0,q,h,_=>by simp at h
 | p::rs,i+1,q,h,hn=>by
  show (if n∈p then 0 else tI rs n+1)<i+1
  rw [List.take_succ_cons] at h
  by_cases c:n∈p
  ·rw [if_pos c];omega
  ·rw [if_neg c]
   rcases List.mem_cons.mp h with z| z
   ·subst z;exact absurd hn c
   ·have:=tI_lt z hn
    omega
theorem tI_at {n:Str}:∀{rs:List (List Str)},(∃r∈rs,n∈r)->∃r,rs[tI rs n]?=some r/\n∈r
 | [],⟨r,h,_⟩=>nomatch h
 | p::rs,⟨r,h,hn⟩=>by
  by_cases c:n∈p
  ·have e:tI (p::rs) n=0:=if_pos c
   rw [e];exact ⟨p,rfl,c⟩
  ·have e:tI (p::rs) n=tI rs n+1:=if_neg c
   rw [e]
   rcases List.mem_cons.mp h with z| z
   ·subst z;exact absurd hn c
   ·obtain ⟨r',h1,h2⟩:=tI_at ⟨r,z,hn⟩
    exact ⟨r',by simpa using h1,h2⟩
theorem right_lt {J:JR} {b:Int} {rs:List (List Str)} (R:RightI J b rs) {n y:Str} (hn:n∈J.ns) (hy:y∈J.ns) (h:n∈J.S y):tI rs n<tI rs y:=by
 have h1:=(zHs rs []).mp (R.all y hy)
 obtain ⟨r,e,hr⟩:=tI_at (h1.resolve_left (by simp))
 have ok:=R.at' _ r e
 have rd:=ok.rd y hr
 unfold rdyB at rd
 have:=of_decide_eq_true (List.all_eq_true.mp rd n (List.mem_filter.mpr ⟨hn,decide_eq_true h⟩))
 obtain ⟨q,hq,hnq⟩:=((zHs _ []).mp this).resolve_left (by simp)
 exact tI_lt hq hnq
theorem Pth.det {J:JR} {b:Int} {D:List Str} {rs:List (List Str)} (h:Pth J b D rs):∀{D':List Str},Pth J b D' rs->D=D':=by
 induction h with
 | nil=>intro D' h';generalize e:([]:List (List Str))=rs at h';cases h' with
  | nil=>rfl
  | snoc _ _=>simp at e
 | @snoc D D1 r rs h hs ih =>
  intro D' h'
  generalize e:rs++[r]=q at h'
  cases h' with
  | nil=>simp at e
  | @snoc D2 _ r2 rs2 h2 hs2 =>
   obtain ⟨e1,e2⟩:=List.append_inj' e rfl
   subst e1
   have e2:=(List.cons.inj e2).1
   subst e2
   have:=ih h2
   subst this
   obtain ⟨x,_,hx⟩:=List.mem_map.mp hs
   obtain ⟨y,_,hy⟩:=List.mem_map.mp hs2
   obtain ⟨x1,x2⟩:=Prod.mk.inj hx
   obtain ⟨y1,y2⟩:=Prod.mk.inj hy
   rw [<-x2,<-y2,x1,y1]
def sumW (g:List Str->Int) (A:WL):Int:=(A.map fun e=>e.2*g e.1).sum
theorem zB3 (g:List Str->Int) (e:List Str×Int) (A:WL):sumW g (e::A)=e.2*g e.1+sumW g A:=by
 unfold sumW
 rw [List.map_cons,List.sum_cons]
theorem zF8 (g:List Str->Int):∀A B:WL,sumW g (A++B)=sumW g A+sumW g B
 | [],B=>by show sumW g B=0+sumW g B;omega
 | e::A,B=>by rw [List.cons_append,zB3,zB3,zF8 g A B];omega
theorem upd_no {k:List Str} {v:Int}:∀{A:WL},k∉A.map (·.1)->A.map (fun e=>if e.1=k then (e.1,e.2+v) else e)=A
 | [],_=>rfl
 | e::A,h=>by
  rw [List.map_cons,List.mem_cons,not_or] at h
  rw [List.map_cons,upd_no h.2,if_neg fun z=>h.1 z.symm]
theorem sum_upd {g:List Str->Int} {k:List Str} {v:Int}:∀{A:WL},(A.map (·.1)).Nodup->k∈A.map (·.1)->sumW g (A.map fun e=>if e.1=k then (e.1,e.2+v) else e)=sumW g A+v*g k
 | [],_,h=>nomatch h
 | e::A,nd,h=>by
  obtain ⟨n1,n2⟩:=List.nodup_cons.mp nd
  rw [List.map_cons,zB3,zB3]
  by_cases z:e.1=k
  ·rw [if_pos z,upd_no (by rw [<-z];exact n1)]
   show (e.2+v)*g e.1+_=_
   rw [z,Int.add_mul];omega
  ·rw [if_neg z,sum_upd n2 ((List.mem_cons.mp h).resolve_left fun y=>z y.symm)];omega
theorem sum_addW {g:List Str->Int} {k:List Str} {v:Int} {A:WL} (nd:(A.map (·.1)).Nodup):sumW g (addW A k v)=sumW g A+v*g k:=by
 unfold addW
 split
 ·rename_i h;exact sum_upd nd h
 ·rw [zF8,zB3]
  show _+(v*g k+0)=_
  omega
theorem sum_steps {g:List Str->Int} {v:Int}:∀(ss:List (List Str×List Str)) (A:WL),(A.map (·.1)).Nodup->sumW g (ss.foldl (fun A s=>addW A s.2 v) A)=sumW g A+v*(ss.map fun s=>g s.2).sum
 | [],A,_=>by show sumW g A=sumW g A+v*0;rw [Int.mul_zero];omega
 | s::ss,A,nd=>by
  rw [List.foldl_cons,sum_steps ss _ (nd_addW nd),sum_addW nd,List.map_cons,List.sum_cons,Int.mul_add];omega
theorem sum_fold {J:JR} {b:Int} {g:List Str->Int}:∀(L A:WL),(A.map (·.1)).Nodup->sumW g (L.foldl (zH2 J b) A)=sumW g A+sumW (fun D=>((zAz J b D).map fun s=>g s.2).sum) L
 | [],A,_=>by show sumW g A=sumW g A+0;omega
 | e::L,A,nd=>by
  have h1:sumW g (zH2 J b A e)=_:=sum_steps (zAz J b e.1) A nd
  rw [List.foldl_cons,sum_fold L (zH2 J b A e) (zEt _ _ nd),h1,zB3];omega
def zGp (J:JR) (b:Int):Nat->List (List Str×List (List Str))
 | 0=>[([],[])]
 | t+1=>(zGp J b t).flatMap fun e=>(zAz J b e.1).map fun s=>(s.2,e.2++[s.1])
theorem sum_flat {α β:Type} (h:β->Int) (F:α->List β):∀L:List α,((L.flatMap F).map h).sum=(L.map fun e=>((F e).map h).sum).sum
 | []=>rfl
 | e::L=>by rw [List.flatMap_cons,List.map_append,List.sum_append,sum_flat h F L,List.map_cons,List.sum_cons]
theorem way_path (J:JR) (b:Int):∀(t:Nat) (g:List Str->Int),sumW g (wayF J b t)=((zGp J b t).map fun x=>g x.1).sum
 | 0,g=>by
  show 1*g []+0=g []+0
  omega
 | t+1,g=>by
  show sumW g ((wayF J b t).foldl (zH2 J b) [])=(((zGp J b t).flatMap _).map _).sum
  rw [sum_fold (wayF J b t) [] List.nodup_nil,way_path J b t,sum_flat]
  show 0+_=_
  rw [Int.zero_add]
  congr 1
  refine List.map_congr_left fun e _=>?_
  rw [List.map_map];rfl
theorem sumW_zero {g:List Str->Int}:∀{A:WL},(∀e∈A,g e.1=0)->sumW g A=0
 | [],_=>rfl
 | e::A,h=>by rw [zB3,h e List.mem_cons_self,sumW_zero fun q hq=>h q (List.mem_cons_of_mem _ hq),Int.mul_zero];rfl
theorem getW_sum {k:List Str}:∀{A:WL},(A.map (·.1)).Nodup->getW A k=sumW (fun x=>if x=k then 1 else 0) A
 | [],_=>rfl
 | e::A,nd=>by
  obtain ⟨n1,n2⟩:=List.nodup_cons.mp nd
  rw [zB3]
  by_cases z:e.1=k
  ·rw [zIs z,sumW_zero fun q hq=>if_neg fun y=>n1 (List.mem_map.mpr ⟨q,hq,y.trans z.symm⟩),if_pos z];omega
  ·rw [zF5 z,getW_sum n2,if_neg z];omega
theorem sum_ind {k:List Str}:∀P:List (List Str×List (List Str)),(P.map fun x=>if x.1=k then (1:Int) else 0).sum=((P.filter fun x=>decide (x.1=k)).length:Int)
 | []=>rfl
 | x::P=>by
  rw [List.map_cons,List.sum_cons,sum_ind P,List.filter_cons]
  by_cases z:x.1=k
  ·rw [if_pos z,if_pos (decide_eq_true z),List.length_cons];omega
  ·rw [if_neg z,if_neg (by simpa using z)];omega
theorem cnt_len (J:JR) (b:Int) (t:Nat):cntF J b t=(((zGp J b t).filter fun x=>decide (x.1=J.ns)).length:Int):=by
 unfold cntF
 rw [getW_sum (wayF_nd J b t),way_path,sum_ind]
theorem zC2 {J:JR} {b:Int}:∀{t:Nat} {x:List Str×List (List Str)},x∈zGp J b t->Pth J b x.1 x.2/\x.2.length=t
 | 0,x,h=>by rw [List.mem_singleton.mp h];exact ⟨.nil,rfl⟩
 | t+1,x,h=>by
  obtain ⟨e,h1,h2⟩:=List.mem_flatMap.mp h
  obtain ⟨s,h3,rfl⟩:=List.mem_map.mp h2
  obtain ⟨h4,h5⟩:=zC2 h1
  exact ⟨.snoc h4 h3,by rw [List.length_append,h5];rfl⟩
theorem Pth.mem {J:JR} {b:Int} {D:List Str} {rs:List (List Str)} (h:Pth J b D rs):(D,rs)∈zGp J b rs.length:=by
 induction h with
 | nil=>exact List.mem_singleton.mpr rfl
 | snoc _ hs ih =>
  rw [List.length_append]
  exact List.mem_flatMap.mpr ⟨_,ih,List.mem_map.mpr ⟨_,hs,rfl⟩⟩
theorem rowsF_nd (b:Int):∀(ns:List Str) (rs:List (List Str)),ns.Nodup->rs.Nodup->(∀r∈rs,∀n∈ns,n∉r)->(ns.foldl (fun rs n=>rs++(rs.filter fun r=>decide ((r.length:Int)<b)).map fun r=>r++[n]) rs).Nodup
 | [],rs,_,h,_=>h
 | n::ns,rs,nd,h,ho=>by
  obtain ⟨n1,n2⟩:=List.nodup_cons.mp nd
  refine rowsF_nd b ns _ n2 (List.nodup_append.mpr ⟨h,zCi (h.sublist List.filter_sublist) fun x _ y _ e=>List.append_cancel_right e,fun x hx y hy e=>?_⟩) fun r hr m hm=>?_
  ·obtain ⟨q,h1,rfl⟩:=List.mem_map.mp hy
   exact ho x hx n List.mem_cons_self (by rw [e];simp)
  ·rcases List.mem_append.mp hr with z| z
   ·exact ho r z m (List.mem_cons_of_mem _ hm)
   ·obtain ⟨q,h1,rfl⟩:=List.mem_map.mp z
    rw [List.mem_append,not_or]
    exact ⟨ho q (List.mem_filter.mp h1).1 m (List.mem_cons_of_mem _ hm),fun e=>n1 (by rw [<-List.mem_singleton.mp e];exact hm)⟩
theorem nd_flat {α β:Type} {F:α->List β}:∀{L:List α},L.Nodup->(∀e∈L,(F e).Nodup)->(∀e∈L,∀e'∈L,∀x,x∈F e->x∈F e'->e=e')->(L.flatMap F).Nodup
 | [],_,_,_=>List.nodup_nil
 | e::L,nd,h,hd=>by
  obtain ⟨n1,n2⟩:=List.nodup_cons.mp nd
  rw [List.flatMap_cons]
  refine List.nodup_append.mpr ⟨h e List.mem_cons_self,nd_flat n2 (fun q hq=>h q (List.mem_cons_of_mem _ hq)) (fun q hq q' hq'=>hd q (List.mem_cons_of_mem _ hq) q' (List.mem_cons_of_mem _ hq')),fun x hx y hy z=>?_⟩
  obtain ⟨q,h1,h2⟩:=List.mem_flatMap.mp hy
  rw [<-z] at h2
  have:=hd e List.mem_cons_self q (List.mem_cons_of_mem _ h1) x hx h2
  exact n1 (this▸h1)
theorem paths_nd {J:JR} {b:Int} (nd:J.ns.Nodup):∀t,(zGp J b t).Nodup
 | 0=>by show [(([]:List Str),([]:List (List Str)))].Nodup;simp
 | t+1=>by
  refine nd_flat (paths_nd nd t) (fun e _=>?_) fun e he e' he' x hx hx'=>?_
  ·refine zCi ?_ fun s hs s' hs' z=>?_
   ·unfold zAz
    exact zCi (rowsF_nd b _ _ (nd.sublist List.filter_sublist) (by simp) (fun r hr n _=>by rw [List.mem_singleton.mp hr];simp)) fun r _ r' _ z=>(Prod.mk.inj z).1
   ·obtain ⟨z1,z2⟩:=Prod.mk.inj z
    have:=List.append_cancel_left z2
    exact Prod.ext (List.cons.inj this).1 z1
  ·obtain ⟨s,h1,rfl⟩:=List.mem_map.mp hx
   obtain ⟨s',h2,z⟩:=List.mem_map.mp hx'
   obtain ⟨z1,z2⟩:=Prod.mk.inj z
   have z3:e'.2=e.2:=(List.append_inj' z2 rfl).1
   have h3:=(zC2 he).1
   have h4:=(zC2 he').1
   rw [z3] at h4
   exact Prod.ext (Pth.det h3 h4) z3.symm
abbrev Asg:=List (Str×Nat)
def okA (b:Int) (L:Str->List Str) (f:Asg) (n:Str) (u:Nat):Bool:=decide (((f.filter fun q=>decide (q.2=u)).length:Int)<b)&&((f.filter fun q=>decide (n∈L q.1)&&decide (u<=q.2)).isEmpty&&(f.filter fun q=>decide (q.1∈L n)&&decide (q.2<=u)).isEmpty)
def extF (b:Int) (L:Str->List Str) (t:Nat) (fs:List Asg) (n:Str):List Asg:=fs.flatMap fun f=>((List.range t).filter (okA b L f n)).map fun u=>f++[(n,u)]
def zDp (b:Int) (L:Str->List Str) (t:Nat) (ns:List Str):List Asg:=ns.foldl (extF b L t) [[]]
structure AsgOk (b:Int) (L:Str->List Str) (t:Nat) (f:Asg):Prop where
 lt:∀q∈f,q.2<t
 cnt:∀u,((f.filter fun q=>decide (q.2=u)).length:Int)<=b
 ord:∀q∈f,∀q'∈f,q'.1∈L q.1->q.2<q'.2
theorem okA_iff {b:Int} {L:Str->List Str} {f:Asg} {n:Str} {u:Nat}:okA b L f n u=true↔((f.filter fun q=>decide (q.2=u)).length:Int)<b/\(∀q∈f,n∈L q.1->q.2<u)/\∀q∈f,q.1∈L n->u<q.2:=by
 unfold okA
 rw [Bool.and_eq_true_iff,Bool.and_eq_true_iff,decide_eq_true_eq,List.isEmpty_iff,List.isEmpty_iff,List.filter_eq_nil_iff,List.filter_eq_nil_iff]
 refine and_congr Iff.rfl (and_congr ⟨fun h q hq hn=>?_,fun h q hq z=>?_⟩ ⟨fun h q hq hn=>?_,fun h q hq z=>?_⟩)
 ·have:=h q hq
  simp [hn] at this;omega
 ·simp only [Bool.and_eq_true,decide_eq_true_eq] at z
  have:=h q hq z.1
  omega
 ·have:=h q hq
  simp [hn] at this;omega
 ·simp only [Bool.and_eq_true,decide_eq_true_eq] at z
  have:=h q hq z.1
  omega
theorem AsgOk.snoc {b:Int} {L:Str->List Str} {t:Nat} {f:Asg} {n:Str} {u:Nat} (h:AsgOk b L t f) (nn:n∉L n) (hu:u<t) (ok:okA b L f n u=true):AsgOk b L t (f++[(n,u)]):=by
 obtain ⟨h1,h2,h3⟩:=okA_iff.mp ok
 refine ⟨fun q hq=>?_,fun v=>?_,fun q hq q' hq' hL=>?_⟩
 ·rcases List.mem_append.mp hq with z| z
  ·exact h.lt q z
  ·rw [List.mem_singleton.mp z];exact hu
 ·rw [List.filter_append,List.length_append,List.filter_cons]
  by_cases z:u=v
  ·subst z
   rw [if_pos (decide_eq_true rfl)]
   show (((_:Nat)+1:Nat):Int)<=b
   omega
  ·rw [if_neg (by simpa using z)]
   exact h.cnt v
 ·rcases List.mem_append.mp hq with z| z<;>rcases List.mem_append.mp hq' with y| y
  ·exact h.ord q z q' y hL
  ·rw [List.mem_singleton.mp y] at hL ⊢
   exact h2 q z hL
  ·rw [List.mem_singleton.mp z] at hL ⊢
   exact h3 q' y hL
  ·rw [List.mem_singleton.mp z,List.mem_singleton.mp y] at hL
   exact absurd hL nn
theorem AsgOk.init {b:Int} {L:Str->List Str} {t:Nat} {f:Asg} {n:Str} {u:Nat} (h:AsgOk b L t (f++[(n,u)])):AsgOk b L t f/\u<t/\okA b L f n u=true:=by
 have mn:(n,u)∈f++[(n,u)]:=by simp
 have mf:∀q∈f,q∈f++[(n,u)]:=fun q hq=>List.mem_append_left _ hq
 have cn:∀v,(((f++[(n,u)]).filter fun q=>decide (q.2=v)).length:Int)<=b:=h.cnt
 refine ⟨⟨fun q hq=>h.lt q (mf q hq),fun v=>?_,fun q hq q' hq'=>h.ord q (mf q hq) q' (mf q' hq')⟩,h.lt _ mn,okA_iff.mpr ⟨?_,fun q hq hL=>h.ord q (mf q hq) (n,u) mn hL,fun q hq hL=>h.ord (n,u) mn q (mf q hq) hL⟩⟩
 ·have:=cn v
  rw [List.filter_append,List.length_append] at this
  omega
 ·have:=cn u
  rw [List.filter_append,List.length_append,List.filter_cons,if_pos (decide_eq_true rfl)] at this
  have e:((n,u)::List.filter (fun q:Str×Nat=>decide (q.2=u)) []).length=1:=rfl
  rw [e] at this
  omega
theorem mem_jobs {b:Int} {L:Str->List Str} {t:Nat} (hb:0<=b):∀(ms:List Str) (f:Asg),(∀n∈ms,n∉L n)->(f∈zDp b L t ms.reverse↔f.map (·.1)=ms.reverse/\AsgOk b L t f)
 | [],f,_=>by
  show f∈[[]]↔f.map (·.1)=[]/\_
  rw [List.mem_singleton,List.map_eq_nil_iff]
  exact ⟨fun z=>⟨z,by rw [z];exact ⟨(fun _ h=>nomatch h),fun _=>hb,(fun _ h=>nomatch h)⟩⟩,fun z=>z.1⟩
 | m::ms,f,hn=>by
  have ih:=mem_jobs (L:=L) (t:=t) hb ms
  rw [List.reverse_cons]
  unfold zDp
  rw [List.foldl_append]
  show f∈extF b L t (zDp b L t ms.reverse) m↔_
  constructor
  ·intro h
   obtain ⟨g,h1,h2⟩:=List.mem_flatMap.mp h
   obtain ⟨u,h3,rfl⟩:=List.mem_map.mp h2
   obtain ⟨h4,h5⟩:=List.mem_filter.mp h3
   obtain ⟨h6,h7⟩:=(ih g fun n h=>hn n (List.mem_cons_of_mem _ h)).mp h1
   exact ⟨by rw [List.map_append,h6];rfl,h7.snoc (hn m List.mem_cons_self) (List.mem_range.mp h4) h5⟩
  ·rintro ⟨h1,h2⟩
   have ne:f≠[]:=fun z=>by rw [z] at h1;simp at h1
   obtain ⟨g,q,rfl⟩:∃g q,f=g++[q]:=⟨f.dropLast,f.getLast ne,(List.dropLast_concat_getLast ne).symm⟩
   rw [List.map_append] at h1
   obtain ⟨e1,e2⟩:=List.append_inj' h1 rfl
   have e2:q.1=m:=(List.cons.inj e2).1
   obtain ⟨n,u⟩:=q
   have e2:n=m:=e2
   subst e2
   obtain ⟨h3,h4,h5⟩:=h2.init
   exact List.mem_flatMap.mpr ⟨g,(ih g fun n h=>hn n (List.mem_cons_of_mem _ h)).mpr ⟨e1,h3⟩,List.mem_map.mpr ⟨u,List.mem_filter.mpr ⟨List.mem_range.mpr h4,h5⟩,rfl⟩⟩
theorem jobs_nd {b:Int} {L:Str->List Str} {t:Nat}:∀ms:List Str,(zDp b L t ms.reverse).Nodup
 | []=>by show ([[]]:List Asg).Nodup;simp
 | m::ms=>by
  rw [List.reverse_cons]
  unfold zDp
  rw [List.foldl_append]
  refine nd_flat (jobs_nd ms) (fun f _=>zCi (List.nodup_range.sublist List.filter_sublist) fun u _ v _ z=>?_) fun f _ f' _ x hx hx'=>?_
  ·have:=(List.cons.inj (List.append_cancel_left z)).1
   exact (Prod.mk.inj this).2
  ·obtain ⟨u,_,rfl⟩:=List.mem_map.mp hx
   obtain ⟨v,_,z⟩:=List.mem_map.mp hx'
   exact (List.append_inj' z rfl).1.symm
def zFt (ns:List Str) (g:Str->Nat) (t:Nat):List (List Str):=(List.range t).map fun i=>ns.filter fun n=>decide (g n=i)
theorem zGh {b:Int}:∀(ns:List Str) (rs:List (List Str)) (r0 s:List Str),r0∈rs->s.Sublist ns->((r0.length+s.length:Nat):Int)<=b->r0++s∈ns.foldl (fun rs n=>rs++(rs.filter fun r=>decide ((r.length:Int)<b)).map fun r=>r++[n]) rs
 | [],rs,r0,s,h,hs,_=>by
  rw [List.sublist_nil.mp hs,List.append_nil];exact h
 | n::ns,rs,r0,s,h,hs,hb=>by
  cases hs with
  | cons _ hs=>exact zGh ns _ r0 s (List.mem_append_left _ h) hs hb
  | @cons_cons s' _ _ hs =>
   rw [List.length_cons] at hb
   have:=zGh (b:=b) ns (rs++(rs.filter fun r=>decide ((r.length:Int)<b)).map fun r=>r++[n]) (r0++[n]) s' (List.mem_append_right _ (List.mem_map.mpr ⟨r0,List.mem_filter.mpr ⟨h,decide_eq_true (by omega)⟩,rfl⟩)) hs (by rw [List.length_append,List.length_singleton];omega)
   rw [List.append_assoc] at this
   exact this
theorem path_of {J:JR} {b:Int} {g:Str->Nat} (cnt:∀u,((J.ns.filter fun n=>decide (g n=u)).length:Int)<=b) (ord:∀n∈J.ns,∀m∈J.ns,m∈J.S n->g m<g n):∀i,Pth J b (J.ns.filter fun n=>decide (g n<i)) (zFt J.ns g i)
 | 0=>by
  have:(J.ns.filter fun n=>decide (g n<0))=[]:=List.filter_eq_nil_iff.mpr fun n _=>by simp
  rw [this];exact .nil
 | i+1=>by
  have e1:zFt J.ns g (i+1)=zFt J.ns g i++[J.ns.filter fun n=>decide (g n=i)]:=by
   unfold zFt
   rw [List.range_succ,List.map_append];rfl
  rw [e1]
  refine .snoc (path_of cnt ord i) (List.mem_map.mpr ⟨J.ns.filter fun n=>decide (g n=i),?_,Prod.ext rfl ?_⟩)
  ·have e2:(J.ns.filter fun n=>decide (g n=i))=(zEh J (J.ns.filter fun n=>decide (g n<i))).filter fun n=>decide (g n=i):=by
    unfold zEh
    rw [List.filter_filter]
    refine List.filter_congr fun n hn=>?_
    by_cases z:g n=i
    ·rw [decide_eq_true z,Bool.true_and]
     refine (Bool.and_eq_true_iff.mpr ⟨decide_eq_true (p:=¬n∈_) fun y=>?_,List.all_eq_true.mpr fun m hm=>decide_eq_true (List.mem_filter.mpr ?_)⟩).symm
     ·have:=of_decide_eq_true (List.mem_filter.mp y).2
      omega
     ·obtain ⟨m1,m2⟩:=List.mem_filter.mp hm
      have:=ord n hn m m1 (of_decide_eq_true m2)
      exact ⟨m1,decide_eq_true (by omega)⟩
    ·rw [decide_eq_false z,Bool.false_and]
   have:=zGh (b:=b) (zEh J (J.ns.filter fun n=>decide (g n<i))) [[]] [] _ (List.mem_singleton.mpr rfl) (List.filter_sublist (p:=fun n=>decide (g n=i))) (by rw [<-e2,List.length_nil,Nat.zero_add];exact cnt i)
   rw [<-e2] at this
   exact this
  ·refine List.filter_congr fun n hn=>?_
   rw [Bool.eq_iff_iff,Bool.or_eq_true_iff,decide_eq_true_eq,decide_eq_true_eq,decide_eq_true_eq,List.mem_filter,List.mem_filter,decide_eq_true_eq,decide_eq_true_eq]
   constructor
   ·rintro (z| z)
    ·omega
    ·omega
   ·intro z
    by_cases y:g n=i
    ·exact .inr ⟨hn,y⟩
    ·exact .inl ⟨hn,by omega⟩
theorem zE5:∀{r ns:List Str},r.Sublist ns->ns.Nodup->ns.filter (fun n=>decide (n∈r))=r
 | _,_,.slnil,_=>rfl
 | r,_,.cons a h,nd=>by
  obtain ⟨n1,n2⟩:=List.nodup_cons.mp nd
  rw [List.filter_cons,if_neg (by simpa using fun z=>n1 (h.subset z))]
  exact zE5 h n2
 | _,_,.cons_cons a h,nd=>by
  obtain ⟨n1,n2⟩:=List.nodup_cons.mp nd
  rw [List.filter_cons,if_pos (by simp)]
  congr 1
  refine Eq.trans (List.filter_congr fun n hn=>?_) (zE5 h n2)
  refine decide_eq_decide.mpr ⟨fun z=>(List.mem_cons.mp z).resolve_left fun e=>n1 (e▸hn),List.mem_cons_of_mem _⟩
theorem Pth.subs {J:JR} {b:Int} (hb:0<=b) {D:List Str} {rs:List (List Str)} (h:Pth J b D rs):∀r∈rs,r.Sublist J.ns:=by
 induction h with
 | nil=>exact fun _ h=>nomatch h
 | snoc _ hs ih =>
  intro r hr
  rcases List.mem_append.mp hr with z| z
  ·exact ih r z
  ·rw [List.mem_singleton.mp z]
   obtain ⟨q,h1,h2⟩:=List.mem_map.mp hs
   obtain ⟨e1,_⟩:=Prod.mk.inj h2
   rw [<-e1]
   obtain ⟨_,r0,h3,s,h4,h5⟩:=zGi (b:=b) _ [[]] (fun r hr=>by rw [List.mem_singleton.mp hr];exact hb) q h1
   rw [List.mem_singleton.mp h3] at h5
   rw [h5]
   exact h4.trans List.filter_sublist
theorem zGg {J:JR} {b:Int} {rs:List (List Str)} (nd:J.ns.Nodup) (hb:1<=b) (h:Pth J b J.ns rs):rs=zFt J.ns (tI rs) rs.length:=by
 have rt:=h.ok nd hb
 refine List.ext_getElem (by unfold zFt;rw [List.length_map,List.length_range]) fun i h1 h2=>?_
 have er:rs[i]?=some rs[i]:=by simp
 have e2:(zFt J.ns (tI rs) rs.length)[i]=J.ns.filter fun n=>decide (tI rs n=i):=by
  simp only [zFt,List.getElem_map,List.getElem_range]
 rw [e2]
 conv=>lhs;rw [<-zE5 (h.subs (by omega) rs[i] (List.getElem_mem h1)) nd]
 refine List.filter_congr fun n hn=>decide_eq_decide.mpr ⟨fun z=>?_,fun z=>?_⟩
 ·exact tI_eq er z fun q hq y=>(rt.at' i _ er).nw n z ((zHs _ _).mpr (.inr ⟨q,hq,y⟩))
 ·obtain ⟨r,e,hr⟩:=tI_at (((zHs rs []).mp (rt.all n hn)).resolve_left (by simp))
  rw [z,er] at e
  cases e
  exact hr
theorem sub_lenG {α:Type} [DecidableEq α]:∀{A B:List α},A.Nodup->(∀x∈A,x∈B)->A.length<=B.length
 | [],B,_,_=>Nat.zero_le _
 | a::A,B,h,hs=>by
  obtain ⟨h1,h2⟩:=List.nodup_cons.mp h
  have hb:=hs a List.mem_cons_self
  have:=sub_lenG (B:=B.filter fun x=>decide (x≠a)) h2 fun x hx=>List.mem_filter.mpr ⟨hs x (List.mem_cons_of_mem _ hx),decide_eq_true fun e=>h1 (e▸hx)⟩
  have:(B.filter fun x=>decide (x≠a)).length<B.length:=List.length_filter_lt_length_iff_exists.mpr ⟨a,hb,by simp⟩
  rw [List.length_cons];omega
theorem inj_len {α β:Type} [DecidableEq β] {A:List α} {B:List β} (F:α->β) (nd:A.Nodup) (h:∀a∈A,F a∈B) (inj:∀a∈A,∀a'∈A,F a=F a'->a=a'):A.length<=B.length:=by
 have:=sub_lenG (A:=A.map F) (B:=B) (zCi nd inj) fun x hx=>by
  obtain ⟨a,h1,rfl⟩:=List.mem_map.mp hx
  exact h a h1
 rwa [List.length_map] at this
def look (f:Asg) (n:Str):Nat:=((f.find? fun q=>decide (q.1=n)).map (·.2)).getD 0
theorem look_eq:∀{f:Asg},(f.map (·.1)).Nodup->∀q∈f,look f q.1=q.2
 | a::f,nd,q,h=>by
  obtain ⟨n1,n2⟩:=List.nodup_cons.mp nd
  unfold look
  rw [List.find?_cons]
  rcases List.mem_cons.mp h with z| z
  ·rw [z,decide_eq_true rfl];rfl
  ·have:¬a.1=q.1:=fun y=>n1 (List.mem_map.mpr ⟨q,z,y.symm⟩)
   rw [decide_eq_false this]
   exact look_eq n2 q z
theorem zIp {f:Asg} {ns:List Str} (e:f.map (·.1)=ns) (nd:ns.Nodup):f=ns.map fun n=>(n,look f n):=by
 rw [<-e] at nd
 conv=>lhs;rw [<-List.map_id f]
 rw [<-e,List.map_map]
 exact List.map_congr_left fun q hq=>by
  show q=(q.1,look f q.1)
  rw [look_eq nd q hq]
theorem filt_map {ns:List Str} {g:Str->Nat} {u:Nat}:((ns.map fun n=>(n,g n)).filter fun q=>decide (q.2=u)).length=(ns.filter fun n=>decide (g n=u)).length:=by
 rw [List.filter_map,List.length_map];rfl
theorem jobs_count {J:JR} {b:Int} {L:Str->List Str} {t:Nat} (nd:J.ns.Nodup) (hb:1<=b) (hLS:∀n∈J.ns,∀x∈J.ns,x∈L n↔n∈J.S x) (irr:∀n∈J.ns,n∉L n):((zDp b L t J.ns).length:Int)=cntF J b t:=by
 have mj:∀f,f∈zDp b L t J.ns↔f.map (·.1)=J.ns/\AsgOk b L t f:=fun f=>by
  have:=mem_jobs (L:=L) (t:=t) (by omega:0<=b) J.ns.reverse f fun n hn=>irr n (List.mem_reverse.mp hn)
  rwa [List.reverse_reverse] at this
 have jn:(zDp b L t J.ns).Nodup:=by
  have:=jobs_nd (b:=b) (L:=L) (t:=t) J.ns.reverse
  rwa [List.reverse_reverse] at this
 rw [cnt_len]
 congr 1
 refine Nat.le_antisymm (inj_len (fun f=>(J.ns,zFt J.ns (look f) t)) jn (fun f hf=>?_) fun f hf f' hf' z=>?_) (inj_len (fun x=>J.ns.map fun n=>(n,tI x.2 n)) ((paths_nd nd t).sublist List.filter_sublist) (fun x hx=>?_) fun x hx y hy z=>?_)
 ·obtain ⟨e,ok⟩:=(mj f).mp hf
  have ef:=zIp e nd
  have ml:∀n∈J.ns,(n,look f n)∈f:=fun n hn=>by
   have:(n,look f n)∈J.ns.map fun n=>(n,look f n):=List.mem_map.mpr ⟨n,hn,rfl⟩
   rw [<-ef] at this;exact this
  have h1:=path_of (J:=J) (b:=b) (g:=look f) (fun u=>by
   have:=ok.cnt u
   rw [ef,filt_map] at this
   exact this) (fun n hn m hm hS=>ok.ord _ (ml m hm) _ (ml n hn) ((hLS m hm n hn).mpr hS)) t
  have e2:(J.ns.filter fun n=>decide (look f n<t))=J.ns:=List.filter_eq_self.mpr fun n hn=>decide_eq_true (ok.lt _ (ml n hn))
  rw [e2] at h1
  have h2:=h1.mem
  have e3:(zFt J.ns (look f) t).length=t:=by unfold zFt;rw [List.length_map,List.length_range]
  rw [e3] at h2
  exact List.mem_filter.mpr ⟨h2,decide_eq_true rfl⟩
 ·obtain ⟨e,ok⟩:=(mj f).mp hf
  obtain ⟨e',_⟩:=(mj f').mp hf'
  have ef:=zIp e nd
  have z2:=List.map_inj_left.mp (Prod.mk.inj z).2
  rw [ef,zIp e' nd]
  refine List.map_congr_left fun n hn=>?_
  have hlt:look f n<t:=ok.lt (n,look f n) (by
   have:(n,look f n)∈J.ns.map fun n=>(n,look f n):=List.mem_map.mpr ⟨n,hn,rfl⟩
   rw [<-ef] at this;exact this)
  have h1:=z2 (look f n) (List.mem_range.mpr hlt)
  have h2:n∈J.ns.filter fun m=>decide (look f m=look f n):=List.mem_filter.mpr ⟨hn,decide_eq_true rfl⟩
  rw [h1] at h2
  rw [of_decide_eq_true (List.mem_filter.mp h2).2]
 ·obtain ⟨h1,h2⟩:=List.mem_filter.mp hx
  obtain ⟨h3,h4⟩:=zC2 h1
  have h2:x.1=J.ns:=of_decide_eq_true h2
  rw [h2] at h3
  have rt:=h3.ok nd hb
  have er:=zGg nd hb h3
  have tl:∀n∈J.ns,tI x.2 n<t:=fun n hn=>by
   obtain ⟨r,e,_⟩:=tI_at (((zHs x.2 []).mp (rt.all n hn)).resolve_left (by simp))
   rw [<-h4]
   exact (List.getElem?_eq_some_iff.mp e).1
  refine (mj _).mpr ⟨by rw [List.map_map];exact List.map_id _,fun q hq=>?_,fun u=>?_,fun q hq q' hq' hL=>?_⟩
  ·obtain ⟨n,hn,rfl⟩:=List.mem_map.mp hq
   exact tl n hn
  ·rw [filt_map]
   by_cases c:u<t
   ·have e2:x.2[u]?=some (J.ns.filter fun n=>decide (tI x.2 n=u)):=by
     conv=>lhs;rw [er]
     unfold zFt
     rw [List.getElem?_map,h4,List.getElem?_range c];rfl
    exact (rt.at' u _ e2).fit
   ·have:(J.ns.filter fun n=>decide (tI x.2 n=u))=[]:=List.filter_eq_nil_iff.mpr fun n hn z=>by
     have h5:=tl n hn
     have h6:=of_decide_eq_true z
     omega
    rw [this,List.length_nil];omega
  ·obtain ⟨n,hn,rfl⟩:=List.mem_map.mp hq
   obtain ⟨m,hm,rfl⟩:=List.mem_map.mp hq'
   exact right_lt rt hn hm ((hLS n hn m hm).mp hL)
 ·obtain ⟨h1,h2⟩:=List.mem_filter.mp hx
  obtain ⟨h3,h4⟩:=zC2 h1
  obtain ⟨g1,g2⟩:=List.mem_filter.mp hy
  obtain ⟨g3,g4⟩:=zC2 g1
  have h2:x.1=J.ns:=of_decide_eq_true h2
  have g2:y.1=J.ns:=of_decide_eq_true g2
  rw [h2] at h3
  rw [g2] at g3
  refine Prod.ext (h2.trans g2.symm) ?_
  rw [zGg nd hb h3,zGg nd hb g3,h4,g4]
  refine List.map_congr_left fun i _=>List.filter_congr fun n hn=>?_
  have:=List.map_inj_left.mp z n hn
  rw [(Prod.mk.inj this).2]
def kvA (f:Asg):List (Key×V):=f.map fun q=>(Sum.inr q.1,V.int (q.2:Int))
theorem zH0:∀{f:Asg},(f.map (·.1)).Nodup->∀q∈f,valV (kvA f) (Sum.inr q.1)=some (.int (q.2:Int))
 | a::f,nd,q,h=>by
  obtain ⟨n1,n2⟩:=List.nodup_cons.mp nd
  show valV ((Sum.inr a.1,V.int (a.2:Int))::kvA f) (Sum.inr q.1)=_
  rcases List.mem_cons.mp h with z| z
  ·rw [z];exact zA9 rfl
  ·rw [zA3 fun y=>n1 (List.mem_map.mpr ⟨q,z,(Sum.inr.inj y).symm⟩)]
   exact zH0 n2 q z
theorem val_kvN:∀{f:Asg} {n:Str},n∉f.map (·.1)->valV (kvA f) (Sum.inr n)=none
 | [],_,_=>rfl
 | a::f,n,h=>by
  rw [List.map_cons,List.mem_cons,not_or] at h
  show valV ((Sum.inr a.1,V.int (a.2:Int))::kvA f) (Sum.inr n)=_
  rw [zA3 fun y=>h.1 (Sum.inr.inj y).symm]
  exact val_kvN h.2
theorem kvA_at {f:Asg} {i:Nat} {kk:Key} {v:V} (h:(kvA f)[i]?=some (kk,v)):∃q,f[i]?=some q/\kk=Sum.inr q.1:=by
 unfold kvA at h
 rw [List.getElem?_map] at h
 obtain ⟨q,e,r⟩:=Option.map_eq_some_iff.mp h
 cases r
 exact ⟨q,e,rfl⟩
theorem ext_len {b:Int} {L:Str->List Str} {t:Nat} {n:Str}:∀fs:List Asg,(extF b L t fs n).length<=fs.length*t
 | []=>Nat.zero_le _
 | f::fs=>by
  show (((List.range t).filter (okA b L f n)).map (fun u=>f++[(n,u)])++extF b L t fs n).length<=(fs.length+1)*t
  rw [List.length_append,List.length_map,Nat.add_mul,Nat.one_mul,Nat.add_comm (fs.length*t)]
  exact Nat.add_le_add (Nat.le_trans (List.length_filter_le _ _) (by rw [List.length_range];exact Nat.le_refl _)) (ext_len fs)
theorem jobs_len {b:Int} {L:Str->List Str} {t:Nat}:∀(ns:List Str) (fs:List Asg),(ns.foldl (extF b L t) fs).length<=fs.length*t^ns.length
 | [],fs=>by simp
 | n::ns,fs=>by
  rw [List.foldl_cons,List.length_cons,Nat.pow_succ,Nat.mul_comm (t^ns.length) t,<-Nat.mul_assoc]
  exact Nat.le_trans (jobs_len ns _) (Nat.mul_le_mul_right _ (ext_len fs))
theorem jobs_few {b:Int} {L:Str->List Str} {t:Nat} {ns:List Str} (ht:t<=5) (hn:ns.length<=4):(zDp b L t ns).length<=625:=by
 have h1:=jobs_len (b:=b) (L:=L) (t:=t) ns [[]]
 rw [List.length_singleton,Nat.one_mul] at h1
 exact Nat.le_trans h1 (Nat.le_trans (Nat.pow_le_pow_left ht _) (Nat.pow_le_pow_right (by decide) hn:5^ns.length<=5^4))
theorem zHu {b:Int} {L:Str->List Str} {t:Nat}:∀(ms:List Str) (f:Asg),f∈zDp b L t ms.reverse->f.map (·.1)=ms.reverse
 | [],f,h=>by
  rw [List.mem_singleton.mp (show f∈[[]] from h)];rfl
 | m::ms,f,h=>by
  rw [List.reverse_cons] at h ⊢
  unfold zDp at h
  rw [List.foldl_append] at h
  obtain ⟨g,h1,h2⟩:=List.mem_flatMap.mp h
  obtain ⟨u,h3,rfl⟩:=List.mem_map.mp h2
  rw [List.map_append,zHu ms g h1];rfl
structure AsL (H0 H:Hp) (l:Addr) (ps:List (Addr×Asg)):Prop where
 top:H l=some (.lst (ps.map fun p=>V.ref p.1))
 row:∀p∈ps,H p.1=some (.dK (kvA p.2))
 fr:∀p∈ps,Fre H0 p.1
theorem AsL.kp0 {H0 H H':Hp} {l:Addr} {ps:List (Addr×Asg)} (A:AsL H0 H l ps) (k:Kp [] H H'):AsL H0 H' l ps:=⟨k _ _ A.top (by simp),fun p hp=>k _ _ (A.row p hp) (by simp),A.fr⟩
theorem as_at {ps:List (Addr×Asg)} {i:Nat} {v:V} (h:(ps.map fun p=>V.ref p.1)[i]?=some v):∃p,ps[i]?=some p/\v= .ref p.1:=by
 rw [List.getElem?_map] at h
 obtain ⟨p,e,r⟩:=Option.map_eq_some_iff.mp h
 exact ⟨p,e,r.symm⟩
theorem nil_map {α β:Type} {f:α->β} {xs:List α}:decide (xs.map f=[])=xs.isEmpty:=by cases xs<;>rfl
section
variable {P:Program} {w:World} {K:PySem.W.Frag} {mg:Str->Option Value} {base:Heap}
def spByJobs:Sp:=fun vs H Q _=>∃(l d:Addr) (b:Int) (t:Nat) (ns:List Str) (la:Str->Addr) (L:Str->List Str),vs=[.ref l,.ref d,.int b,.int t]/\Txs H l ns/\DR H d ns la L/\ns.Nodup/\ns.length<=4/\t<=5/\∀H',Kp [] H H'->Q (.int ((zDp b L t ns).length:Int)) H'
abbrev zC0:Stmt:=top 54
theorem zA6:FnScope ["_law_names_here", "_law_behind_here", "_law_benches_here", "_law_turns", "_law_found", "_law_name", "_law_longer", "_law_one", "_law_turn", "_law_wide", "_law_late", "_law_soon", "_law_more"] ["_law_names_here", "_law_behind_here", "_law_benches_here", "_law_turns"] (zAe zC0):=⟨rfl,rfl,rfl,by decide +kernel,rfl,by decide +kernel,by decide +kernel⟩
theorem ok_by_jobs {f:Addr} {fd:FuncData} (F:Fun K "_law_by_jobs" "_law_by_jobs" zC0 f fd) (T:Txt K mg):FnOk P w K mg base CX0 1 f fd ["_law_names_here", "_law_behind_here", "_law_benches_here", "_law_turns"] spByJobs:=by
 refine F.ok zA6 (fun vs H Q E h=>?_) (fun cdv A outer s H vs Q E hr h=>?_)
 ·obtain ⟨l,d,b,t,ns,la,L,rfl,_⟩:=h
  rfl
 ·obtain ⟨l,d,b,t,ns,la,L,rfl,hl,D0,nd,len,ht,k⟩:=h
  have hu:=zEy hr
  refine ⟨_,(zAb (zAj (i:=4) zA6.nd rfl (by walk_at "lc") (zA0 (zAa zCd zAc)))
   (zAb (zAx PassesOwn.never rfl (zAm (pv 0)) (zAh (i:=5) zA6.nd rfl (by walk_at "lc"))
    (zAb (zAj (i:=6) zA6.nd rfl (by walk_at "lc") (zA0 zAc))
    (zAb (zAx PassesOwn.never rfl (zAm (pv 4)) (zAh (i:=7) zA6.nd rfl (by walk_at "lc"))
     (zAd (zAx PassesOwn.never rfl (zB4 rfl T.z_range (zAa (pv 3) zAc)) (zAh (i:=8) zA6.nd rfl (by walk_at "lc"))
      (zAb (zIc (zAj (i:=9) zA6.nd rfl (by walk_at "lc") (zAl zAo (by rfl) T.z_len zCt (zAa (zBh rfl (zBj (sc:=zAe zC0) rfl (by decide +kernel)) (Draws.own (x:= "_law_other") (Draws.tk (i:=8) rfl (by walk_at "vs") (by walk_at "vk") (by walk_at "vf") (Draws.tk (i:=7) rfl (by walk_at "vs") (by walk_at "vk") (by walk_at "vf") Draws.nil))) (zId (pv 7)) (fun C s₀ H₀ ex=>(zAh (i:=0) (show List.Nodup (["_law_other", "_law_turn", "_law_one"]:List Str) by decide +kernel) rfl (by walk_at "lc"))) (fun C s₀ H₀ ex=>(zBr (zAn op_eq (zBa hu (pv 2) (pv 0) (fun _ _=>rfl)) (pv 1) (zAv _)))) (fun C s₀ H₀ ex=>(pv 0))) zAc))))
      (zAb (zIc (zFa (i:=10) rfl (zBj (sc:=zAe zC0) rfl (by decide +kernel)) (Draws.own (x:= "_law_other") (Draws.tk (i:=5) rfl (by walk_at "vs") (by walk_at "vk") (by walk_at "vf") (Draws.tk (i:=8) rfl (by walk_at "vs") (by walk_at "vk") (by walk_at "vf") (Draws.tk (i:=1) rfl (by walk_at "vs") (by walk_at "vk") (by walk_at "vf") (Draws.tk (i:=7) rfl (by walk_at "vs") (by walk_at "vk") (by walk_at "vf") Draws.nil))))) (zId (pv 7)) (fun C s₀ H₀ ex=>(zAh (i:=0) (show List.Nodup (["_law_other", "_law_name", "_law_turn", "_law_behind_here", "_law_one"]:List Str) by decide +kernel) rfl (by walk_at "lc"))) (fun C s₀ H₀ ex=>(zBr (PW.pt (zFn (zFo (zHp hu (pv 1) (zBa hu (pv 3) (pv 0) (fun _ _=>rfl)))) (zEd (zAn op_ge (zBa hu (pv 4) (pv 0) (fun _ _=>rfl)) (pv 2) (zAv _))))))) (fun C s₀ H₀ ex=>(pv 0)) zA6.nd rfl rfl))
      (zAb (zIc (zFa (i:=11) rfl (zBj (sc:=zAe zC0) rfl (by decide +kernel)) (Draws.own (x:= "_law_other") (Draws.tk (i:=8) rfl (by walk_at "vs") (by walk_at "vk") (by walk_at "vf") (Draws.tk (i:=1) rfl (by walk_at "vs") (by walk_at "vk") (by walk_at "vf") (Draws.tk (i:=5) rfl (by walk_at "vs") (by walk_at "vk") (by walk_at "vf") (Draws.tk (i:=7) rfl (by walk_at "vs") (by walk_at "vk") (by walk_at "vf") Draws.nil))))) (zId (pv 7)) (fun C s₀ H₀ ex=>(zAh (i:=0) (show List.Nodup (["_law_other", "_law_turn", "_law_behind_here", "_law_name", "_law_one"]:List Str) by decide +kernel) rfl (by walk_at "lc"))) (fun C s₀ H₀ ex=>(zBr (PW.pt (zFn (zFo (zHp hu (pv 0) (zBa hu (pv 2) (pv 3) (fun _ _=>rfl)))) (zEd (zAn op_le (zBa hu (pv 4) (pv 0) (fun _ _=>rfl)) (pv 1) (zAv _))))))) (fun C s₀ H₀ ex=>(pv 0)) zA6.nd rfl rfl))
      (zAd (zCb (PW.pt (zFn (zAn op_lt (pv 9) (pv 2) (zAv _)) (zFn (zAn (op_eqL hr) (pv 10) (zA0 zAc) (zAv _)) (zEd (zAn (op_eqL hr) (pv 11) (zA0 zAc) (zAv _))))))
       (zAb (zAj (i:=12) zA6.nd rfl (by walk_at "lc") (zAq call_dict1 (by rfl) T.z_dict bo_dict (zAa (pv 7) zAc)))
       (zAb (zB9 hu (pv 12) (pv 5) (pv 8) rfl)
       (zAd (zA4 (zEq PySem.F.plainAttrs_list PySem.F.slot_list_append PySem.F.type_list_append zB5 (pv 6) (zAa (pv 12) zAc))))))
       zAw))))))))
    (zAd (zAj (i:=4) zA6.nd rfl (by walk_at "lc") (pv 6))))))
   (zAd (zAs (zAl zAo (by rfl) T.z_len zCt (zAa (pv 4) zAc)))))),?_⟩
  have hs:=sizeLine_eq
  refine fun z0 hz0=>?_
  have k1:Kp [] H (upd H z0 (.dK [])):=Kp.new Kp.refl hz0
  have h1:upd H z0 (.dK []) z0=some (.dK (kvA [])):=upd_same
  generalize upd H z0 (.dK [])=H1 at k1 h1
  refine ⟨(by walk_at "ln"),fun fo hfo=>?_⟩
  have k2:Kp [] H1 (upd H1 fo (.lst [.ref z0])):=Kp.new Kp.refl hfo
  have A2:AsL H (upd H1 fo (.lst [.ref z0])) fo [(z0,[])]:=⟨upd_same,fun p hp=>by rw [List.mem_singleton.mp hp];exact k2 _ _ h1 (by simp),fun p hp=>by rw [List.mem_singleton.mp hp];exact hz0⟩
  have k02:=k1.trans k2
  generalize upd H1 fo (.lst [.ref z0])=H2 at k02 A2
  refine ⟨_,rfl,_,rfl,⟨_,SqL.of (k02 l _ hl (by simp))⟩,zAy (xs:=ns.map V.str) (fun i σ H3=>∃(fo:Addr) (ps:List (Addr×Asg)) (o5 o6 o7 o8 o9 o10 o11 o12:Option V),σ=[some (.ref l),some (.ref d),some (.int b),some (.int t),some (.ref fo),o5,o6,o7,o8,o9,o10,o11,o12]/\Kp [] H H3/\AsL H H3 fo ps/\ps.map (·.2)=zDp b L t (ns.take i)) ⟨fo,[(z0,[])],none,none,none,none,none,none,none,none,rfl,k02,A2,rfl⟩ (fun i σ H3 _ ⟨_,_,_,_,_,_,_,_,_,_,_,k3,_⟩=>SqL.of (k3 l _ hl (by simp))) ?_ ?_⟩
  ·rintro i v σ H3 hv ⟨fo,ps,o5,o6,o7,o8,o9,o10,o11,o12,rfl,k3,A3,ep⟩
   obtain ⟨n,en,rfl⟩:=zBm hv
   have mn:=List.mem_of_getElem? en
   have ni:=zDb nd en
   have hi:i<ns.length:=(List.getElem?_eq_some_iff.mp en).1
   have nm3:∀p∈ps,p.2.map (·.1)=ns.take i:=fun p hp=>by
    have:p.2∈zDp b L t (ns.take i):=by rw [<-ep];exact List.mem_map.mpr ⟨p,hp,rfl⟩
    have:=zHu (b:=b) (L:=L) (t:=t) (ns.take i).reverse p.2 (by rw [List.reverse_reverse];exact this)
    rwa [List.reverse_reverse] at this
   have pl:ps.length<=625:=by
    have:ps.length=(zDp b L t (ns.take i)).length:=by rw [<-ep,List.length_map]
    rw [this];exact jobs_few ht (by rw [List.length_take];omega)
   refine ⟨(by walk_at "ln"),fun lg hlg=>?_⟩
   have flg:Fre H3 lg:=hlg
   have k4:Kp [] H3 (upd H3 lg (.lst [])):=Kp.new Kp.refl hlg
   have h4:upd H3 lg (.lst []) lg=some (.lst []):=upd_same
   generalize upd H3 lg (.lst [])=H4 at k4 h4
   have A4:=A3.kp0 k4
   have nfl:fo≠lg:=zAk A3.top hlg
   have k04:=k3.trans k4
   have keep:∀{H5:Hp},Kp [lg] H4 H5->∀x u,H3 x=some u->H5 x=some u:=fun k x u e=>k x u (k4 x u e (by simp)) (nm1 (ne_fre flg e))
   refine ⟨_,rfl,_,rfl,⟨_,SqL.of A4.top⟩,zAy (xs:=ps.map fun p=>V.ref p.1) (fun j σ H5=>∃(qs:List (Addr×Asg)) (o7 o8 o9 o10 o11 o12:Option V),σ=[some (.ref l),some (.ref d),some (.int b),some (.int t),some (.ref fo),some (.str n),some (.ref lg),o7,o8,o9,o10,o11,o12]/\Kp [lg] H4 H5/\AsL H H5 lg qs/\qs.map (·.2)=extF b L t ((ps.take j).map (·.2)) n/\qs.length<=5*j) ⟨[],o7,o8,o9,o10,o11,o12,rfl,Kp.refl,⟨h4,(fun p h=>nomatch h),(fun p h=>nomatch h)⟩,rfl,Nat.zero_le _⟩ (fun j σ H5 _ ⟨_,_,_,_,_,_,_,_,k5,_⟩=>SqL.of (k5 _ _ A4.top (nm1 nfl))) ?_ ?_⟩
   ·rintro j v σ H5 hv ⟨qs,o7,o8,o9,o10,o11,o12,rfl,k5,A5,eq,ql⟩
    obtain ⟨p,epj,rfl⟩:=as_at hv
    have mp:=List.mem_of_getElem? epj
    have hj:j<ps.length:=(List.getElem?_eq_some_iff.mp epj).1
    have hp5:H5 p.1=some (.dK (kvA p.2)):=keep k5 _ _ (A3.row p mp)
    have nmp:=nm3 p mp
    have ndp:(p.2.map (·.1)).Nodup:=by rw [nmp];exact nd.sublist (List.take_sublist _ _)
    have inp:∀q∈p.2,q.1∈ns:=fun q hq=>by
     have:q.1∈p.2.map (·.1):=List.mem_map.mpr ⟨q,hq,rfl⟩
     rw [nmp] at this;exact List.mem_of_mem_take this
    have pln:p.2.length<=4:=by
     have:=congrArg List.length nmp
     rw [List.length_map,List.length_take] at this;omega
    have nip:n∉p.2.map (·.1):=by rw [nmp];exact ni
    refine ⟨_,rfl,_,rfl,by omega,by omega,zBo (lo:=0) (n:=t) (fun u σ H6=>∃(qs':List (Addr×Asg)) (o8 o9 o10 o11 o12:Option V),σ=[some (.ref l),some (.ref d),some (.int b),some (.int t),some (.ref fo),some (.str n),some (.ref lg),some (.ref p.1),o8,o9,o10,o11,o12]/\Kp [lg] H4 H6/\AsL H H6 lg qs'/\qs'.map (·.2)=qs.map (·.2)++((List.range u).filter (okA b L p.2 n)).map (fun u=>p.2++[(n,u)])/\qs'.length<=5*j+u) ⟨qs,o8,o9,o10,o11,o12,rfl,k5,A5,by simp,ql⟩ ?_ ?_⟩
    ·rintro u σ H6 hut ⟨qs',o8,o9,o10,o11,o12,rfl,k6,A6,eq',ql'⟩
     rw [Int.zero_add]
     have hp6:H6 p.1=some (.dK (kvA p.2)):=keep k6 _ _ (A3.row p mp)
     have D6:DR H6 d ns la L:=⟨keep k6 _ _ (k3 _ _ D0.top (by simp)),fun n hn=>keep k6 _ _ (k3 _ _ (D0.row n hn) (by simp))⟩
     refine ⟨p.1,_,hp6,fun o=>?_⟩
     have kf:Kp [p.1] H6 (upd H6 p.1 (.frz o (.dK (kvA p.2)))):=Kp.put Kp.refl (by simp)
     have ff:upd H6 p.1 (.frz o (.dK (kvA p.2))) p.1=some (.frz o (.dK (kvA p.2))):=upd_same
     generalize upd H6 p.1 (.frz o (.dK (kvA p.2)))=H7 at kf ff
     refine ⟨_,rfl,p.1,o,_,rfl,ff,fun B hB=>zG3 (fun m ys τ H8=>(∃o0,τ=[o0,some (.int u),some (.ref p.1)])/\ys=((p.2.take m).filter fun q=>decide (q.2=u)).map (fun q=>V.str q.1)/\H8=upd H7 B (.lst ys)) ⟨⟨_,rfl⟩,rfl,rfl⟩ (fun m ys τ H8 ⟨_,_,z⟩=>by subst z;exact (Kp.new (M:=[]) Kp.refl hB) _ _ ff (by simp)) ?_ ?_⟩
     ·rintro m kk v ys τ H8 hv ⟨⟨o0,rfl⟩,rfl,rfl⟩
      obtain ⟨q,eq1,rfl⟩:=kvA_at hv
      have g:=DGet.z (k:=Sum.inr q.1) ((Kp.new (M:=[]) (l:=B) (o:=.lst (((p.2.take m).filter fun q=>decide (q.2=u)).map fun q=>V.str q.1)) Kp.refl hB) _ _ ff (by simp))
      rw [zH0 ndp q (List.mem_of_getElem? eq1)] at g
      unfold gName
      refine ⟨_,rfl,_,rfl,p.1,_,rfl,g,_,rfl,rfl,_,rfl,ite2 (fun c=>?_) (fun c=>?_)⟩
      ·have c':q.2=u:=by
        have:(q.2:Int)=u:=by simpa using c
        omega
       refine ⟨_,rfl,upd_same,by rw [List.length_map];exact zBk (by omega),⟨_,rfl⟩,?_,zBg⟩
       rw [zBf (p:=fun q:Str×Nat=>decide (q.2=u)) eq1 (decide_eq_true c'),List.map_append];rfl
      ·have c':¬q.2=u:=fun z=>c (by rw [z];simp)
       refine ⟨⟨_,rfl⟩,?_,rfl⟩
       rw [zBn (p:=fun q:Str×Nat=>decide (q.2=u)) eq1 (by simpa using c')]
     rintro ys τ H8 ⟨_,rfl,rfl⟩
     have ek:(kvA p.2).length=p.2.length:=List.length_map _
     rw [ek,List.take_length]
     have hB8:upd H7 B (.lst ((p.2.filter fun q=>decide (q.2=u)).map fun q=>V.str q.1)) B=some (.lst ((p.2.filter fun q=>decide (q.2=u)).map fun q=>V.str q.1)):=upd_same
     have k8:Kp [] H7 (upd H7 B (.lst ((p.2.filter fun q=>decide (q.2=u)).map fun q=>V.str q.1))):=Kp.new Kp.refl hB
     generalize upd H7 B (.lst ((p.2.filter fun q=>decide (q.2=u)).map fun q=>V.str q.1))=H8 at hB8 k8
     refine ⟨B,_,rfl,.inl (SqL.of hB8),k8 _ _ ff (by simp),?_⟩
     rw [List.length_map]
     have k9:Kp [] H6 (upd H8 p.1 (.dK (kvA p.2))):=thaw_kp hp6 (kf.trans (k8.weak (by simp)))
     generalize upd H8 p.1 (.dK (kvA p.2))=H9 at k9
     clear kf ff hB8 k8 hB
     have hp9:=k9 _ _ hp6 (by simp)
     have D9:=D6.kp0 k9
     refine ⟨p.1,_,hp9,fun o=>?_⟩
     have kf:Kp [p.1] H9 (upd H9 p.1 (.frz o (.dK (kvA p.2)))):=Kp.put Kp.refl (by simp)
     have ff:upd H9 p.1 (.frz o (.dK (kvA p.2))) p.1=some (.frz o (.dK (kvA p.2))):=upd_same
     generalize upd H9 p.1 (.frz o (.dK (kvA p.2)))=H10 at kf ff
     have dne:∀x u,H x=some u->x≠p.1:=fun x u e=>ne_fre (A3.fr p mp) e
     have dr:∀{Ha Hb:Hp},DR Ha d ns la L->Kp [p.1] Ha Hb->DR Hb d ns la L:=fun D k=>⟨k _ _ D.top (nm1 (dne _ _ D0.top)),fun n hn=>k _ _ (D.row n hn) (nm1 (dne _ _ (D0.row n hn)))⟩
     have D10:=dr D9 kf
     refine ⟨_,rfl,p.1,o,_,rfl,ff,fun B hB=>zG3 (fun m ys τ H11=>(∃o0,τ=[o0,some (.str n),some (.int u),some (.ref d),some (.ref p.1)])/\ys=((p.2.take m).filter fun q=>decide (n∈L q.1)&&decide (u<=q.2)).map (fun q=>V.str q.1)/\H11=upd H10 B (.lst ys)) ⟨⟨_,rfl⟩,rfl,rfl⟩ (fun m ys τ H11 ⟨_,_,z⟩=>by subst z;exact (Kp.new (M:=[]) Kp.refl hB) _ _ ff (by simp)) ?_ ?_⟩
     ·rintro m kk v ys τ H11 hv ⟨⟨o0,rfl⟩,rfl,rfl⟩
      obtain ⟨q,eq1,rfl⟩:=kvA_at hv
      have mq:=List.mem_of_getElem? eq1
      have kB:Kp [] H10 (upd H10 B (.lst (((p.2.take m).filter fun q=>decide (n∈L q.1)&&decide (u<=q.2)).map fun q=>V.str q.1))):=Kp.new Kp.refl hB
      have g:=DGet.z (k:=Sum.inr q.1) (kB _ _ ff (by simp))
      rw [zH0 ndp q mq] at g
      have D11:=D10.kp0 kB
      unfold gName
      refine ⟨_,rfl,_,rfl,_,rfl,d,_,rfl,D11.get (inp q mq),_,_,rfl,DGet.k (k:=Sum.inr n) (D11.row q.1 (inp q mq)),_,rfl,?_⟩
      rw [zFf]
      by_cases c1:n∈L q.1
      ·rw [decide_eq_true c1]
       refine iteT ⟨_,rfl,_,rfl,p.1,_,rfl,g,_,rfl,_,_,rfl,rfl,_,rfl,ite2 (fun c=>?_) (fun c=>?_)⟩
       ·have c':u<=q.2:=by
         have:(u:Int)<=q.2:=by simpa using c
         omega
        refine ⟨_,rfl,upd_same,by rw [List.length_map];exact zBk (by omega),⟨_,rfl⟩,?_,zBg⟩
        rw [zBf (p:=fun q:Str×Nat=>decide (n∈L q.1)&&decide (u<=q.2)) eq1 (by simp [c1,c']),List.map_append];rfl
       ·have c':¬u<=q.2:=fun z=>c (by simp;omega)
        refine ⟨⟨_,rfl⟩,?_,rfl⟩
        rw [zBn (p:=fun q:Str×Nat=>decide (n∈L q.1)&&decide (u<=q.2)) eq1 (by simp [c'])]
      ·rw [decide_eq_false c1]
       refine iteF (iteF ⟨⟨_,rfl⟩,?_,rfl⟩)
       rw [zBn (p:=fun q:Str×Nat=>decide (n∈L q.1)&&decide (u<=q.2)) eq1 (by simp [c1])]
     rintro ys τ H11 ⟨_,rfl,rfl⟩
     rw [ek,List.take_length]
     have nBp:B≠p.1:=fun z=>by rw [z,ff] at hB;exact nomatch hB
     have hB11:upd H10 B (.lst ((p.2.filter fun q=>decide (n∈L q.1)&&decide (u<=q.2)).map fun q=>V.str q.1)) B=some (.lst ((p.2.filter fun q=>decide (n∈L q.1)&&decide (u<=q.2)).map fun q=>V.str q.1)):=upd_same
     have k11:Kp [] H10 (upd H10 B (.lst ((p.2.filter fun q=>decide (n∈L q.1)&&decide (u<=q.2)).map fun q=>V.str q.1))):=Kp.new Kp.refl hB
     generalize upd H10 B (.lst ((p.2.filter fun q=>decide (n∈L q.1)&&decide (u<=q.2)).map fun q=>V.str q.1))=H11 at hB11 k11
     refine ⟨k11 _ _ ff (by simp),?_⟩
     have k12:Kp [] H9 (upd H11 p.1 (.dK (kvA p.2))):=thaw_kp hp9 (kf.trans (k11.weak (by simp)))
     have hB12:=(upd_ne (o:=.dK (kvA p.2)) nBp).trans hB11
     generalize upd H11 p.1 (.dK (kvA p.2))=H12 at k12 hB12
     clear kf ff hB11 k11 hB D10
     have hp12:=k12 _ _ hp9 (by simp)
     have D12:=D9.kp0 k12
     refine ⟨p.1,_,hp12,fun o=>?_⟩
     have kf:Kp [p.1] H12 (upd H12 p.1 (.frz o (.dK (kvA p.2)))):=Kp.put Kp.refl (by simp)
     have ff:upd H12 p.1 (.frz o (.dK (kvA p.2))) p.1=some (.frz o (.dK (kvA p.2))):=upd_same
     generalize upd H12 p.1 (.frz o (.dK (kvA p.2)))=H13 at kf ff
     have D13:=dr D12 kf
     refine ⟨_,rfl,p.1,o,_,rfl,ff,fun Y hY=>zG3 (fun m ys τ H14=>(∃o0,τ=[o0,some (.int u),some (.ref d),some (.str n),some (.ref p.1)])/\ys=((p.2.take m).filter fun q=>decide (q.1∈L n)&&decide (q.2<=u)).map (fun q=>V.str q.1)/\H14=upd H13 Y (.lst ys)) ⟨⟨_,rfl⟩,rfl,rfl⟩ (fun m ys τ H14 ⟨_,_,z⟩=>by subst z;exact (Kp.new (M:=[]) Kp.refl hY) _ _ ff (by simp)) ?_ ?_⟩
     ·rintro m kk v ys τ H14 hv ⟨⟨o0,rfl⟩,rfl,rfl⟩
      obtain ⟨q,eq1,rfl⟩:=kvA_at hv
      have mq:=List.mem_of_getElem? eq1
      have kB:Kp [] H13 (upd H13 Y (.lst (((p.2.take m).filter fun q=>decide (q.1∈L n)&&decide (q.2<=u)).map fun q=>V.str q.1))):=Kp.new Kp.refl hY
      have g:=DGet.z (k:=Sum.inr q.1) (kB _ _ ff (by simp))
      rw [zH0 ndp q mq] at g
      have D14:=D13.kp0 kB
      unfold gName
      refine ⟨_,rfl,_,rfl,_,rfl,d,_,rfl,D14.get mn,_,_,rfl,DGet.k (k:=Sum.inr q.1) (D14.row n mn),_,rfl,?_⟩
      rw [zFf]
      by_cases c1:q.1∈L n
      ·rw [decide_eq_true c1]
       refine iteT ⟨_,rfl,_,rfl,p.1,_,rfl,g,_,rfl,_,_,rfl,rfl,_,rfl,ite2 (fun c=>?_) (fun c=>?_)⟩
       ·have c':q.2<=u:=by
         have:(q.2:Int)<=u:=by simpa using c
         omega
        refine ⟨_,rfl,upd_same,by rw [List.length_map];exact zBk (by omega),⟨_,rfl⟩,?_,zBg⟩
        rw [zBf (p:=fun q:Str×Nat=>decide (q.1∈L n)&&decide (q.2<=u)) eq1 (by simp [c1,c']),List.map_append];rfl
       ·have c':¬q.2<=u:=fun z=>c (by simp;omega)
        refine ⟨⟨_,rfl⟩,?_,rfl⟩
        rw [zBn (p:=fun q:Str×Nat=>decide (q.1∈L n)&&decide (q.2<=u)) eq1 (by simp [c'])]
      ·rw [decide_eq_false c1]
       refine iteF (iteF ⟨⟨_,rfl⟩,?_,rfl⟩)
       rw [zBn (p:=fun q:Str×Nat=>decide (q.1∈L n)&&decide (q.2<=u)) eq1 (by simp [c1])]
     rintro ys τ H14 ⟨_,rfl,rfl⟩
     rw [ek,List.take_length]
     have nYp:Y≠p.1:=fun z=>by rw [z,ff] at hY;exact nomatch hY
     have hY14:upd H13 Y (.lst ((p.2.filter fun q=>decide (q.1∈L n)&&decide (q.2<=u)).map fun q=>V.str q.1)) Y=some (.lst ((p.2.filter fun q=>decide (q.1∈L n)&&decide (q.2<=u)).map fun q=>V.str q.1)):=upd_same
     have k14:Kp [] H13 (upd H13 Y (.lst ((p.2.filter fun q=>decide (q.1∈L n)&&decide (q.2<=u)).map fun q=>V.str q.1))):=Kp.new Kp.refl hY
     generalize upd H13 Y (.lst ((p.2.filter fun q=>decide (q.1∈L n)&&decide (q.2<=u)).map fun q=>V.str q.1))=H14 at hY14 k14
     refine ⟨k14 _ _ ff (by simp),?_⟩
     have k15:Kp [] H12 (upd H14 p.1 (.dK (kvA p.2))):=thaw_kp hp12 (kf.trans (k14.weak (by simp)))
     have hY15:=(upd_ne (o:=.dK (kvA p.2)) nYp).trans hY14
     generalize upd H14 p.1 (.dK (kvA p.2))=H15 at k15 hY15
     clear kf ff hY14 k14 hY D13
     have hB15:=k15 _ _ hB12 (by simp)
     have k615:=k9.trans (k12.trans k15)
     have qsn:∀r:Bool,okA b L p.2 n u=r->((List.range (u+1)).filter (okA b L p.2 n)).map (fun u=>p.2++[(n,u)])=((List.range u).filter (okA b L p.2 n)).map (fun u=>p.2++[(n,u)])++if r=true then [p.2++[(n,u)]] else []:=fun r er=>by
      rw [List.range_succ,List.filter_append,List.map_append,List.filter_cons,er]
      cases r<;>rfl
     have stay:∀(Hx:Hp) (s9 s10 s11 s12:Option V),Kp [] H6 Hx->okA b L p.2 n u=false->∃(qs':List (Addr×Asg)) (o8 o9 o10 o11 o12:Option V),[some (.ref l),some (.ref d),some (.int b),some (.int t),some (.ref fo),some (.str n),some (.ref lg),some (.ref p.1),some (.int u),s9,s10,s11,s12]=[some (.ref l),some (.ref d),some (.int b),some (.int t),some (.ref fo),some (.str n),some (.ref lg),some (.ref p.1),o8,o9,o10,o11,o12]/\Kp [lg] H4 Hx/\AsL H Hx lg qs'/\qs'.map (·.2)=qs.map (·.2)++((List.range (u+1)).filter (okA b L p.2 n)).map (fun u=>p.2++[(n,u)])/\qs'.length<=5*j+(u+1):=fun Hx s9 s10 s11 s12 kx no=>⟨qs',_,s9,s10,s11,s12,rfl,k6.trans (kx.weak (by simp)),A6.kp0 kx,by rw [qsn false no,eq',if_neg (by decide),List.append_nil],by omega⟩
     have eo:okA b L p.2 n u=(decide (((p.2.filter fun q=>decide (q.2=u)).length:Int)<b)&&((p.2.filter fun q=>decide (n∈L q.1)&&decide (u<=q.2)).isEmpty&&(p.2.filter fun q=>decide (q.1∈L n)&&decide (q.2<=u)).isEmpty)):=rfl
     refine ⟨_,rfl,_,rfl,_,_,rfl,rfl,_,rfl,?_⟩
     by_cases c1:((p.2.filter fun q=>decide (q.2=u)).length:Int)<b
     ·rw [decide_eq_true c1] at eo ⊢
      refine iteT ⟨_,rfl,(by walk_at "ln"),fun z hz=>?_⟩
      have k16:Kp [] H15 (upd H15 z (.lst [])):=Kp.new Kp.refl hz
      have h16:upd H15 z (.lst []) z=some (.lst []):=upd_same
      generalize upd H15 z (.lst [])=H16 at k16 h16
      refine zG1 (SqL.of (k16 _ _ hB15 (by simp))) (SqL.of h16) ⟨_,rfl,?_⟩
      rw [nil_map]
      by_cases c2:(p.2.filter fun q=>decide (n∈L q.1)&&decide (u<=q.2)).isEmpty=true
      ·rw [c2] at eo ⊢
       refine iteT ⟨_,rfl,(by walk_at "ln"),fun y hy=>?_⟩
       have k17:Kp [] H16 (upd H16 y (.lst [])):=Kp.new Kp.refl hy
       have h17:upd H16 y (.lst []) y=some (.lst []):=upd_same
       generalize upd H16 y (.lst [])=H17 at k17 h17
       refine zG1 (SqL.of ((k16.trans k17) _ _ hY15 (by simp))) (SqL.of h17) ⟨_,rfl,?_⟩
       rw [nil_map]
       have k617:=k615.trans (k16.trans k17)
       refine ite2 (fun c3=>?_) (fun c3=>?_)
       ·rw [c3] at eo
        have eo:okA b L p.2 n u=true:=eo
        have hp17:=k617 _ _ hp6 (by simp)
        refine ⟨_,rfl,_,_,rfl,.inl hp17,fun x hx=>?_⟩
        have fx:Fre H17 x:=hx
        have k18:Kp [] H17 (upd H17 x (.dK (kvA p.2))):=Kp.new Kp.refl hx
        have h18:upd H17 x (.dK (kvA p.2)) x=some (.dK (kvA p.2)):=upd_same
        generalize upd H17 x (.dK (kvA p.2))=H18 at k18 h18
        refine ⟨_,rfl,_,rfl,_,rfl,_,_,rfl,DPut.k (k:=Sum.inr n) h18 (by rw [ek];omega),?_⟩
        have ep:putK (kvA p.2) (Sum.inr n) (.int u)=kvA (p.2++[(n,u)]):=by
         rw [zDy _ (val_kvN nip)]
         unfold kvA
         rw [List.map_append];rfl
        rw [ep]
        have k19:Kp [] H17 (upd H18 x (.dK (kvA (p.2++[(n,u)])))):=Kp.new k18 fx
        have h19:upd H18 x (.dK (kvA (p.2++[(n,u)]))) x=some (.dK (kvA (p.2++[(n,u)]))):=upd_same
        generalize upd H18 x (.dK (kvA (p.2++[(n,u)])))=H19 at k19 h19
        have k619:=k617.trans k19
        have A19:=A6.kp0 k619
        have nxl:x≠lg:=zBe h19 A19.top (fun z=>nomatch z)
        refine ⟨_,rfl,.inl ⟨rfl,_,SqL.of A19.top⟩,_,rfl,_,_,_,rfl,rfl,A19.top,by rw [List.length_map];omega,?_⟩
        refine ⟨qs'++[(x,p.2++[(n,u)])],_,_,_,_,_,rfl,Kp.put (k6.trans (k619.weak (by simp))) (by simp),⟨by rw [upd_same,List.map_append];rfl,fun q hq=>?_,fun q hq=>?_⟩,by rw [List.map_append,qsn true eo,eq',if_pos rfl,List.append_assoc];rfl,by rw [List.length_append,List.length_singleton];omega⟩
        ·rcases List.mem_append.mp hq with y| y
         ·rw [upd_ne (zBe (A19.row q y) A19.top (fun z=>nomatch z))];exact A19.row q y
         ·rw [List.mem_singleton.mp y,upd_ne nxl];exact h19
        ·rcases List.mem_append.mp hq with y| y
         ·exact A19.fr q y
         ·rw [List.mem_singleton.mp y]
          have f4:Fre H4 x:=(k6.trans (k617.weak (by simp))).fre fx (nm1 nxl)
          exact k04.fre f4 (by simp)
       ·exact stay H17 _ _ _ _ k617 (by rw [eo,Bool.eq_false_iff.mpr c3];rfl)
      ·rw [Bool.eq_false_iff.mpr c2] at eo ⊢
       exact iteF (iteF (stay H16 _ _ _ _ (k615.trans k16) eo))
     ·rw [decide_eq_false c1] at eo ⊢
      exact iteF (iteF (stay H15 _ _ _ _ k615 eo))
    ·rintro σ H6 ⟨qs',o8,o9,o10,o11,o12,rfl,k6,A6,eq',ql'⟩
     refine ⟨qs',_,_,_,_,_,_,rfl,k6,A6,?_,by omega⟩
     rw [eq',eq,zAi epj,List.map_append]
     unfold extF
     rw [List.flatMap_append]
     show _=_++(_++[])
     rw [List.append_nil]
   ·rintro σ H5 ⟨qs,o7,o8,o9,o10,o11,o12,rfl,k5,A5,eq,ql⟩
    rw [List.length_map,List.take_length,ep] at eq
    refine ⟨_,rfl,lg,qs,_,_,_,_,_,_,_,_,rfl,fun x u e _=>keep k5 x u (k3 x u e (by simp)),A5,?_⟩
    rw [eq,zAi en]
    unfold zDp
    rw [List.foldl_append];rfl
  ·rintro σ H3 ⟨fo,ps,o5,o6,o7,o8,o9,o10,o11,o12,rfl,k3,A3,ep⟩
   rw [List.length_map,List.take_length] at ep
   refine ⟨_,rfl,_,_,rfl,.inl (SqL.of A3.top),?_⟩
   have:(ps.map fun p=>V.ref p.1).length=(zDp b L t ns).length:=by rw [<-ep,List.length_map,List.length_map]
   rw [this]
   exact k H3 k3
end
theorem DGet.zT {H:Hp} {a b:Addr} {kvs:List (List Key×V)} {k:List Key} {o:Obj} (e:H a=some (.frz o (.dT kvs))) (eb:H b=some (.tup (k.map kV))):DGet H a (.ref b) (valV kvs k):=.inr ⟨kvs,k,b,.inr ⟨o,e⟩,rfl,eb,rfl⟩
section
variable {P:Program} {w:World} {K:PySem.W.Frag} {mg:Str->Option Value} {base:Heap}
def zFv (J:JR) (b:Int) (n:Nat):List V:=(List.range n).map fun i=>V.int (cntF J b i)
theorem dues_more (J:JR) (b:Int) (n:Nat):zFv J b (n+1)=zFv J b n++[.int (cntF J b n)]:=by unfold zFv;rw [List.range_succ,List.map_append];rfl
theorem dues_len (J:JR) (b:Int) (n:Nat):(zFv J b n).length=n:=by unfold zFv;rw [List.length_map,List.length_range]
def spBySets:Sp:=fun vs H Q _=>∃(l d:Addr) (b:Int) (t:Nat) (J:JR) (la:Str->Addr) (L:Str->List Str),vs=[.ref l,.ref d,.int b,.int t]/\Txs H l J.ns/\DR H d J.ns la L/\J.ns.Nodup/\J.ns.length<=7/\t<=41/\(∀n∈J.ns,∀x∈J.ns,x∈L n↔n∈J.S x) /\
 ∀(du:Addr) (H':Hp),H' du=some (.lst (zFv J b (t+1)))->Fre H du->Kp [] H H'->Q (.ref du) H'
abbrev zEn:Stmt:=top 55
theorem zBc:FnScope ["_law_names_here", "_law_behind_here", "_law_benches_here", "_law_turns", "_law_before_here", "_law_ways", "_law_dues", "_law_turn", "_law_more", "_law_done", "_law_row", "_law_then"] ["_law_names_here", "_law_behind_here", "_law_benches_here", "_law_turns"] (zAe zEn):=⟨rfl,rfl,rfl,by decide +kernel,rfl,by decide +kernel,by decide +kernel⟩
theorem ok_by_sets {f:Addr} {fd:FuncData} (F:Fun K "_law_by_sets" "_law_by_sets" zEn f fd) (T:Txt K mg) (C_before:Cal P w K mg base "_law_before" 1 ["_law_names_here", "_law_behind_here"] spBefore) (C_rows:Cal P w K mg base "_law_rows" 1 ["_law_free_here", "_law_benches_here"] spRows) (C_free:Cal P w K mg base "_law_free" 1 ["_law_before_here", "_law_done"] spFree):FnOk P w K mg base CX0 2 f fd ["_law_names_here", "_law_behind_here", "_law_benches_here", "_law_turns"] spBySets:=by
 refine F.ok zBc (fun vs H Q E h=>?_) (fun cdv A outer s H vs Q E hr h=>?_)
 ·obtain ⟨l,d,b,t,J,la,L,rfl,_⟩:=h
  rfl
 ·obtain ⟨l,d,b,t,J,la,L,rfl,hl,D0,nd,few,ht,hLS,k⟩:=h
  have hu:=zEy hr
  refine ⟨_,(zAb (zAj (i:=4) zBc.nd rfl (by walk_at "lc") (zAg C_before hr rfl (zAa (pv 0) (zAa (pv 1) zAc))))
   (zAb (zAj (i:=5) zBc.nd rfl (by walk_at "lc") (pe_disp1 hu (zDl zAc) zAf))
   (zAb (zAj (i:=6) zBc.nd rfl (by walk_at "lc") (zA0 (zAa (zEp hu (pv 5) (zAq zBy (by rfl) T.z_tuple zE3 (zAa (pv 0) zAc)) zAf ⟨rfl,rfl,rfl,rfl⟩) zAc)))
   (zAb (zAx PassesOwn.never rfl (zB4 rfl T.z_range (zAa (pv 3) zAc)) (zAh (i:=7) zBc.nd rfl (by walk_at "lc"))
    (zAb (zAj (i:=8) zBc.nd rfl (by walk_at "lc") zIg)
    (zAb (ps_frzT (zAx PassesOwn.never rfl (pi_keysT (pv 5)) (zAh (i:=9) zBc.nd rfl (by walk_at "lc"))
     (zAd (zAx PassesOwn.never rfl (zAm (zAg C_rows hr rfl (zAa (zAg C_free hr rfl (zAa (pv 4) (zAa (pv 9) zAc))) (zAa (pv 2) zAc)))) (zAh (i:=10) zBc.nd rfl (by walk_at "lc"))
      (zAb (zAj (i:=11) zBc.nd rfl (by walk_at "lc") (zAq zBy (by rfl) T.z_tuple zE3 (zAa (zBh rfl (zBj (sc:=zAe zEn) rfl (by decide +kernel)) (Draws.own (x:= "_law_name") (Draws.tk (i:=9) rfl (by walk_at "vs") (by walk_at "vk") (by walk_at "vf") (Draws.tk (i:=10) rfl (by walk_at "vs") (by walk_at "vk") (by walk_at "vf") Draws.nil))) (zAm (pv 0)) (fun C s₀ H₀ ex=>(zAh (i:=0) (show List.Nodup (["_law_name", "_law_done", "_law_row"]:List Str) by decide +kernel) rfl (by walk_at "lc"))) (fun C s₀ H₀ ex=>(zBr (PW.pt (pw_or (zAn (zC1 (K:=K)) (pv 0) (pv 1) (by rfl)) (zHn (zAn (zC1 (K:=K)) (pv 0) (pv 2) (by rfl))))))) (fun C s₀ H₀ ex=>(pv 0))) zAc)))
      (zAd (zB9 hu (pv 8) (pv 11) (zAp zCa (zEp hu (pv 8) (pv 11) zAf ⟨rfl,rfl,rfl,rfl⟩) (zBa hu (pv 5) (pv 9) (fun _ _=>rfl))) rfl)))))))
    (zAb (zAj (i:=5) zBc.nd rfl (by walk_at "lc") (pv 8))
    (zAd (zA4 (zEq PySem.F.plainAttrs_list PySem.F.slot_list_append PySem.F.type_list_append zB5 (pv 6) (zAa (zEp hu (pv 5) (zAq zBy (by rfl) T.z_tuple zE3 (zAa (pv 0) zAc)) zAf ⟨rfl,rfl,rfl,rfl⟩) zAc))))))))
   (zAd (zAs (pv 6))))))),?_⟩
  have hs:=sizeLine_eq
  have wl:∀A:WL,(wV A).length=A.length:=fun A=>List.length_map _
  refine ⟨_,rfl,_,rfl,l,d,J.ns,la,L,rfl,hl,D0,nd,by omega,fun bf na H1 N1 k1=>?_⟩
  have N1:NR H1 bf J.ns na (fun n=>J.ns.filter fun m=>decide (m∈J.S n)):=⟨N1.top,fun n hn=>by
   have:=N1.row n hn
   have e:ahL J.ns L n=J.ns.filter fun m=>decide (m∈J.S n):=List.filter_congr fun o ho=>decide_eq_decide.mpr (hLS o ho n hn)
   rw [e] at this;exact this⟩
  refine fun p hp=>?_
  have fp:Fre H1 p:=hp
  have k2:Kp [] H1 (upd H1 p (.dT [])):=Kp.new Kp.refl hp
  have hp2:upd H1 p (.dT []) p=some (.dT []):=upd_same
  generalize upd H1 p (.dT [])=H2 at k2 hp2
  refine ⟨(by walk_at "ln"),fun t0 ht0=>?_⟩
  have k3:Kp [] H2 (upd H2 t0 (.tup [])):=Kp.new Kp.refl ht0
  have ht3:upd H2 t0 (.tup []) t0=some (.tup []):=upd_same
  have hp3:=k3 _ _ hp2 (by simp)
  generalize upd H2 t0 (.tup [])=H3 at k3 ht3 hp3
  refine ⟨[],t0,.int 1,rfl,hp3,ht3,?_⟩
  have k4:Kp [] H1 (upd H3 p (.dT [([],.int 1)])):=Kp.new (k2.trans k3) hp
  have hp4:upd H3 p (.dT [([],.int 1)]) p=some (.dT (wV (wayF J b 0))):=upd_same
  generalize upd H3 p (.dT [([],.int 1)])=H4 at k4 hp4
  have hl4:=(k1.trans k4) l _ hl (by simp)
  refine ⟨_,rfl,p,rfl,.inr ⟨_,.inl hp4⟩,_,rfl,l,_,rfl,.inl ⟨SqL.of hl4,fun tp htp=>?_⟩⟩
  have k5:Kp [] H4 (upd H4 tp (.tup (J.ns.map V.str))):=Kp.new Kp.refl htp
  have h5:upd H4 tp (.tup (J.ns.map V.str)) tp=some (.tup (J.ns.map V.str)):=upd_same
  generalize upd H4 tp (.tup (J.ns.map V.str))=H5 at k5 h5
  have hp5:=k5 _ _ hp4 (by simp)
  refine ⟨_,DGet.t (k:=kyS J.ns) hp5 (by rw [zCk];exact h5),?_⟩
  rw [get_wV]
  refine ⟨(by walk_at "ln"),fun du hdu=>?_⟩
  have k15:=k4.trans k5
  have fdu:Fre H1 du:=k15.fre hdu (by simp)
  have k6:Kp [] H5 (upd H5 du (.lst [.int (getW (wayF J b 0) J.ns)])):=Kp.new Kp.refl hdu
  have hdu6:upd H5 du (.lst [.int (getW (wayF J b 0) J.ns)]) du=some (.lst (zFv J b 1)):=upd_same
  generalize upd H5 du (.lst [.int (getW (wayF J b 0) J.ns)])=H6 at k6 hdu6
  refine ⟨_,rfl,_,rfl,by omega,by omega,zBo (lo:=0) (n:=t) (fun i σ H7=>∃(p:Addr) (o7 o8 o9 o10 o11:Option V),σ=[some (.ref l),some (.ref d),some (.int b),some (.int t),some (.ref bf),some (.ref p),some (.ref du),o7,o8,o9,o10,o11]/\Kp [] H1 H7/\H7 p=some (.dT (wV (wayF J b i)))/\H7 du=some (.lst (zFv J b (i+1)))/\Fre H1 p) ⟨p,none,none,none,none,none,rfl,k15.trans k6,k6 _ _ hp5 (by simp),hdu6,fp⟩ ?_ ?_⟩
  ·rintro t' σ H7 hi ⟨p,o7,o8,o9,o10,o11,rfl,k7,hp7,hdu7,fp⟩
   have hl7:=(k1.trans k7) l _ hl (by simp)
   have N7:=N1.kp0 k7
   have hkl:(wayF J b t').length<=128:=way_few few
   refine fun mo hmo=>?_
   have fmo:Fre H7 mo:=hmo
   have nmp:mo≠p:=fun e=>by rw [e] at fmo;exact absurd hp7 (by rw [show H7 p=none from fmo];exact fun z=>nomatch z)
   have k9:Kp [] H7 (upd H7 mo (.dT [])):=Kp.new Kp.refl fmo
   have hm9:upd H7 mo (.dT []) mo=some (.dT []):=upd_same
   have hp9:=k9 _ _ hp7 (by simp)
   generalize upd H7 mo (.dT [])=H9 at k9 hm9 hp9
   refine ⟨p,_,hp9,fun o=>?_⟩
   have kf:Kp [p] H7 (upd H9 p (.frz o (.dT (wV (wayF J b t'))))):=(k9.weak (by simp)).trans (Kp.put Kp.refl (by simp))
   refine ⟨_,rfl,p,o,_,rfl,upd_same,for_keysT (fun i σ H11=>∃(A:WL) (o9 o10 o11:Option V),σ=[some (.ref l),some (.ref d),some (.int b),some (.int t),some (.ref bf),some (.ref p),some (.ref du),some (.int (0+t')),some (.ref mo),o9,o10,o11]/\Kp [p] H7 H11/\H11 p=some (.frz o (.dT (wV (wayF J b t'))))/\H11 mo=some (.dT (wV A))/\A=((wayF J b t').take i).foldl (zH2 J b) []/\A.length<=128*i)
    ⟨[],o9,o10,o11,rfl,kf,upd_same,(upd_ne nmp).trans hm9,rfl,Nat.le_refl _⟩ (fun i σ H11 _ ⟨_,_,_,_,_,_,h,_⟩=>h) ?_ ?_⟩
   ·rintro i kk v σ H11 bb hv ⟨A0,o9,o10,o11,rfl,k11,hp11,hm11,eA,ll⟩ hbb
    unfold wV at hv
    rw [List.getElem?_map] at hv
    obtain ⟨e,ee,ekv⟩:=Option.map_eq_some_iff.mp hv
    cases ekv
    have hi:i<(wayF J b t').length:=(List.getElem?_eq_some_iff.mp ee).1
    have me:=List.mem_of_getElem? ee
    have hbb':=hbb
    rw [zCk] at hbb
    have N11:NR H11 bf J.ns na (fun n=>J.ns.filter fun m=>decide (m∈J.S n)):=N7.kp k11 (nm1 (fun z=>by rw [<-z] at fp;exact absurd N1.top (by rw [show H1 bf=none from fp];exact fun z=>nomatch z))) (fun n hn=>zIn (N7.row n hn) hp7 (fun z=>nomatch z))
    have hfl:(zEh J e.1).length<=7:=Nat.le_trans (List.length_filter_le _ _) few
    refine ⟨_,rfl,_,rfl,bf,bb,J,e.1,na,rfl,N11,hbb,by omega,fun fr H12 hfr k12=>?_⟩
    refine ⟨_,rfl,fr,b,zEh J e.1,rfl,hfr,hfl,fun ra ps H13 R13 ep k13=>?_⟩
    have k23:=k12.trans k13
    have hm13:=k23 _ _ hm11 (by simp)
    have hp13:=k23 _ _ hp11 (by simp)
    have hb13:=k23 _ _ hbb (by simp)
    have k83:Kp [p] H7 H13:=k11.trans (k23.weak (by simp))
    have hl13:=k83 l _ hl7 (zIn hl7 hp7 (fun z=>nomatch z))
    have S2:ps.map (fun q=>(q.2,nowF J.ns e.1 q.2))=zAz J b e.1:=by unfold zAz;rw [<-ep,List.map_map];rfl
    have epl:ps.length=(zAz J b e.1).length:=by rw [<-S2,List.length_map]
    have hpl:ps.length<=128:=by rw [epl];exact zE6 few
    refine ⟨_,rfl,⟨_,SqL.of R13.top⟩,zAy (xs:=ps.map fun p=>V.ref p.1) (fun q σ H14=>∃(A:WL) (o10 o11:Option V),σ=[some (.ref l),some (.ref d),some (.int b),some (.int t),some (.ref bf),some (.ref p),some (.ref du),some (.int (0+t')),some (.ref mo),some (.ref bb),o10,o11]/\Kp [mo] H13 H14/\H14 mo=some (.dT (wV A))/\A=((zAz J b e.1).take q).foldl (fun A s=>addW A s.2 e.2) A0/\A.length<=128*i+q)
     ⟨A0,o10,o11,rfl,Kp.refl,hm13,rfl,ll⟩ (fun q σ H14 _ ⟨_,_,_,_,k14,_⟩=>SqL.of (k14 _ _ R13.top (zIn R13.top hm13 (fun z=>nomatch z)))) ?_ ?_⟩
    ·rintro q v σ H14 hv ⟨A1,o10,o11,rfl,k14,hm14,eA1,ll⟩
     obtain ⟨pr,epq,rfl⟩:=rw_at hv
     have mp:=List.mem_of_getElem? epq
     have hq:q<ps.length:=(List.getElem?_eq_some_iff.mp epq).1
     have eS:(zAz J b e.1)[q]?=some (pr.2,nowF J.ns e.1 pr.2):=by rw [<-S2,List.getElem?_map,epq];rfl
     have hrow:=k14 _ _ (R13.row pr mp) (zIn (R13.row pr mp) hm13 (fun z=>nomatch z))
     have hb14:=k14 _ _ hb13 (zIn hb13 hm13 (fun z=>nomatch z))
     have hl14:=k14 _ _ hl13 (zIn hl13 hm13 (fun z=>nomatch z))
     have hp14:=k14 _ _ hp13 (nm1 nmp.symm)
     refine ⟨_,rfl,_,rfl,⟨_,SqL.of hl14⟩,fun Y hY=>zBb (J.ns.map V.str) (fun j ys τ H15=>(∃o0,τ=[o0,some (.ref bb),some (.ref pr.1)])/\ys=((J.ns.take j).filter fun n=>decide (n∈e.1)||decide (n∈pr.2)).map V.str/\H15=upd H14 Y (.lst ys)) ⟨⟨_,rfl⟩,rfl,rfl⟩ (fun j ys τ H15 ⟨_,_,z⟩=>by subst z;exact SqL.of ((Kp.new (M:=[]) Kp.refl hY) _ _ hl14 (by simp))) ?_ ?_⟩
     ·rintro j v ys τ H15 hv ⟨⟨o0,rfl⟩,rfl,rfl⟩
      obtain ⟨n,en,rfl⟩:=zBm hv
      have kY:Kp [] H14 (upd H14 Y (.lst (((J.ns.take j).filter fun n=>decide (n∈e.1)||decide (n∈pr.2)).map V.str))):=Kp.new Kp.refl hY
      refine ⟨_,rfl,_,rfl,_,_,rfl,.inr (SqT.of (kY _ _ hb14 (by simp))),rfl,zBi _,_,rfl,?_⟩
      rw [if_neg (by decide),zCl]
      by_cases c1:n∈e.1
      ·rw [decide_eq_true c1]
       refine iteT (iteT ?_)
       refine ⟨_,rfl,upd_same,by rw [List.length_map];exact zBk (by omega),⟨_,rfl⟩,?_,zBg⟩
       rw [zBf (p:=fun n=>decide (n∈e.1)||decide (n∈pr.2)) en (by simp [c1]),List.map_append];rfl
      ·rw [decide_eq_false c1]
       refine iteF ?_
       refine ⟨_,rfl,_,rfl,_,_,rfl,.inl (SqL.of (kY _ _ hrow (by simp))),rfl,zBi _,_,rfl,?_⟩
       rw [if_neg (by decide),zCl]
       refine ite2 (fun c=>?_) (fun c=>?_)
       ·refine ⟨_,rfl,upd_same,by rw [List.length_map];exact zBk (by omega),⟨_,rfl⟩,?_,zBg⟩
        rw [zBf (p:=fun n=>decide (n∈e.1)||decide (n∈pr.2)) en (by rw [c];simp),List.map_append];rfl
       ·refine ⟨⟨_,rfl⟩,?_,rfl⟩
        rw [zBn (p:=fun n=>decide (n∈e.1)||decide (n∈pr.2)) en (by simpa [c1] using c)]
     ·rintro ys τ H15 ⟨_,rfl,rfl⟩
      rw [List.length_map,List.take_length,show (J.ns.filter fun n=>decide (n∈e.1)||decide (n∈pr.2))=nowF J.ns e.1 pr.2 from rfl]
      have kY:Kp [] H14 (upd H14 Y (.lst ((nowF J.ns e.1 pr.2).map V.str))):=Kp.new Kp.refl hY
      have hY5:upd H14 Y (.lst ((nowF J.ns e.1 pr.2).map V.str)) Y=some (.lst ((nowF J.ns e.1 pr.2).map V.str)):=upd_same
      generalize upd H14 Y (.lst ((nowF J.ns e.1 pr.2).map V.str))=H15 at kY hY5
      refine ⟨Y,(nowF J.ns e.1 pr.2).map V.str,rfl,.inl ⟨SqL.of hY5,fun tn htn=>?_⟩⟩
      have kn:Kp [] H15 (upd H15 tn (.tup ((nowF J.ns e.1 pr.2).map V.str))):=Kp.new Kp.refl htn
      have hn6:upd H15 tn (.tup ((nowF J.ns e.1 pr.2).map V.str)) tn=some (.tup ((kyS (nowF J.ns e.1 pr.2)).map kV)):=by rw [zCk];exact upd_same
      generalize upd H15 tn (.tup ((nowF J.ns e.1 pr.2).map V.str))=H16 at kn hn6
      have k46:=kY.trans kn
      have hm16:=k46 _ _ hm14 (by simp)
      have hp16:=k46 _ _ hp14 (by simp)
      have hb16:=k46 _ _ hb14 (by simp)
      have nd1:(A1.map (·.1)).Nodup:=by rw [eA1,eA];exact zEt _ _ (zF1 _ _ List.nodup_nil)
      have g5:=DGet.zT (k:=kyS e.1) hp16 (by rw [zCk];exact hb16)
      rw [val_wV,if_pos (List.mem_map.mpr ⟨e,me,rfl⟩),zIt (wayF_nd J b t') me] at g5
      refine ⟨_,rfl,mo,rfl,.inr ⟨_,.inl hm16⟩,_,rfl,_,DGet.t (k:=kyS (nowF J.ns e.1 pr.2)) hm16 hn6,?_⟩
      rw [get_wV]
      refine ⟨_,rfl,_,rfl,_,_,rfl,g5,_,_,rfl,rfl,_,rfl,_,rfl,_,_,rfl,DPut.t (k:=kyS (nowF J.ns e.1 pr.2)) hm16 hn6 (by rw [wl];omega),?_⟩
      rw [put_wV nd1]
      refine ⟨addW A1 (nowF J.ns e.1 pr.2) e.2,_,_,rfl,Kp.put (k14.trans (k46.weak (by simp))) (by simp),upd_same,?_,?_⟩
      ·rw [zAi eS,List.foldl_append,<-eA1];rfl
      ·have h1:=zCj (wV A1) (kyS (nowF J.ns e.1 pr.2)) (.int (getW A1 (nowF J.ns e.1 pr.2)+e.2))
       rw [put_wV nd1,wl,wl] at h1
       omega
    ·rintro σ H14 ⟨A1,o10,o11,rfl,k14,hm14,eA1,ll⟩
     rw [List.length_map] at eA1 ll
     rw [epl,List.take_length] at eA1
     refine ⟨A1,_,_,_,rfl,fun x u h n=>k14 x u (k83 x u h n) (nm1 (ne_fre fmo h)),k14 _ _ hp13 (nm1 nmp.symm),hm14,?_,by omega⟩
     rw [zAi ee,List.foldl_append,<-eA,eA1];rfl
   ·rintro σ H11 ⟨A0,o9,o10,o11,rfl,k11,hp11,hm11,eA,ll⟩
    rw [wl,List.take_length] at eA
    subst eA
    refine ⟨hp11,?_⟩
    have k12:Kp [] H7 (upd H11 p (.dT (wV (wayF J b t')))):=fun x u h _=>by
     by_cases z:x=p
     ·subst z
      rw [upd_same,<-h];exact hp7.symm
     ·rw [upd_ne z];exact k11 x u h (nm1 z)
    have hm12:upd H11 p (.dT (wV (wayF J b t'))) mo=some (.dT (wV (wayF J b (t'+1)))):=(upd_ne nmp).trans hm11
    generalize upd H11 p (.dT (wV (wayF J b t')))=H12 at k12 hm12
    have hdu12:=k12 _ _ hdu7 (by simp)
    have hl12:=k12 _ _ hl7 (by simp)
    refine ⟨_,rfl,?_⟩
    refine ⟨_,rfl,.inl ⟨rfl,_,SqL.of hdu12⟩,_,rfl,mo,rfl,.inr ⟨_,.inl hm12⟩,_,rfl,l,_,rfl,.inl ⟨SqL.of hl12,fun tp htp=>?_⟩⟩
    have k13:Kp [] H12 (upd H12 tp (.tup (J.ns.map V.str))):=Kp.new Kp.refl htp
    have h13:upd H12 tp (.tup (J.ns.map V.str)) tp=some (.tup (J.ns.map V.str)):=upd_same
    generalize upd H12 tp (.tup (J.ns.map V.str))=H13 at k13 h13
    have hm13:=k13 _ _ hm12 (by simp)
    have hdu13:=k13 _ _ hdu12 (by simp)
    refine ⟨_,DGet.t (k:=kyS J.ns) hm13 (by rw [zCk];exact h13),?_⟩
    rw [get_wV]
    refine ⟨_,_,_,rfl,rfl,hdu13,by rw [dues_len];omega,?_⟩
    have nmd:mo≠du:=zBe hm13 hdu13 (fun z=>nomatch z)
    exact ⟨mo,_,_,_,_,_,rfl,Kp.new (k7.trans (k12.trans k13)) fdu,(upd_ne nmd).trans hm13,by rw [upd_same,dues_more J b (t'+1)];rfl,k7.fre fmo (by simp)⟩
  ·rintro σ H7 ⟨p,o7,o8,o9,o10,o11,rfl,k7,hp7,hdu7,fp⟩
   exact ⟨_,rfl,k du H7 hdu7 (k1.fre fdu (by simp)) (k1.trans k7)⟩
end
structure PAI (X:Cx) (es:List Expr) (t:L2.TA):Prop where
 to:PA X es t
theorem pai_nil {X:Cx}:PAI X [] tNil:=⟨zAc⟩
theorem pai_c {X:Cx} {e:Expr} {es:List Expr} {te:TE} {t:L2.TA} (ha:PE X e te) (hr:PAI X es t) (hs:notStar e=true:=by rfl):PAI X (e::es) (tCons te t):=⟨zAa ha hr.to (star_cons hs)⟩
theorem pe_lstI {X:Cx} {es:List Expr} {t:L2.TA} {pos:Pos} (h:PAI X es t):PE X (.List es pos) (tLst t):=zA0 h.to
theorem JobsAt.put {C:Addr} {H H':Hp} {b j:Addr} {xs:List V} {J:JR} (A:JobsAt C H j J) (hb:H b=some (.lst xs)) (o:J.r≠b/\J.p≠b) (k:Kp [b] H H'):JobsAt C H' j J:=A.kp k fun a _ _ m=>by
 rw [List.mem_singleton.mp m]
 exact ⟨zBe hb A.ob (fun z=>nomatch z),o.1.symm,o.2.symm,zBe hb A.abv (fun z=>nomatch z),fun q hq=>zBe hb (A.prs.row q hq) (fun z=>nomatch z),fun n hn=>zBe hb (A.sets n hn) (fun z=>nomatch z)⟩
theorem Good.take {ns:List Str} {qs:List (List Str×Addr)} {r:Str->Nat} (G:Good ns qs r) (h:Nat):Good ns (qs.take h) r:=⟨G.nm,G.nd,G.few,Nat.le_trans (by rw [List.length_take];omega) G.qfew,fun q hq=>G.qin q (List.mem_of_mem_take hq),fun q hq=>G.rk q (List.mem_of_mem_take hq)⟩
theorem nxp_mid {t u:TS} {D:Ends} {r:V->Hp->Prop} {b c:St->Hp->Prop} {σ:St} {H:Hp} (Mid:St->Hp->Prop) (h1:∀N:St->Hp->Prop,(∀σ H,Mid σ H->N σ H)->t {D with nx:=N} σ H) (h2:∀σ H,Mid σ H->u D σ H):Ends.nx {nx:=tSeq t u D,rt:=r,bk:=b,ct:=c} σ H:=seq_mid Mid h1 h2
theorem zIu {J:JR} {b:Int} {n t:Nat} (h:t<n):atI (zFv J b n) (t:Int)=some (.int (cntF J b t)):=by
 refine atI_natc ?_
 unfold zFv
 rw [List.getElem?_map,List.getElem?_range h];rfl
structure JX where
 m:Addr
 qs:List (List Str×Addr)
 j:Addr
 J:JR
structure JxOk (C:Addr) (ns:List Str) (r:Str->Nat) (H:Hp) (e:JX):Prop where
 od:Ords H e.m e.qs
 gd:Good ns e.qs r
 jo:JobsAt C H e.j e.J
 ns:e.J.ns=ns
 zs:∀k,k∈e.J.zs.map (·.1)↔k∈e.qs.map (·.1)
theorem JxOk.kp0 {C:Addr} {ns:List Str} {r:Str->Nat} {H H':Hp} {e:JX} (E:JxOk C ns r H e) (k:Kp [] H H'):JxOk C ns r H' e:=⟨E.od.kp k (by simp) (by simp),E.gd,E.jo.kp0 k,E.ns,E.zs⟩
structure TL where
 tp:Addr
 e:JX
 b:Int
 t:Nat
 du:Addr
 n:Nat
structure TlOk (H:Hp) (x:TL):Prop where
 tp:H x.tp=some (.tup [.ref x.e.j,.int x.b,.int x.t,.ref x.du])
 du:H x.du=some (.lst (zFv x.e.J x.b x.n))
 lt:x.t<x.n
 b1:1<=x.b
 t1:x.t<=40
section
variable {P:Program} {w:World} {K:PySem.W.Frag} {mg:Str->Option Value} {base:Heap} {C:Addr}
def zHk:Sp:=fun vs H Q _=>∃p:Addr,vs=[.ref p]/\zB8 H p/\∀(b:Int) (H':Hp),1<=b->zB8 H' p->Kp [p] H H'->Q (.int b) H'
abbrev zGf:Stmt:=top 52
theorem zHm:FnScope ["_law_purse_here", "_law_way"] ["_law_purse_here"] (zAe zGf):=⟨rfl,rfl,rfl,by decide +kernel,rfl,by decide +kernel,by decide +kernel⟩
theorem ok_benches {f:Addr} {fd:FuncData} (F:Fun K "_law_benches" "_law_benches" zGf f fd) (C_take:Cal P w K mg base "_law_take" 1 ["_law_purse_here", "_law_many"] zHj):FnOk P w K mg base CX0 2 f fd ["_law_purse_here"] zHk:=by
 refine F.ok zHm (fun vs H Q E h=>?_) (fun cdv A outer s H vs Q E hr h=>?_)
 ·obtain ⟨p,rfl,_⟩:=h
  rfl
 ·obtain ⟨p,rfl,hP,k⟩:=h
  refine ⟨_,(zAb (zAj (i:=1) zHm.nd rfl (by walk_at "lc") (zAg C_take hr rfl (zAa (pv 0) (zAa zAf zAc))))
   (zAb (zCb (zAn op_eq (pv 1) zAf (zAv _))
    (zAd (zAs (zAp zCa zAf (zAg C_take hr rfl (zAa (pv 0) (zAa (zAp op_pow zAf zAf) zAc))))))
    zAw)
   (zAd (zAs (zCc zA7 (@pe_lstI _ _ _ _ (pai_c zAf (pai_c zAf (pai_c zAf (pai_c zAf (pai_c zAf (pai_c zAf (pai_c zAf pai_nil)))))))) (zAp zGq (pv 1) zAf) (fun _ _=>rfl)))))),?_⟩
  refine ⟨_,rfl,p,8,rfl,hP,by decide,by decide +kernel,fun d1 H1 x0 x1 P1 K1=>?_⟩
  refine ⟨_,rfl,rfl,_,rfl,ite2 (fun c=>?_) (fun c=>?_)⟩
  ·refine ⟨_,rfl,_,_,rfl,rfl,⟨by decide,by decide,by decide⟩,p,_,rfl,P1,by decide +kernel,by decide +kernel,fun d2 H2 y0 y1 P2 K2=>?_⟩
   exact ⟨_,_,rfl,rfl,k _ H2 (by omega) P2 (K1.trans K2)⟩
  ·have c:d1≠0:=by simpa using c
   obtain ⟨b,eb,hb⟩:∃b:Int,atI [V.int 1,.int 2,.int 3,.int 4,.int 2,.int 3,.int 7] (d1 - 1)=some (.int b)/\1<=b:=by
    have:d1=1\/d1=2\/d1=3\/d1=4\/d1=5\/d1=6\/d1=7:=by omega
    rcases this with h| h| h| h| h| h| h<;>subst h
    ·exact ⟨1,rfl,by decide⟩
    ·exact ⟨2,rfl,by decide⟩
    ·exact ⟨3,rfl,by decide⟩
    ·exact ⟨4,rfl,by decide⟩
    ·exact ⟨2,rfl,by decide⟩
    ·exact ⟨3,rfl,by decide⟩
    ·exact ⟨7,rfl,by decide⟩
   refine ⟨(by walk_at "ln"),fun z hz=>?_⟩
   have fz:Fre H1 z:=hz
   have npz:p≠z:=by obtain ⟨x,y,e,_⟩:=P1;exact ne_fre fz e
   refine ⟨_,rfl,_,_,rfl,rfl,_,_,_,_,rfl,rfl,SqL.of upd_same,eb,k b _ hb (P1.kp (M:=[]) (Kp.new Kp.refl fz) (by simp)) (Kp.new K1 (K1.fre fz (nm1 npz.symm)))⟩
abbrev s_whole:Stmt:=top 53
theorem sc_whole:FnScope ["_law_found"] ["_law_found"] (zAe s_whole):=⟨rfl,rfl,rfl,by decide +kernel,rfl,by decide +kernel,by decide +kernel⟩
theorem ok_whole {f:Addr} {fd:FuncData} (F:Fun K "_law_whole" "_law_whole" s_whole f fd) (T:Txt K mg):FnOk P w K mg base CX0 1 f fd ["_law_found"] zF9:=by
 refine F.ok sc_whole (fun vs H Q E h=>?_) (fun cdv A outer s H vs Q E hr h=>?_)
 ·obtain ⟨n,rfl,_⟩:=h
  rfl
 ·obtain ⟨n,rfl,k⟩:=h
  refine ⟨_,(zAd (zAs (pe_and (zAl zD2 (by rfl) T.z_isinstance zBl (zAa (pv 0) (zAa (zFb (by rfl) T.z_int zG6 (v:=.ty "int") rfl) zAc))) (pe_one (pe_not (zAl zD2 (by rfl) T.z_isinstance zBl (zAa (pv 0) (zAa (zFb (by rfl) T.z_bool bo_bool (v:=.ty "bool") rfl) zAc)))))))),?_⟩
  exact ⟨_,rfl,_,_,_,_,rfl,TyOf.int n,zF3,_,rfl,iteT ⟨_,rfl,_,_,_,_,rfl,TyOf.int n,kit_ib,_,rfl,k⟩⟩
def spFits (C:Addr):Sp:=fun vs H Q _=>∃(j du:Addr) (b:Int) (t n:Nat) (J:JR),vs=[.ref j,.int b,.int t,.ref du]/\JobsAt C H j J/\1<=b/\t<=40/\J.ns.length<=7/\H du=some (.lst (zFv J b n))/\t<n/\(t+1<n\/40<n)/\∀H',Kp [] H H'->Q (.bl true) H'
abbrev s_fits:Stmt:=top 56
theorem sc_fits:FnScope ["_law_jobs_here", "_law_benches_here", "_law_turns", "_law_dues", "_law_many", "_law_found"] ["_law_jobs_here", "_law_benches_here", "_law_turns", "_law_dues"] (zAe s_fits):=⟨rfl,rfl,rfl,by decide +kernel,rfl,by decide +kernel,by decide +kernel⟩
theorem ok_fits {f:Addr} {fd:FuncData} (F:Fun K "_law_fits" "_law_fits" s_fits f fd) (T:Txt K mg) (C_counted:Cal P w K mg base "counted" 7 ["jobs", "benches", "turns"] (zGb C)) (C_whole:Cal P w K mg base "_law_whole" 1 ["_law_found"] zF9):FnOk P w K mg base CX0 8 f fd ["_law_jobs_here", "_law_benches_here", "_law_turns", "_law_dues"] (spFits C):=by
 refine F.ok sc_fits (fun vs H Q E h=>?_) (fun cdv A outer s H vs Q E hr h=>?_)
 ·obtain ⟨j,du,b,t,n,J,rfl,_⟩:=h
  rfl
 ·obtain ⟨j,du,b,t,n,J,rfl,A0,hb,ht,few,hdu,hn,hn2,k⟩:=h
  have hr1:=hr.mono (j:=1) (by decide)
  refine ⟨_,(zAb (zAx PassesOwn.never rfl (zAm (zA0 (zAa (pv 2) (zAa (zAl (zG4 rfl) (by rfl) T.z_min bo_min (zAa zAf (zAa (zAp zCa (pv 2) zAf) zAc))) (zAa (zAl (zG5 rfl) (by rfl) T.z_max bo_max (zAa zAf (zAa (zAp zGq (pv 2) zAf) zAc))) zAc))))) (zAh (i:=4) sc_fits.nd rfl (by walk_at "lc"))
    (zAb (zAj (i:=5) sc_fits.nd rfl (by walk_at "lc") (zAg C_counted hr rfl (zAa (pv 0) (zAa (pv 1) (zAa (pv 4) zAc)))))
    (zAd (zCb (PW.pt (pw_or (zD5 (zD4 (zAg C_whole hr1 rfl (zAa (pv 5) zAc)))) (zHn (zAn op_ne (pv 5) (zCc zA7 (pv 3) (pv 4) (fun _ _=>rfl)) (zAv _)))))
     (zAd zBp)
     zAw))))
   (zAd (zAs pe_bl))),?_⟩
  refine ⟨_,rfl,_,rfl,_,_,rfl,rfl,_,_,rfl,_,rfl,_,_,rfl,rfl,_,_,rfl,(by walk_at "ln"),fun l hl=>?_⟩
  obtain ⟨xs,exs⟩:∃xs:List V,[V.int t,.int (if (t:Int)+1<40 then (t:Int)+1 else 40),.int (if (t:Int) - 1>0 then (t:Int) - 1 else 0)]=xs:=⟨_,rfl⟩
  rw [exs]
  have hxs:∀v∈xs,∃m:Nat,v= .int m/\m<=40/\m<n:=fun v hv=>by
   rw [<-exs] at hv
   simp only [List.mem_cons,List.not_mem_nil,or_false] at hv
   rcases hv with z| z| z
   ·exact ⟨t,z,ht,hn⟩
   ·refine ⟨if t+1<40 then t+1 else 40,?_,?_,?_⟩
    ·rw [z]
     by_cases c:t+1<40
     ·rw [if_pos c,if_pos (by omega)];rfl
     ·rw [if_neg c,if_neg (by omega)];rfl
    ·split<;>omega
    ·split<;>omega
   ·refine ⟨t - 1,?_,by omega,by omega⟩
    rw [z]
    by_cases c:(t:Int) - 1>0
    ·rw [if_pos c];congr 1;omega
    ·rw [if_neg c];congr 1;omega
  have k1:Kp [] H (upd H l (.lst xs)):=Kp.new Kp.refl hl
  have h1:upd H l (.lst xs) l=some (.lst xs):=upd_same
  generalize upd H l (.lst xs)=H1 at k1 h1
  refine ⟨_,rfl,⟨_,SqL.of h1⟩,zAy (xs:=xs) (fun i σ H2=>(∃o4 o5:Option V,σ=[some (.ref j),some (.int b),some (.int t),some (.ref du),o4,o5])/\Kp [] H1 H2) ⟨⟨_,_,rfl⟩,Kp.refl⟩ (fun i σ H2 _ ⟨_,k2⟩=>SqL.of (k2 _ _ h1 (by simp))) ?_ (fun σ H2 ⟨_,k2⟩=>k H2 (k1.trans k2))⟩
  rintro i v σ H2 hv ⟨⟨o4,o5,rfl⟩,k2⟩
  obtain ⟨m,rfl,m1,m2⟩:=hxs v (List.mem_of_getElem? hv)
  have k02:=k1.trans k2
  refine ⟨_,rfl,_,rfl,_,rfl,j,b,m,J,rfl,A0.kp0 k02,hb,m1,few,fun H3 k3=>?_⟩
  refine ⟨_,rfl,_,rfl,_,rfl,iteF ?_⟩
  refine ⟨_,rfl,_,rfl,_,rfl,_,_,_,_,rfl,rfl,SqL.of ((k02.trans k3) _ _ hdu (by simp)),zIu m2,rfl,_,rfl,?_⟩
  have enn:(!decide (V.int (cntF J b m)=V.int (cntF J b m)))=false:=by simp
  rw [enn]
  exact iteF ⟨⟨_,_,rfl⟩,k2.trans k3⟩
end
section
variable {P:Program} {w:World} {K:PySem.W.Frag} {mg:Str->Option Value} {base:Heap} {C:Addr}
def spLaw (K:PySem.W.Frag):Sp:=fun vs H Q _=>∃(a:Addr) (ns:List Int),vs=[.ref a]/\SqL K H a (ns.map V.int)/\ns.length<=63/\∀H',Q (.bl true) H'
abbrev s_law:Stmt:=top 57
theorem zB0:FnScope ["_law_script", "_law_names_here", "_law_orders", "_law_drawn", "_law_made", "_law_told", "_law_k", "_law_behind_here", "_law_purse_here", "_law_benches_here", "_law_turns", "_law_dues", "_law_plain", "_law_jobs_here", "_law_wide", "_law_many", "_law_due"] ["_law_script"] (zAe s_law):=⟨rfl,rfl,rfl,by decide +kernel,rfl,by decide +kernel,by decide +kernel⟩
theorem ok_law {f:Addr} {fd:FuncData} (F:Fun K "law" "law" s_law f fd) (T:Txt K mg) (C_cell:Cal P w K mg base "_law_cell" 1 ["_law_script", "_law_k"] (spCell K)) (C_purse:Cal P w K mg base "_law_purse" 1 ["_law_cell_here", "_law_k"] spPurse) (C_take:Cal P w K mg base "_law_take" 1 ["_law_purse_here", "_law_many"] zHj)
  (C_jobs:Cal P w K mg base "_law_jobs" 3 ["_law_purse_here", "_law_most"] spLJobs) (C_benches:Cal P w K mg base "_law_benches" 2 ["_law_purse_here"] zHk) (C_behind:Cal P w K mg base "_law_behind" 1 ["_law_names_here", "_law_orders"] spLBehind)
  (C_counted:Cal P w K mg base "counted" 7 ["jobs", "benches", "turns"] (zGb C)) (C_by_sets:Cal P w K mg base "_law_by_sets" 2 ["_law_names_here", "_law_behind_here", "_law_benches_here", "_law_turns"] spBySets) (C_by_jobs:Cal P w K mg base "_law_by_jobs" 1 ["_law_names_here", "_law_behind_here", "_law_benches_here", "_law_turns"] spByJobs) (C_fits:Cal P w K mg base "_law_fits" 8 ["_law_jobs_here", "_law_benches_here", "_law_turns", "_law_dues"] (spFits C))
  (M_Jobs:Mkr P w K mg base C "Jobs" 4 ["self", "names", "orders"] (spInit C)):FnOk P w K mg base CX0 9 f fd ["_law_script"] (spLaw K):=by
 refine F.ok zB0 (fun vs H Q E h=>?_) (fun cdv A outer s H vs Q E hr h=>?_)
 ·obtain ⟨a,ns,rfl,_⟩:=h
  rfl
 ·obtain ⟨sc,is,rfl,hS,hlen,k⟩:=h
  have hr1:=hr.mono (j:=1) (by decide)
  have hr2:=hr.mono (j:=2) (by decide)
  have hr3:=hr.mono (j:=3) (by decide)
  have hr7:=hr.mono (j:=7) (by decide)
  have HR5:Room 5 _:=hr.mono (j:=5) (by decide)
  refine ⟨_,(zAb (ps_asg (zAg C_jobs hr3 rfl (zAa (zAg C_purse hr1 rfl (zAa (zAg C_cell hr1 rfl (zAa (pv 0) (zAa zAf zAc))) (zAa zAf zAc))) (zAa zAf zAc))) (zHo rfl (zAt (zAh (i:=1) zB0.nd rfl (by walk_at "lc")) (zAt (zAh (i:=2) zB0.nd rfl (by walk_at "lc")) zC9))))
   (zAb (zAj (i:=3) zB0.nd rfl (by walk_at "lc") (zA0 (zAa (pv 2) (zAa (pe_slice sl_list (pv 2) po_none (po_some (zAp zIh (zAl zAo (by rfl) T.z_len zCt (zAa (pv 2) zAc)) zAf))) zAc))))
   (zAb (zFa (i:=4) rfl (zBj (sc:=zAe s_law) rfl (by decide +kernel)) (Draws.own (x:= "_law_some") (Draws.tk (i:=1) rfl (by walk_at "vs") (by walk_at "vk") (by walk_at "vf") Draws.nil)) (zAm (pv 3)) (fun C s₀ H₀ ex=>(zAh (i:=0) (show List.Nodup (["_law_some", "_law_names_here"]:List Str) by decide +kernel) rfl (by walk_at "lc"))) (fun C s₀ H₀ ex=>zDk) (fun C s₀ H₀ ex=>(pe_makeC M_Jobs HR5 rfl (zAa (zAq (zE1 (K:=K)) (by rfl) T.z_list zFk (zAa (pv 1) zAc)) (zAa (zAq (zE1 (K:=K)) (by rfl) T.z_list zFk (zAa (pv 0) zAc)) zAc)))) zB0.nd rfl rfl)
   (zAb (zAj (i:=5) zB0.nd rfl (by walk_at "lc") (zA0 zAc))
   (zAb (zAx PassesOwn.never rfl (pi_range2 rfl T.z_range (zAa zAf (zAa (zAl (zG5 rfl) (by rfl) T.z_max bo_max (zAa zAf (zAa (zAl (zG4 rfl) (by rfl) T.z_min bo_min (zAa zAf (zAa (zAl zAo (by rfl) T.z_len zCt (zAa (pv 0) zAc)) zAc))) zAc))) zAc))) (zAh (i:=6) zB0.nd rfl (by walk_at "lc"))
    (zAb (zAj (i:=7) zB0.nd rfl (by walk_at "lc") (zAg C_behind hr1 rfl (zAa (pv 1) (zAa (zCc zA7 (pv 3) (zAp zD6 (pv 6) zAf) (fun _ _=>rfl)) zAc))))
    (zAb (zAj (i:=8) zB0.nd rfl (by walk_at "lc") (zAg C_purse hr1 rfl (zAa (zAg C_cell hr1 rfl (zAa (pv 0) (zAa (pv 6) zAc))) (zAa (pv 6) zAc))))
    (zAb (zAj (i:=9) zB0.nd rfl (by walk_at "lc") (zAg C_benches hr2 rfl (zAa (pv 8) zAc)))
    (zAb (zAj (i:=10) zB0.nd rfl (by walk_at "lc") (zAg C_take hr1 rfl (zAa (pv 8) (zAa (zCc zA7 (zA0 (zAa zAf (zAa zAf zAc))) (zAq zDs (by rfl) T.z_int zG6 (zAa (zCh op_gt (zAl zAo (by rfl) T.z_len zCt (zAa (pv 1) zAc)) zAf (zAv _)) zAc)) (fun _ _=>rfl)) zAc))))
    (zAb (zAj (i:=11) zB0.nd rfl (by walk_at "lc") (zAg C_by_sets hr2 rfl (zAa (pv 1) (zAa (pv 7) (zAa (pv 9) (zAa (zAl (zG4 rfl) (by rfl) T.z_min bo_min (zAa zAf (zAa (zAp zCa (pv 10) zAf) zAc))) zAc))))))
    (zAb (zAj (i:=12) zB0.nd rfl (by walk_at "lc") (zCc zA7 (pv 11) (pv 10) (fun _ _=>rfl)))
    (zAb (zCb (PW.pt (zFn (zAn op_lt (zAl zAo (by rfl) T.z_len zCt (zAa (pv 1) zAc)) zAf (zAv _)) (zEd (zAn op_lt (pv 10) zAf (zAv _)))))
     (zAd (zAj (i:=12) zB0.nd rfl (by walk_at "lc") (zAg C_by_jobs hr1 rfl (zAa (pv 1) (zAa (pv 7) (zAa (pv 9) (zAa (pv 10) zAc)))))))
     zAw)
    (zAb (zCb (zAn op_ne (pv 12) (zCc zA7 (pv 11) (pv 10) (fun _ _=>rfl)) (zAv _))
     (zAd zBp)
     zAw)
    (zAb (zA4 (zEq PySem.F.plainAttrs_list PySem.F.slot_list_append PySem.F.type_list_append zB5 (pv 5) (zAa (zDl (zAa (zCc zA7 (pv 4) (zAp zD6 (pv 6) zAf) (fun _ _=>rfl)) (zAa (pv 9) (zAa (pv 10) (zAa (pv 11) zAc))))) zAc)))
    (zAb (zCb (zD5 (zD4 (zAg C_fits hr rfl (zAa (zCc zA7 (pv 4) (zAp zD6 (pv 6) zAf) (fun _ _=>rfl)) (zAa (pv 9) (zAa (pv 10) (zAa (pv 11) zAc)))))))
     (zAd zBp)
     zAw)
    (zAd (zAx PassesOwn.never rfl (zAm (pv 5)) (zHo rfl (zAt (zAh (i:=13) zB0.nd rfl (by walk_at "lc")) (zAt (zAh (i:=14) zB0.nd rfl (by walk_at "lc")) (zAt (zAh (i:=15) zB0.nd rfl (by walk_at "lc")) (zAt (zAh (i:=16) zB0.nd rfl (by walk_at "lc")) zC9)))))
     (zAd (zCb (zAn op_ne (zAg C_counted hr7 rfl (zAa (pv 13) (zAa (pv 14) (zAa (pv 15) zAc)))) (zCc zA7 (pv 16) (pv 15) (fun _ _=>rfl)) (zAv _))
      (zAd zBp)
      zAw)))))))))))))))
   (zAd (zAs pe_bl))))))),?_⟩
  have hs:=sizeLine_eq
  refine ⟨_,rfl,sc,is,0,rfl,hS,by decide,fun c0=>?_⟩
  refine ⟨c0,0,rfl,by decide,by decide,fun p0 H1 fp0 P1 k1=>?_⟩
  refine ⟨p0,7,rfl,by decide,by decide,P1,fun t l m ns qs r H2 few _ ht ft fl fm fq hl hm G _ K2=>?_⟩
  have k2:Kp [] H H2:=Kp.drop k1 fp0 K2
  have few:ns.length<=7:=by omega
  refine ⟨_,_,rfl,.inl (.inl ht),rfl,_,_,rfl,_,_,rfl,rfl,?_⟩
  refine ⟨_,rfl,_,rfl,_,rfl,_,_,rfl,.inl (SqL.of hm.top),_,_,rfl,rfl,⟨by decide,by decide⟩,_,rfl,_,_,rfl,SqL.of hm.top,fun m2 hm2=>?_⟩
  rw [cut_to _ (by omega)]
  obtain ⟨hh,ehh⟩:∃hh:Nat,(((qs.map fun q=>V.ref q.2).length:Int) / 2).toNat=hh:=⟨_,rfl⟩
  rw [ehh,<-List.map_take]
  have k3:Kp [] H2 (upd H2 m2 (.lst ((qs.take hh).map fun q=>V.ref q.2))):=Kp.new Kp.refl hm2
  have hm3:upd H2 m2 (.lst ((qs.take hh).map fun q=>V.ref q.2)) m2=some (.lst ((qs.take hh).map fun q=>V.ref q.2)):=upd_same
  generalize upd H2 m2 (.lst ((qs.take hh).map fun q=>V.ref q.2))=H3 at k3 hm3
  refine ⟨(by walk_at "ln"),fun B hB=>?_⟩
  have k4:Kp [] H3 (upd H3 B (.lst [.ref m,.ref m2])):=Kp.new Kp.refl hB
  have hB4:upd H3 B (.lst [.ref m,.ref m2]) B=some (.lst ([(m,qs),(m2,qs.take hh)].map fun e=>V.ref e.1)):=upd_same
  generalize upd H3 B (.lst [.ref m,.ref m2])=H4 at k4 hB4
  have k24:=k3.trans k4
  have hl4:=k24 _ _ hl (by simp)
  have all4:∀e∈[(m,qs),(m2,qs.take hh)],Ords H4 e.1 e.2/\Good ns e.2 r:=fun e he=>by
   rcases List.mem_cons.mp he with z| he
   ·rw [z];exact ⟨hm.kp k24 (by simp) (by simp),G⟩
   rw [List.mem_singleton.mp he]
   exact ⟨⟨k4 _ _ hm3 (by simp),fun q hq=>k24 _ _ (hm.row q (List.mem_of_mem_take hq)) (by simp),fun q hq=>hm.two q (List.mem_of_mem_take hq)⟩,G.take hh⟩
  obtain ⟨es,ees⟩:∃es,[(m,qs),(m2,qs.take hh)]=es:=⟨_,rfl⟩
  have el:es.length=2:=by rw [<-ees];rfl
  rw [ees] at hB4 all4
  have k04:=k2.trans k24
  refine ⟨_,rfl,_,rfl,⟨_,SqL.of hB4⟩,fun Y hY=>zB1 (es.map fun e=>V.ref e.1) (fun i ys τ H6=>∃es':List JX,(∃o0,τ=[o0,some (.ref l)])/\ys=es'.map (fun e=>V.ref e.j)/\es'.map (fun e=>(e.m,e.qs))=es.take i/\H6 Y=some (.lst ys)/\(∀e∈es',JobsAt C H6 e.j e.J/\e.J.ns=ns/\(∀k,k∈e.J.zs.map (·.1)↔k∈e.qs.map (·.1))/\(e.J.r≠Y/\e.J.p≠Y))/\Kp [] H4 H6) ⟨[],⟨_,rfl⟩,rfl,rfl,upd_same,(fun _ h=>nomatch h),Kp.new Kp.refl hY⟩ (fun i ys τ H6 ⟨_,_,_,_,_,_,k6⟩=>SqL.of (k6 _ _ hB4 (by simp))) ?_ ?_⟩
  ·rintro i v ys τ H6 hv ⟨es',⟨o0,rfl⟩,rfl,ed,hY6,ok6,k6⟩
   rw [List.getElem?_map] at hv
   obtain ⟨e,ee,rfl⟩:=Option.map_eq_some_iff.mp hv
   obtain ⟨od4,gd⟩:=all4 e (List.mem_of_getElem? ee)
   have od6:=od4.kp k6 (by simp) (by simp)
   have el':es'.length<=i:=by
    have:=congrArg List.length ed
    rw [List.length_map,List.length_take] at this;omega
   have hi:i<es.length:=(List.getElem?_eq_some_iff.mp ee).1
   refine ⟨_,rfl,_,_,rfl,.inl (SqL.of (k6 _ _ hl4 (by simp))),fun a1 ha1=>?_⟩
   have k7:Kp [] H6 (upd H6 a1 (.lst (ns.map V.str))):=Kp.new Kp.refl ha1
   have h17:upd H6 a1 (.lst (ns.map V.str)) a1=some (.lst (ns.map V.str)):=upd_same
   generalize upd H6 a1 (.lst (ns.map V.str))=H7 at k7 h17
   refine ⟨_,rfl,_,_,rfl,.inl (SqL.of (k7 _ _ od6.top (by simp))),fun a2 ha2=>?_⟩
   have k8:Kp [] H7 (upd H7 a2 (.lst (e.2.map fun q=>V.ref q.2))):=Kp.new Kp.refl ha2
   have h28:upd H7 a2 (.lst (e.2.map fun q=>V.ref q.2)) a2=some (.lst (e.2.map fun q=>V.ref q.2)):=upd_same
   have h18:=k8 _ _ h17 (by simp)
   generalize upd H7 a2 (.lst (e.2.map fun q=>V.ref q.2))=H8 at k8 h28 h18
   have k68:=k7.trans k8
   refine fun x dx hx hdx nxd=>?_
   have fx:Fre H8 x:=hx
   have k9:Kp [] H8 (upd (upd H8 dx (.own x)) x (.ins C dx [])):=Kp.new (Kp.new Kp.refl hdx) fx
   have hx9:(upd (upd H8 dx (.own x)) x (.ins C dx [])) x=some (.ins C dx []):=upd_same
   generalize upd (upd H8 dx (.own x)) x (.ins C dx [])=H9 at k9 hx9 ⊢
   have k69:=k68.trans k9
   have hY9:=k69 _ _ hY6 (by simp)
   refine ⟨x,dx,a1,a2,ns,e.2,r,rfl,hx9,k9 a1 _ h18 (by simp),⟨k9 a2 _ h28 (by simp),fun q hq=>k69 _ _ (od6.row q hq) (by simp),od6.two⟩,gd,fun J H10 A10 N10 ens ezs K10=>⟨rfl,?_⟩⟩
   have k610:Kp [] H6 H10:=k68.trans (Kp.drop k9 fx K10)
   have hY10:=k610 _ _ hY6 (by simp)
   have oY:J.r≠Y/\J.p≠Y:=⟨(ne_fre N10.r hY9).symm,(ne_fre N10.p hY9).symm⟩
   refine ⟨hY10,by rw [List.length_map];omega,es'++[⟨e.1,e.2,x,J⟩],⟨_,rfl⟩,by rw [List.map_append];rfl,by rw [List.map_append,ed,zAi ee];rfl,upd_same,fun e' he'=>?_,Kp.new (k6.trans k610) hY⟩
   rcases List.mem_append.mp he' with z| z
   ·obtain ⟨h1,h2,h3,h4⟩:=ok6 e' z
    exact ⟨(h1.kp0 k610).put hY10 h4 (Kp.put Kp.refl (by simp)),h2,h3,h4⟩
   ·rw [List.mem_singleton.mp z]
    exact ⟨A10.put hY10 oY (Kp.put Kp.refl (by simp)),ens,ezs,oY⟩
  rintro ys τ H6 ⟨Es,_,rfl,ed,hY6,ok6,k6⟩
  rw [List.length_map,List.take_length] at ed
  have El:Es.length=2:=by rw [<-el,<-ed,List.length_map]
  have J6:∀e∈Es,JxOk C ns r H6 e:=fun e he=>by
   obtain ⟨h1,h2,h3,h4⟩:=ok6 e he
   obtain ⟨d1,d2⟩:=all4 (e.m,e.qs) (by rw [<-ed];exact List.mem_map.mpr ⟨e,he,rfl⟩)
   exact ⟨d1.kp k6 (by simp) (by simp),d2,h1,h2,h3⟩
  have hB6:=k6 _ _ hB4 (by simp)
  rw [<-ed,List.map_map] at hB6
  have hB6:H6 B=some (.lst (Es.map fun e=>V.ref e.m)):=hB6
  have hl6:=k6 _ _ hl4 (by simp)
  have k06:=k04.trans k6
  clear ok6 all4 hB4 hm3 hm
  refine ⟨(by walk_at "ln"),fun td htd=>?_⟩
  have ftd:Fre H6 td:=htd
  have k7:Kp [] H6 (upd H6 td (.lst [])):=Kp.new Kp.refl htd
  have htd7:upd H6 td (.lst []) td=some (.lst []):=upd_same
  generalize upd H6 td (.lst [])=H7 at k7 htd7
  obtain ⟨cn,ecn,c1,c2⟩:∃c:Int,(if (if (((is.map V.int).length:Nat):Int)<4 then (((is.map V.int).length:Nat):Int) else 4)>3 then (if (((is.map V.int).length:Nat):Int)<4 then (((is.map V.int).length:Nat):Int) else 4) else 3)=c/\3<=c/\c<=4:=⟨_,rfl,by split<;>omega,by split<;>split<;>omega⟩
  refine ⟨_,rfl,_,_,rfl,.inl ((k06.trans k7).seq hS),_,_,rfl,_,_,rfl,_,_,rfl,?_,?_⟩
  ·rw [ecn];exact ⟨by decide,by decide,by omega,by omega⟩
  rw [ecn]
  refine zBo (lo:=1) (n:=(cn - 1).toNat) (fun i σ H8=>∃(ts:List TL) (o6 o7 o8 o9 o10 o11 o12 o13 o14 o15 o16:Option V),σ=[some (.ref sc),some (.ref l),some (.ref m),some (.ref B),some (.ref Y),some (.ref td),o6,o7,o8,o9,o10,o11,o12,o13,o14,o15,o16]/\Kp [] H6 H8/\H8 td=some (.lst (ts.map fun x=>V.ref x.tp))/\ts.length=i/\∀x∈ts,TlOk H8 x/\x.e∈Es/\x.du≠td) ⟨[],none,none,none,none,none,none,none,none,none,none,none,rfl,k7,htd7,rfl,(fun _ h=>nomatch h)⟩ ?_ (fun σ H8 _=>k H8)
  rintro i σ H8 hi ⟨ts,o6,o7,o8,o9,o10,o11,o12,o13,o14,o15,o16,rfl,k8,htd8,tl,T8⟩
  have hi3:i<3:=by omega
  have e3:(1+(i:Int)) % 2=(((1+i) % 2:Nat):Int):=by omega
  obtain ⟨e,he⟩:∃e,Es[(1+i) % 2]?=some e:=⟨_,List.getElem?_eq_getElem (by omega)⟩
  have me:=List.mem_of_getElem? he
  have aB:atI (Es.map fun e=>V.ref e.m) ((1+(i:Int)) % 2)=some (.ref e.m):=by rw [e3];exact atI_natc (by rw [List.getElem?_map,he];rfl)
  have aY:atI (Es.map fun e=>V.ref e.j) ((1+(i:Int)) % 2)=some (.ref e.j):=by rw [e3];exact atI_natc (by rw [List.getElem?_map,he];rfl)
  have J8:=(J6 e me).kp0 k8
  have G8:Good e.J.ns e.qs r:=by rw [J8.ns];exact J8.gd
  have hl8:Txs H8 l e.J.ns:=by rw [J8.ns];exact k8 _ _ hl6 (by simp)
  have few8:e.J.ns.length<=7:=by rw [J8.ns];exact few
  refine ⟨_,rfl,_,rfl,_,rfl,_,_,rfl,rfl,(show (0:Int)<2 by decide),_,_,_,_,rfl,rfl,SqL.of (k8 _ _ hB6 (by simp)),aB,l,e.m,e.J.ns,e.qs,rfl,hl8,J8.od,G8.nd,G8.few,by have:=G8.qfew;omega,G8.qin,fun d la L H9 D9 hL k9=>?_⟩
  have hLS:∀n∈e.J.ns,∀x∈e.J.ns,x∈L n↔n∈e.J.S x:=fun n hn x hx=>by rw [(hL n hn).2 x,S_way J8.jo G8 J8.zs hx]
  have irr:∀n∈e.J.ns,n∉L n:=fun n hn z=>by
   have:=S_rank J8.jo G8 J8.zs _ n n (Nat.le_refl _) hn ((hLS n hn n hn).mp z)
   omega
  refine ⟨_,rfl,_,rfl,sc,is,_,rfl,((k06.trans k8).trans k9).seq hS,by omega,fun c=>?_⟩
  refine ⟨_,rfl,c,_,rfl,by omega,by omega,fun pu H10 fpu P10 k10=>?_⟩
  refine ⟨_,rfl,pu,rfl,P10,fun b H11 hb P11 K11=>?_⟩
  have k911:Kp [] H9 H11:=Kp.drop k10 fpu K11
  have hl11:=(k9.trans k911) _ _ hl8 (by simp)
  refine ⟨_,rfl,(by walk_at "ln"),fun g hg=>?_⟩
  have k12:Kp [] H11 (upd H11 g (.lst [.int 41,.int 7])):=Kp.new Kp.refl hg
  have hg12:upd H11 g (.lst [.int 41,.int 7]) g=some (.lst [.int 41,.int 7]):=upd_same
  have P12:=P11.kp k12 (by simp)
  generalize upd H11 g (.lst [.int 41,.int 7])=H12 at k12 hg12 P12
  have hl12:=k12 _ _ hl11 (by simp)
  obtain ⟨mo,emo,mo1,mo2⟩:∃mo:Int,atI [V.int 41,.int 7] (if decide (((e.J.ns.map V.str).length:Int)>5)=true then 1 else 0)=some (.int mo)/\1<=mo/\mo<=41:=by
   by_cases c:((e.J.ns.map V.str).length:Int)>5
   ·rw [decide_eq_true c];exact ⟨7,rfl,by decide,by decide⟩
   ·rw [decide_eq_false c];exact ⟨41,rfl,by decide,by decide⟩
  refine ⟨_,rfl,_,_,rfl,.inl (SqL.of hl12),_,_,rfl,rfl,.inr ⟨_,rfl,_,_,_,_,rfl,rfl,SqL.of hg12,emo,pu,mo,rfl,P12,mo1,Int.lt_of_le_of_lt mo2 (by decide +kernel),fun tt H13 t0 t1 P13 K13=>?_⟩⟩
  obtain ⟨t',rfl⟩:∃n:Nat,tt=n:=⟨tt.toNat,by omega⟩
  have t40:t'<=40:=by omega
  have k913:Kp [] H9 H13:=Kp.drop k10 fpu ((K11.trans (k12.weak (by simp))).trans K13)
  have hl13:=(k9.trans k913) _ _ hl8 (by simp)
  have D13:=D9.rd.kp0 k913
  obtain ⟨n2,en2,n21,n22,n23⟩:∃n2:Nat,(if (t':Int)+1<40 then (t':Int)+1 else 40)=(n2:Int)/\n2<=40/\t'<n2+1/\(t'+1<n2+1\/40<n2+1):=by
   by_cases c:(t':Int)+1<40
   ·exact ⟨t'+1,by rw [if_pos c];rfl,by omega,by omega,.inl (by omega)⟩
   ·exact ⟨40,by rw [if_neg c];rfl,by omega,by omega,.inr (by omega)⟩
  refine ⟨_,rfl,_,rfl,_,rfl,_,rfl,_,_,rfl,rfl,_,_,rfl,l,d,b,n2,e.J,la,L,by rw [<-en2];rfl,hl13,D13,G8.nd,few8,by omega,hLS,fun du H14 hdu fdu k14=>?_⟩
  have k814:=k9.trans (k913.trans k14)
  have hl14:=k814 _ _ hl8 (by simp)
  refine ⟨_,rfl,_,rfl,_,_,_,_,rfl,rfl,SqL.of hdu,zIu n22,?_⟩
  refine nxp_mid (fun σ H15=>σ=[some (.ref sc),some (.ref l),some (.ref m),some (.ref B),some (.ref Y),some (.ref td),some (.int (1+(i:Int))),some (.ref d),some (.ref pu),some (.int b),some (.int t'),some (.ref du),some (.int (cntF e.J b t')),o13,o14,o15,o16]/\Kp [] H14 H15) (fun N hN=>?_) ?_
  ·refine ⟨_,rfl,_,_,rfl,.inl (SqL.of hl14),_,_,rfl,rfl,_,rfl,?_⟩
   by_cases c1:((e.J.ns.map V.str).length:Int)<5
   ·rw [decide_eq_true c1]
    refine iteT ⟨_,rfl,_,_,rfl,rfl,_,rfl,ite2 (fun c2=>?_) (fun c2=>?_)⟩
    ·have c2:(t':Int)<6:=by simpa using c2
     rw [List.length_map] at c1
     refine ⟨_,rfl,_,rfl,_,rfl,_,rfl,l,d,b,t',e.J.ns,la,L,rfl,hl14,D13.kp0 k14,G8.nd,by omega,by omega,fun H15 k15=>?_⟩
     rw [jobs_count G8.nd hb hLS irr]
     exact hN _ _ ⟨rfl,k15⟩
    ·exact hN _ _ ⟨rfl,Kp.refl⟩
   ·rw [decide_eq_false c1]
    exact iteF (iteF (hN _ _ ⟨rfl,Kp.refl⟩))
  rintro σ H15 ⟨rfl,k15⟩
  have enn:∀x:Int,(!decide (V.int x=V.int x))=false:=fun x=>by simp
  have hdu15:=k15 _ _ hdu (by simp)
  refine ⟨_,rfl,_,rfl,_,rfl,_,_,_,_,rfl,rfl,SqL.of hdu15,zIu n22,rfl,_,rfl,?_⟩
  rw [enn]
  refine iteF ?_
  have k815:=k814.trans k15
  have htd15:=k815 _ _ htd8 (by simp)
  refine ⟨_,rfl,.inl ⟨rfl,_,SqL.of htd15⟩,_,rfl,_,rfl,_,_,rfl,rfl,(show (0:Int)<2 by decide),_,_,_,_,rfl,rfl,SqL.of ((k8.trans k815) _ _ hY6 (by simp)),aY,_,rfl,_,rfl,_,rfl,(by walk_at "ln"),fun tp htp=>?_⟩
  have k16:Kp [] H15 (upd H15 tp (.tup [.ref e.j,.int b,.int t',.ref du])):=Kp.new Kp.refl htp
  have h16:upd H15 tp (.tup [.ref e.j,.int b,.int t',.ref du]) tp=some (.tup [.ref e.j,.int b,.int t',.ref du]):=upd_same
  generalize upd H15 tp (.tup [.ref e.j,.int b,.int t',.ref du])=H16 at k16 h16
  have htd16:=k16 _ _ htd15 (by simp)
  have hdu16:=k16 _ _ hdu15 (by simp)
  have k816:=k815.trans k16
  refine ⟨_,_,_,rfl,rfl,htd16,by rw [List.length_map];omega,?_⟩
  have ndt:du≠td:=fun z=>by
   have:=(k9.trans k913) _ _ htd8 (by simp)
   rw [z] at fdu
   rw [show H13 td=none from fdu] at this
   exact nomatch this
  have k17:Kp [td] H16 (upd H16 td (.lst (ts.map (fun x=>V.ref x.tp)++[.ref tp]))):=Kp.put Kp.refl (by simp)
  have k617:Kp [] H6 (upd H16 td (.lst (ts.map (fun x=>V.ref x.tp)++[.ref tp]))):=Kp.new (k8.trans k816) ftd
  have htd17:upd H16 td (.lst (ts.map (fun x=>V.ref x.tp)++[.ref tp])) td=some (.lst ((ts++[(⟨tp,e,b,t',du,n2+1⟩:TL)]).map fun x=>V.ref x.tp)):=by rw [upd_same,List.map_append];rfl
  have hdu17:=k17 _ _ hdu16 (nm1 ndt)
  have T17:∀x∈ts++[(⟨tp,e,b,t',du,n2+1⟩:TL)],TlOk (upd H16 td (.lst (ts.map (fun x=>V.ref x.tp)++[.ref tp]))) x/\x.e∈Es/\x.du≠td:=fun x hx=>by
   rcases List.mem_append.mp hx with z| z
   ·obtain ⟨h1,h2,h3⟩:=T8 x z
    have t1:=k816 _ _ h1.tp (by simp)
    exact ⟨⟨k17 _ _ t1 (zIn t1 htd16 (fun z=>nomatch z)),k17 _ _ (k816 _ _ h1.du (by simp)) (nm1 h3),h1.lt,h1.b1,h1.t1⟩,h2,h3⟩
   ·rw [List.mem_singleton.mp z]
    exact ⟨⟨k17 _ _ h16 (zIn h16 htd16 (fun z=>nomatch z)),hdu17,n22,hb,t40⟩,me,ndt⟩
  generalize upd H16 td (.lst (ts.map (fun x=>V.ref x.tp)++[.ref tp]))=H17 at k17 k617 htd17 hdu17 T17
  have J17:=(J6 e me).kp0 k617
  refine ⟨_,rfl,_,rfl,_,_,rfl,rfl,(show (0:Int)<2 by decide),_,_,_,_,rfl,rfl,SqL.of (k617 _ _ hY6 (by simp)),aY,_,rfl,_,rfl,_,rfl,e.j,du,b,t',n2+1,e.J,rfl,J17.jo,hb,t40,few8,hdu17,n22,n23,fun H18 k18=>⟨_,rfl,iteF ?_⟩⟩
  have htd18:=k18 _ _ htd17 (by simp)
  refine ⟨_,rfl,_,rfl,⟨_,SqL.of htd18⟩,zAy (xs:=(ts++[(⟨tp,e,b,t',du,n2+1⟩:TL)]).map fun x=>V.ref x.tp) (fun j σ H19=>(∃o13 o14 o15 o16:Option V,σ=[some (.ref sc),some (.ref l),some (.ref m),some (.ref B),some (.ref Y),some (.ref td),some (.int (1+(i:Int))),some (.ref d),some (.ref pu),some (.int b),some (.int t'),some (.ref du),some (.int (cntF e.J b t')),o13,o14,o15,o16])/\Kp [] H18 H19) ⟨⟨_,_,_,_,rfl⟩,Kp.refl⟩ (fun j σ H19 _ ⟨_,k19⟩=>SqL.of (k19 _ _ htd18 (by simp))) ?_ ?_⟩
  ·rintro j v σ H19 hv ⟨⟨o13,o14,o15,o16,rfl⟩,k19⟩
   rw [List.getElem?_map] at hv
   obtain ⟨x,ex,rfl⟩:=Option.map_eq_some_iff.mp hv
   obtain ⟨T1,mx,_⟩:=T17 x (List.mem_of_getElem? ex)
   have k79:=k18.trans k19
   have Jx:=(J6 x.e mx).kp0 (k617.trans k79)
   refine ⟨_,_,rfl,.inl (.inl (k79 _ _ T1.tp (by simp))),rfl,_,_,rfl,_,_,rfl,_,_,rfl,_,_,rfl,rfl,?_⟩
   refine ⟨_,rfl,_,rfl,_,rfl,x.e.j,x.b,x.t,x.e.J,rfl,Jx.jo,T1.b1,T1.t1,by rw [Jx.ns];exact few,fun H20 k20=>?_⟩
   refine ⟨_,rfl,_,rfl,_,_,_,_,rfl,rfl,SqL.of ((k79.trans k20) _ _ T1.du (by simp)),zIu T1.lt,rfl,_,rfl,?_⟩
   rw [enn]
   exact iteF ⟨⟨_,_,_,_,rfl⟩,k19.trans k20⟩
  ·rintro σ H19 ⟨⟨o13,o14,o15,o16,rfl⟩,k19⟩
   have k79:=k18.trans k19
   refine ⟨ts++[(⟨tp,e,b,t',du,n2+1⟩:TL)],_,_,_,_,_,_,_,_,_,_,_,rfl,k617.trans k79,k79 _ _ htd17 (by simp),by rw [List.length_append,tl];rfl,fun x hx=>?_⟩
   obtain ⟨T1,mx,nx⟩:=T17 x hx
   exact ⟨⟨k79 _ _ T1.tp (by simp),k79 _ _ T1.du (by simp),T1.lt,T1.b1,T1.t1⟩,mx,nx⟩
end
def Hd (K:PySem.W.Frag) (x q:Str) (st:Stmt) (f:Addr):Prop:=∃oc od kV dc pm an cd ct sl,K.lookup f=some ⟨oc,od,.func (PySem.W.fnOf x q (zCv st) (zCm st) (zAe st) .none kV dc pm an cd ct),sl⟩/\PySem.W.codeIn K cd q=true/\PySem.W.keepIn K (.ref f)=true
def Dft (K:PySem.W.Frag) (x:Str) (st:Stmt) (f:Addr):Prop:=PySem.W.nsIn K mainGlobals x=some (some (.ref f))/\Hd K x x st f
def nnB (K:PySem.W.Frag) (x:Str):Bool:=match PySem.W.nsIn K mainGlobals x with
 | some none=>true
 | _=>false
theorem nnB_of {K:PySem.W.Frag} {x:Str} {h:Heap} {mg:Str->Option Value} (X:K.In h) (G:h.Ns mainGlobals mg) {xs:List Str} (a:xs.all (nnB K)=true) (m:x∈xs):mg x=none:=by
 have e:=List.all_eq_true.mp a x m
 unfold nnB at e
 split at e
 ·rename_i e2
  exact PySem.W.mg_none_of X G e2
 ·cases e
theorem Hd.to {K:PySem.W.Frag} {x q:Str} {st:Stmt} {f:Addr} (t:Hd K x q st f):∃fd,Fun K x q st f fd:=by
 obtain ⟨_,_,_,_,_,_,_,_,_,l,c,k⟩:=t
 exact ⟨_,fun_mk l c k⟩
section
variable {K:PySem.W.Frag} {x q a b c d g:Str} {st:Stmt} {f:Addr} {fd:FuncData} (F:Fun K x q st f fd)
include F
theorem _root_.L2.Fun.b1 (h:∀(kV doc pm:Value) (an:Option Addr) (cdv ct u:Value),bindArgs (PySem.W.fnOf x q (zCv st) (zCm st) (zAe st) .none kV doc pm an cdv ct) ⟨[u],[]⟩=pure [(a,u)]:=by intros;rfl):zDf K fd [a] []:=F.binds fun kV doc pm an cdv ct us hl=>match us,hl with| [u],_=>h kV doc pm an cdv ct u
theorem _root_.L2.Fun.b2 (h:∀(kV doc pm:Value) (an:Option Addr) (cdv ct u v:Value),bindArgs (PySem.W.fnOf x q (zCv st) (zCm st) (zAe st) .none kV doc pm an cdv ct) ⟨[u,v],[]⟩=pure [(a,u),(b,v)]:=by intros;rfl):zDf K fd [a,b] []:=F.binds fun kV doc pm an cdv ct us hl=>match us,hl with| [u,v],_=>h kV doc pm an cdv ct u v
theorem _root_.L2.Fun.b3 (h:∀(kV doc pm:Value) (an:Option Addr) (cdv ct u v w:Value),bindArgs (PySem.W.fnOf x q (zCv st) (zCm st) (zAe st) .none kV doc pm an cdv ct) ⟨[u,v,w],[]⟩=pure [(a,u),(b,v),(c,w)]:=by intros;rfl):zDf K fd [a,b,c] []:=F.binds fun kV doc pm an cdv ct us hl=>match us,hl with| [u,v,w],_=>h kV doc pm an cdv ct u v w
theorem _root_.L2.Fun.b4 (h:∀(kV doc pm:Value) (an:Option Addr) (cdv ct u v w z:Value),bindArgs (PySem.W.fnOf x q (zCv st) (zCm st) (zAe st) .none kV doc pm an cdv ct) ⟨[u,v,w,z],[]⟩=pure [(a,u),(b,v),(c,w),(d,z)]:=by intros;rfl):zDf K fd [a,b,c,d] []:=F.binds fun kV doc pm an cdv ct us hl=>match us,hl with| [u,v,w,z],_=>h kV doc pm an cdv ct u v w z
end
section
variable {K:PySem.W.Frag} {mg:Str->Option Value} {x q:Str} {st:Stmt} {f:Addr} {fd:FuncData} {ps:List Str} {sp:Sp} {k:Nat} (P:Program) (w:World) (base:Heap)
theorem cal (g:mg x=some (.ref f)) (F:Fun K x q st f fd) (b:zDf K fd ps []) (h:FnOk P w K mg base CX0 k f fd ps sp):Cal P w K mg base x k ps sp:=⟨f,fd,g,F.kp,b,h⟩
def Dfm (K:PySem.W.Frag) (C:Addr) (m q:Str) (st:Stmt) (f:Addr):Prop:=PySem.W.findIn K (.ref C) m=some (some (.ref f))/\PySem.W.isFn K (.ref f)=true/\Hd K m q st f
theorem mth {C:Addr} {m:Str} (t:Dfm K C m q st f) (F:Fun K m q st f fd) (b:zDf K fd ps []) (h:FnOk P w K mg base CX0 k f fd ps sp):Mth P w K mg base C m k ps sp:=⟨f,fd,⟨t.1,t.2.1,F.kp⟩,b,h⟩
end
theorem all_mk {l:PySem.W.OpenLaw} {w:World} {K:PySem.W.Frag} {h:Heap} {mg:Str->Option Value} {fa:Addr} (X:K.In h) (G:h.Ns mainGlobals mg) (hfa:mg "law" = some (.ref fa)) {C f0 f1 f2 f3 f4 f5 f6 f7 f8 f9 f10 f11 f12 f13 f14 f15 f16 f17 f18 f19 f20 f21 f22 f23 f24 f25 f26 f27 f28 f29 f30 f31 f32 f33 f34 f35 f36 f37:Addr} {t_LONGEST_NAME t_MOST_JOBS t_MOST_FEW t_MOST_TURNS:Tok}
  (aC:PySem.W.nsIn K mainGlobals "Jobs" = some (some (.ref C)))
  (l0:Dft K "_law_take" s_take f0)
  (l1:Dft K "_law_purse" s_purse f1)
  (l2:Dft K "_law_cell" s_cell f2)
  (l3:Dft K "is_name" zEl f3)
  (l4:Dft K "is_one_of" zEa f4)
  (l5:Dft K "check_job" zEb f5)
  (l6:Dft K "check_names" zC7 f6)
  (l7:Dft K "check_parts" zC6 f7)
  (l8:Dft K "told_ahead" zDg f8)
  (l9:Dft K "has_all" zEm f9)
  (l10:Dft K "joined" zH9 f10)
  (l11:Dft K "all_ahead" zCg f11)
  (l12:Dfm K C "__init__" "Jobs.__init__" zBx f12)
  (l13:Dfm K C "names" "Jobs.names" zDh f13)
  (l14:Dfm K C "ahead" "Jobs.ahead" zCq f14)
  (l15:Dft K "is_whole" zE8 f15)
  (l16:Dft K "check_benches" zCf f16)
  (l17:Dft K "is_ready" zDw f17)
  (l18:Dft K "check_few" zEc f18)
  (l19:Dft K "check_turns" zC5 f19)
  (l20:Dft K "rows_of" zEk f20)
  (l21:Dft K "steps_from" zBt f21)
  (l22:Dft K "all_steps" zC8 f22)
  (l23:Dft K "ways_one_turn_on" zBw f23)
  (l24:Dft K "counted" zGe f24)
  (l25:Dft K "_law_names" zH7 f25)
  (l26:Dft K "_law_pairs" s_pairs f26)
  (l27:Dft K "_law_jobs" s_jobs f27)
  (l28:Dft K "_law_behind" zFy f28)
  (l29:Dft K "_law_benches" zGf f29)
  (l30:Dft K "_law_rows" zH8 f30)
  (l31:Dft K "_law_before" zFz f31)
  (l32:Dft K "_law_free" s_free f32)
  (l33:Dft K "_law_whole" s_whole f33)
  (l34:Dft K "_law_by_jobs" zC0 f34)
  (l35:Dft K "_law_by_sets" zEn f35)
  (l36:Dft K "_law_fits" s_fits f36)
  (l37:Dft K "law" s_law f37)
  (pg:PySem.W.plainGet K C Str.empty=true)
  (hd:PySem.W.hasDictIn K C=true)
  (po:PySem.W.plainOver K C=true)
  (sa:PySem.W.findIn K (.ref C) "__setattr__" = some (some (.builtin "object.__setattr__")))
  (mk:PySem.W.makesIn K C=true)
  (kc:PySem.W.keepIn K (.ref C)=true)
  (n_row:PySem.W.findIn K (.ref C) "row" = some none)
  (n_pairs:PySem.W.findIn K (.ref C) "pairs" = some none)
  (n_above:PySem.W.findIn K (.ref C) "above" = some none)
  (zz:List.all (α:=Str) ["len", "max", "range", "int", "str", "list", "all", "min", "dict", "bool", "abs", "reversed", "enumerate", "any", "isinstance", "sorted", "set", "tuple"] (nnB K)=true)
  (e_LONGEST_NAME:PySem.W.nsIn K mainGlobals "LONGEST_NAME" = some (some (.int 8 t_LONGEST_NAME)))
  (e_MOST_JOBS:PySem.W.nsIn K mainGlobals "MOST_JOBS" = some (some (.int 20 t_MOST_JOBS)))
  (e_MOST_FEW:PySem.W.nsIn K mainGlobals "MOST_FEW" = some (some (.int 7 t_MOST_FEW)))
  (e_MOST_TURNS:PySem.W.nsIn K mainGlobals "MOST_TURNS" = some (some (.int 40 t_MOST_TURNS)))
  :∃fd:FuncData,(∀(s:Shared) (v:Value),BindsTo s fd ⟨[v],[]⟩ [("_law_script",v)])/\∀base:Heap,K.In base->base.Ns mainGlobals mg->FnOk l.prog w K mg base CX0 9 fa fd ["_law_script"] (spLaw K):=by
 have z:∀x,x∈_->mg x=none:=fun x m=>nnB_of X G zz m
 have m:=fun (x:Str) (v:Value) (e:PySem.W.nsIn K mainGlobals x=some (some v))=>PySem.W.mg_of X G e
 obtain ⟨a,_,_,kV,dc,pm,an,cd,ct,_,u,v,k⟩:=l37
 cases hfa.symm.trans (m _ _ a)
 have T:Txt K mg:={z_len:=z _ (by decide),z_max:=z _ (by decide),z_range:=z _ (by decide),z_int:=z _ (by decide),z_str:=z _ (by decide),z_list:=z _ (by decide),z_all:=z _ (by decide),z_min:=z _ (by decide),z_dict:=z _ (by decide),z_bool:=z _ (by decide),z_abs:=z _ (by decide),z_reversed:=z _ (by decide),z_enumerate:=z _ (by decide),z_any:=z _ (by decide),z_isinstance:=z _ (by decide),z_sorted:=z _ (by decide),z_set:=z _ (by decide),z_tuple:=z _ (by decide),c_LONGEST_NAME:=⟨_,m _ _ e_LONGEST_NAME⟩,c_MOST_JOBS:=⟨_,m _ _ e_MOST_JOBS⟩,c_MOST_FEW:=⟨_,m _ _ e_MOST_FEW⟩,c_MOST_TURNS:=⟨_,m _ _ e_MOST_TURNS⟩}
 have U:JC K mg C:=⟨⟨pg,hd,po,sa⟩,n_row,n_pairs,n_above,m _ _ aC⟩
 obtain ⟨_,F0⟩:=l0.2.to
 obtain ⟨_,F1⟩:=l1.2.to
 obtain ⟨_,F2⟩:=l2.2.to
 obtain ⟨_,F3⟩:=l3.2.to
 obtain ⟨_,F4⟩:=l4.2.to
 obtain ⟨_,F5⟩:=l5.2.to
 obtain ⟨_,F6⟩:=l6.2.to
 obtain ⟨_,F7⟩:=l7.2.to
 obtain ⟨_,F8⟩:=l8.2.to
 obtain ⟨_,F9⟩:=l9.2.to
 obtain ⟨_,F10⟩:=l10.2.to
 obtain ⟨_,F11⟩:=l11.2.to
 obtain ⟨_,F12⟩:=l12.2.2.to
 obtain ⟨_,F13⟩:=l13.2.2.to
 obtain ⟨_,F14⟩:=l14.2.2.to
 obtain ⟨_,F15⟩:=l15.2.to
 obtain ⟨_,F16⟩:=l16.2.to
 obtain ⟨_,F17⟩:=l17.2.to
 obtain ⟨_,F18⟩:=l18.2.to
 obtain ⟨_,F19⟩:=l19.2.to
 obtain ⟨_,F20⟩:=l20.2.to
 obtain ⟨_,F21⟩:=l21.2.to
 obtain ⟨_,F22⟩:=l22.2.to
 obtain ⟨_,F23⟩:=l23.2.to
 obtain ⟨_,F24⟩:=l24.2.to
 obtain ⟨_,F25⟩:=l25.2.to
 obtain ⟨_,F26⟩:=l26.2.to
 obtain ⟨_,F27⟩:=l27.2.to
 obtain ⟨_,F28⟩:=l28.2.to
 obtain ⟨_,F29⟩:=l29.2.to
 obtain ⟨_,F30⟩:=l30.2.to
 obtain ⟨_,F31⟩:=l31.2.to
 obtain ⟨_,F32⟩:=l32.2.to
 obtain ⟨_,F33⟩:=l33.2.to
 obtain ⟨_,F34⟩:=l34.2.to
 obtain ⟨_,F35⟩:=l35.2.to
 obtain ⟨_,F36⟩:=l36.2.to
 have F37:=fun_mk (st:=s_law) u v k
 refine ⟨PySem.W.fnOf "law" "law" (zCv s_law) (zCm s_law) (zAe s_law) .none kV dc pm an cd ct,fun s v=>.of_eq rfl,fun B _ _=>?_⟩
 have C_take:=cal l.prog w B (m _ _ l0.1) F0 F0.b2 (ok_take F0)
 have C_purse:=cal l.prog w B (m _ _ l1.1) F1 F1.b2 (ok_purse F1 T)
 have C_cell:=cal l.prog w B (m _ _ l2.1) F2 F2.b2 (ok_cell F2 T)
 have C_is_name:=cal l.prog w B (m _ _ l3.1) F3 F3.b1 (ok_is_name F3 T)
 have C_is_one_of:=cal l.prog w B (m _ _ l4.1) F4 F4.b2 (ok_is_one_of F4 T)
 have C_check_job:=cal l.prog w B (m _ _ l5.1) F5 F5.b2 (ok_check_job F5 T C_is_one_of)
 have C_check_names:=cal l.prog w B (m _ _ l6.1) F6 F6.b1 (zHd F6 T C_is_name)
 have C_check_parts:=cal l.prog w B (m _ _ l7.1) F7 F7.b2 (zHc F7 T C_check_job)
 have C_told_ahead:=cal l.prog w B (m _ _ l8.1) F8 F8.b2 (zIi F8)
 have C_has_all:=cal l.prog w B (m _ _ l9.1) F9 F9.b2 (ok_has_all F9 T)
 have C_joined:=cal l.prog w B (m _ _ l10.1) F10 F10.b2 (ok_joined F10)
 have C_all_ahead:=cal l.prog w B (m _ _ l11.1) F11 F11.b2 (ok_all_ahead F11 T C_has_all C_joined)
 have M_Jobs:Mkr l.prog w K mg B C "Jobs" 4 ["self", "names", "orders"] (spInit C):=⟨f12,_,⟨mk,l12.1,l12.2.1,kc⟩,m _ _ aC,F12.b3,(ok_Jobs_init F12 T U C_check_names C_check_parts C_all_ahead C_told_ahead)⟩
 have M_names:=mth l.prog w B l13 F13 F13.b1 (zIk F13 T U)
 have M_ahead:=mth l.prog w B l14 F14 F14.b2 (zIl F14 T U C_check_job)
 have C_is_whole:=cal l.prog w B (m _ _ l15.1) F15 F15.b1 (ok_is_whole F15 T)
 have C_check_benches:=cal l.prog w B (m _ _ l16.1) F16 F16.b1 (zFu F16 C_is_whole)
 have C_is_ready:=cal l.prog w B (m _ _ l17.1) F17 F17.b3 (ok_is_ready F17 T U M_ahead)
 have C_check_few:=cal l.prog w B (m _ _ l18.1) F18 F18.b1 (ok_check_few F18 T U M_names)
 have C_check_turns:=cal l.prog w B (m _ _ l19.1) F19 F19.b1 (zHb F19 T C_is_whole)
 have C_rows_of:=cal l.prog w B (m _ _ l20.1) F20 F20.b2 (ok_rows_of F20 T)
 have C_steps_from:=cal l.prog w B (m _ _ l21.1) F21 F21.b3 (zIj F21 T U M_names C_is_ready C_rows_of)
 have C_all_steps:=cal l.prog w B (m _ _ l22.1) F22 F22.b2 (ok_all_steps F22 T C_steps_from)
 have C_ways_one_turn_on:=cal l.prog w B (m _ _ l23.1) F23 F23.b2 (zEf F23)
 have C_counted:=cal l.prog w B (m _ _ l24.1) F24 F24.b3 (ok_counted F24 T U M_names C_check_benches C_check_turns C_check_few C_all_steps C_ways_one_turn_on)
 have C_lnames:=cal l.prog w B (m _ _ l25.1) F25 F25.b2 (ok_names F25 T C_take)
 have C_pairs:=cal l.prog w B (m _ _ l26.1) F26 F26.b4 (ok_pairs F26 T C_take)
 have C_jobs:=cal l.prog w B (m _ _ l27.1) F27 F27.b2 (ok_jobs F27 T C_take C_lnames C_pairs)
 have C_lbehind:=cal l.prog w B (m _ _ l28.1) F28 F28.b2 (ok_behind F28 T)
 have C_benches:=cal l.prog w B (m _ _ l29.1) F29 F29.b1 (ok_benches F29 C_take)
 have C_lrows:=cal l.prog w B (m _ _ l30.1) F30 F30.b2 (ok_lrows F30 T)
 have C_before:=cal l.prog w B (m _ _ l31.1) F31 F31.b2 (ok_before F31)
 have C_free:=cal l.prog w B (m _ _ l32.1) F32 F32.b2 (ok_free F32)
 have C_whole:=cal l.prog w B (m _ _ l33.1) F33 F33.b1 (ok_whole F33 T)
 have C_by_jobs:=cal l.prog w B (m _ _ l34.1) F34 F34.b4 (ok_by_jobs F34 T)
 have C_by_sets:=cal l.prog w B (m _ _ l35.1) F35 F35.b4 (ok_by_sets F35 T C_before C_lrows C_free)
 have C_fits:=cal l.prog w B (m _ _ l36.1) F36 F36.b4 (ok_fits F36 T C_counted C_whole)
 exact ok_law F37 T C_cell C_purse C_take C_jobs C_benches C_lbehind C_counted C_by_sets C_by_jobs C_fits M_Jobs
theorem walk {l:PySem.W.OpenLaw} {q:Program} {loose:List Str} {XP:(Str->Option Value)->Heap->Prop} {YP:World->Heap->Prop} {d:DefRec} {K:Params->PySem.W.Frag} (hn:l.most=some 63) (hdf:d.params.defaults=[])
  (hY:∀(w:World) (h:Heap),YP w h->(K w.params).In h)
  (F:∀(w:World) (mg:Str->Option Value) (fa:Addr) (h:Heap),(K w.params).In h->h.Ns mainGlobals mg->mg d.name=some (.ref fa) ->
   ∃fd:FuncData,(∀(s:Shared) (u:Value),BindsTo s fd ⟨[u],[]⟩ [("_law_script",u)])/\∀base:Heap,(K w.params).In base->base.Ns mainGlobals mg->FnOk l.prog w (K w.params) mg base CX0 9 fa fd ["_law_script"] (spLaw (K w.params))) :
  PySem.W.WalkO q loose XP YP l.row.toRowW d [] (fun f vs=>PySem.call f vs) :=
 L2.walk_of (n:=63) (k:=9) (x:= "_law_script") (CX:=fun _=>CX0) (sp:=fun w=>spLaw (K w.params)) hn (by decide) hdf ⟨rfl,by decide,by decide,rfl⟩ hY F (fun _ _ a ns hl _ hS=>⟨a,ns,rfl,hS,hl,fun _=>rfl⟩) fun _ _ _ _ _ z=>z
end My
namespace PySem.W.Fast
def tw6083238712111866880:Nat:=0
def tw4919347949685003027:Nat:=0
def tw8846838292459742016:Nat:=0
def tw13534989515167927891:Nat:=0
def tw658019709044140142:Nat:=0
def tw2296062718787217847:Nat:=0
def tw11989631760523812614:Nat:=0
def tw13857933723294912231:Nat:=0
def tw3172660829551141589:Nat:=0
def tw8486554460757196087:Nat:=0
def tw6208346206778205075:Nat:=0
def tw2418898001272008975:Nat:=0
def tw15219567164903268140:Nat:=0
def tw13567237233910099309:Nat:=0
def tw9463888300909261437:Nat:=0
def tw13017206371407792525:Nat:=0
def tw14348029452149317145:Nat:=0
def tw2085740676135179657:Nat:=0
def tw18026766116791642998:Nat:=0
def tw15577693293672174934:Nat:=0
def tw10339183202412688866:Nat:=0
def tw14614289426883228023:Nat:=0
def tw15051425903020970915:Nat:=0
def tw12307438910724454666:Nat:=0
def tw4187602292832311675:Nat:=0
def tw8331880199059532776:Nat:=0
def tw14412067990340360295:Nat:=0
def tw3509532051854185310:Nat:=0
def tw3117765442474058364:Nat:=0
def tw11556166470217346689:Nat:=0
def tw9031862560654099566:Nat:=0
def tw17690938597053258797:Nat:=0
def tw14326238613077296903:Nat:=0
def tw7872522987420941876:Nat:=0
def tw12106904511935686129:Nat:=0
def tw9995399648266309621:Nat:=0
def tw3453264356788277317:Nat:=0
def tw4114987605785188341:Nat:=0
def tw10437996996198537231:Nat:=0
def tw3943443992598884364:Nat:=0
def tw627748546726411422:Nat:=0
def tw3298747657868022155:Nat:=0
def tw4322676841520365601:Nat:=0
def tw1159109354103216288:Nat:=0
def tw11445108186284000641:Nat:=0
def tw2773947949686448124:Nat:=0
def tw14077664418045408878:Nat:=0
def tw2749970548281920554:Nat:=0
def tw16768241557838890659:Nat:=0
def tw11501516206860721119:Nat:=0
def tw2072320747736103728:Nat:=0
def tw8673360335427866041:Nat:=0
def tw11405440571026337258:Nat:=0
def tw18267030001918707280:Nat:=0
def tw900883394915437871:Nat:=0
def tw11882724532444616423:Nat:=0
def tw8103708397060786092:Nat:=0
def tw4116117383456837538:Nat:=0
def tw12567707190524918337:Nat:=0
def tw14544719916179519613:Nat:=0
def tw11419607091526530509:Nat:=0
def tw2667115568877164422:Nat:=0
def tw7946491909316746542:Nat:=0
def tw9904914584747059461:Nat:=0
def tw11008221232070432300:Nat:=0
def tw1827755077895912419:Nat:=0
def tw14074761634143160972:Nat:=0
def tw368807419005141790:Nat:=0
def tw12092379254598193878:Nat:=0
def tw1074226601723624190:Nat:=0
def tw12232388223671119992:Nat:=0
def tw7134361793993104238:Nat:=0
def tw13312420418729762437:Nat:=0
def tw12971829521121628971:Nat:=0
def tw8519204963869731784:Nat:=0
def tw12291458188222212234:Nat:=0
def tw2015163902314672758:Nat:=0
def tw16270836043779866503:Nat:=0
def tw8643187982185515781:Nat:=0
def tw16729059746923178905:Nat:=0
def tw3125238672725899155:Nat:=0
def tw3286232718039504149:Nat:=0
def tw2692211898369676330:Nat:=0
def tw6035602748594567883:Nat:=0
def tw4308570416738807247:Nat:=0
def tw9634661938588438672:Nat:=0
def tw7011052244957948019:Nat:=0
def tw11640747623730473359:Nat:=0
def tw12547490639160811585:Nat:=0
def tw14437776590753873232:Nat:=0
def tw9972058109459209439:Nat:=0
def tw16372861923003292161:Nat:=0
def tw12194030766489172396:Nat:=0
def tw5585916120179151270:Nat:=0
def tw10176164922297334281:Nat:=0
def tw9291823882955854256:Nat:=0
def tw3359721859555651457:Nat:=0
def tw1291190418171415218:Nat:=0
def tw5782676259835628808:Nat:=0
def tw3860965111400968595:Nat:=0
def tw16227459687374033528:Nat:=0
def tw1494815663297783312:Nat:=0
def tw18370575773745863657:Nat:=0
def tw18099876934510545627:Nat:=0
def tw699241495284243362:Nat:=0
def tw12862372709020319028:Nat:=0
def tw4412729545468793739:Nat:=0
def tw5771464477171583697:Nat:=0
def tw16154593820745799774:Nat:=0
def tw15684944981342850735:Nat:=0
def tw13459033914265029525:Nat:=0
def tw7054271627978624091:Nat:=0
def tw15383031834959359646:Nat:=0
def tw16982990824740461301:Nat:=0
def tw710574138538012276:Nat:=0
def tw17207495645668862195:Nat:=0
def tw6306965510084778489:Nat:=0
def tw2328207561459605698:Nat:=0
def tw9075247287648296616:Nat:=0
def tw12844110834797418403:Nat:=0
def tw13386140804532666340:Nat:=0
def tw7863581306686547057:Nat:=0
def tw16266985555862702105:Nat:=0
def tw2366668510421793893:Nat:=0
def tw390445913256589275:Nat:=0
def tw13197176158846893917:Nat:=0
def tw12835010777204202295:Nat:=0
def tw5983733722482161216:Nat:=0
def tw1010467787246219549:Nat:=0
def tw4967763614968954483:Nat:=0
def tw16084748673082787538:Nat:=0
def tw11049249415756011361:Nat:=0
def tw12058488126506833508:Nat:=0
def tw12899926424463442650:Nat:=0
def tw8435524113750996205:Nat:=0
def tw2980913319019526871:Nat:=0
def tw15715187708143358350:Nat:=0
def tw666312197073947564:Nat:=0
def tw9668207460010703596:Nat:=0
def tw4000614816732298342:Nat:=0
def tw1182676848222502608:Nat:=0
def tw10626808699718730821:Nat:=0
def tw3563719442368327115:Nat:=0
def tw1696810987403555821:Nat:=0
def tw10686938453490746436:Nat:=0
def tw12534270518908620497:Nat:=0
def tw12173582384091034655:Nat:=0
def tw8853613998419277440:Nat:=0
def tw3839614367232908704:Nat:=0
def tw8518418573014324219:Nat:=0
def tw7321900943253284009:Nat:=0
def tw10533664906335581778:Nat:=0
def tw18124238631242164870:Nat:=0
def tw1700917456576674678:Nat:=0
def tw14356410462810507464:Nat:=0
def tw12904314968257176607:Nat:=0
def tw6485203190148736792:Nat:=0
def tw15965251486229617899:Nat:=0
def tw1620818933846349295:Nat:=0
def tw12571864490795609013:Nat:=0
def tw10435180920625405781:Nat:=0
def tw11678098124264192899:Nat:=0
def tw11938206972176982520:Nat:=0
def tw17796049194480456986:Nat:=0
def tw5073833346223766471:Nat:=0
def tw9472459736976815394:Nat:=0
def tw5411430938401975899:Nat:=0
def tw8145240091881749110:Nat:=0
def tw3969597100448757383:Nat:=0
def tw7023845808066242599:Nat:=0
def tw15084000830103138980:Nat:=0
def tw18270653795104169480:Nat:=0
def tw14891541059478487016:Nat:=0
def tw16886750791667352662:Nat:=0
def tw15669182836674664728:Nat:=0
def tw16256516292839457977:Nat:=0
def tw14047551198542114486:Nat:=0
def tw16999827208542017990:Nat:=0
def tw11172450116213967269:Nat:=0
def tw8002257268228180093:Nat:=0
end PySem.W.Fast
open PySem PySem.W PyProof.Rows
set_option maxRecDepth 100000 in
set_option maxHeartbeats 0 in
theorem PySem.Challenge.cw_levelbench_k85_plans_counted_holds : PySem.Challenge.rw_levelbench_k85_plans_counted.Holds := by
 w_on;o_law;k_head;(case hw=>w_witness2)
 k_fill
 refine My.walk (l:=PySem.Challenge.rw_levelbench_k85_plans_counted) rfl rfl (fun w h Y=>PySem.W.kIn_of Y) ?F
 case F =>
  intro w mg fa h KX G hmg
  refine' My.all_mk KX G hmg ?h0 ?h1 ?h2 ?h3 ?h4 ?h5 ?h6 ?h7 ?h8 ?h9 ?h10 ?h11 ?h12 ?h13 ?h14 ?h15 ?h16 ?h17 ?h18 ?h19 ?h20 ?h21 ?h22 ?h23 ?h24 ?h25 ?h26 ?h27 ?h28 ?h29 ?h30 ?h31 ?h32 ?h33 ?h34 ?h35 ?h36 ?h37 ?h38 ?h39 ?h40 ?h41 ?h42 ?h43 ?h44 ?h45 ?h46 ?h47 ?h48 ?h49 ?h50 ?h51 ?h52
  all_goals try first| k_is| exact ⟨by k_is,_,_,_,_,_,_,_,_,_,by k_is,by k_is,by k_is⟩| exact ⟨by k_is,by k_is,_,_,_,_,_,_,_,_,_,by k_is,by k_is,by k_is⟩| kernel_rfl
