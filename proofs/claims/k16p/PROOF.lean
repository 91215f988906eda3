import PyProof.Rows.All
import Wide.All
import OpenK.AllK
import Wide.FinOn
import Lean
import PyProof.EqAt
import PyProof.EqKinds
import PyProof.TupleCall
import PyProof.StrLawsTight
import PyProof.FitsReplace
import KE.KSortTup
import PyProof.TupleKey
import PyProof.SetKind
import PyProof.IsRules
import PyProof.Rows.SetFrom
import PyProof.CollectWalk
import PyProof.DictUpdate
import PyProof.AutoListH
import PyProof.SeqI3
import PyProof.EnumStmt
import PyProof.EnumMake
import PyProof.Rows.CallKwBuiltin
import PyProof.NeKinds
import PyProof.StationsW
import PyProof.ExcClass3
import PyProof.PassesOwn
import OpenK.KOwn
import PyProof.RulesAs
import PyProof.RulesDel
import KE.KIsAll
import PyProof.ExcArgsOwn
import PyProof.StrLawsIn
import PyProof.Rows.Range3
import PyProof.Rows.FStr
import PyProof.InstStoreFacts
import OpenK.KMake
import OpenK.KCls
import OpenK.KMore
import KE.KRevIter
import PyProof.Rows.SetObj
import PyProof.ReprHeads
import PyProof.StrLawsRepr
import PyProof.DictItems
import PyProof.AttrMissHeap
import PyProof.ListCopy
import KE.KDictOf
import KE.KDictSum
import PyProof.Rows.SortRev
import PyProof.Rows.IntMath
import PyProof.ReprStr
import PySem.Challenge.RW_levelbench_k16_whole_one_sign_otherwise
set_option Elab.async false
set_option linter.all false
set_option maxRecDepth 100000
namespace L2
open PySem PySem.Spec PyProof.Rows
abbrev Key:=Sum Int Str
def keyIs:Key->Value->Bool
 | .inl k,v=>Value.isInt k v
 | .inr x,v=>Value.isStrOf x v
def keyH (w:World):Key->Int
 | .inl k=>hashInt k
 | .inr x=>hashStr w x
theorem zBc:∀{k:Key} {v:Value},keyIs k v=true->(∃i t,k=Sum.inl i/\v=Value.int i t)\/(∃x t,k=Sum.inr x/\v=Value.str x t)
 | .inl i,v,h=>by
  obtain ⟨t,e⟩:=Value.isInt_shape (k:=i) (v:=v) h
  exact .inl ⟨i,t,rfl,e⟩
 | .inr x,v,h=>by
  obtain ⟨t,e⟩:=Value.isStrOf_shape (x:=x) (v:=v) h
  exact .inr ⟨x,t,rfl,e⟩
theorem keyIs_int (i:Int) (t:Tok):keyIs (.inl i) (.int i t)=true:=by simp [keyIs,Value.isInt]
theorem keyIs_str (x:Str) (t:Tok):keyIs (.inr x) (.str x t)=true:=by simp [keyIs,Value.isStrOf]
theorem key_ll (a b:Int):decide ((Sum.inl a:Key)=Sum.inl b)=(a==b):=by
 by_cases e:a=b
 ·subst e;simp
 ·have h:¬(Sum.inl a:Key)=Sum.inl b:=fun q=>e (Sum.inl.inj q)
  rw [decide_eq_false h]
  exact (beq_eq_false_iff_ne.mpr e).symm
theorem key_rr (a b:Str):decide ((Sum.inr a:Key)=Sum.inr b)=decide (a=b):=by
 by_cases e:a=b
 ·subst e;simp
 ·have h:¬(Sum.inr a:Key)=Sum.inr b:=fun q=>e (Sum.inr.inj q)
  rw [decide_eq_false h,decide_eq_false e]
theorem key_lr (a:Int) (b:Str):decide ((Sum.inl a:Key)=Sum.inr b)=false:=decide_eq_false (fun q=>nomatch q)
theorem key_rl (a:Str) (b:Int):decide ((Sum.inr a:Key)=Sum.inl b)=false:=decide_eq_false (fun q=>nomatch q)
def zB0 (prog:Program) (w:World):PySem.KeyKind prog w Key where
 is:=keyIs
 hash:=keyH w
 inj:=fun v a b ha hb=>by
  rcases zBc ha with ⟨i,t,rfl,rfl⟩| ⟨x,t,rfl,rfl⟩
  ·rcases zBc hb with ⟨j,u,rfl,e⟩| ⟨y,u,rfl,e⟩
   ·injection e with e1 _;rw [e1]
   ·exact nomatch e
  ·rcases zBc hb with ⟨j,u,rfl,e⟩| ⟨y,u,rfl,e⟩
   ·exact nomatch e
   ·injection e with e1 _;rw [e1]
 byValue:=fun k v h=>by
  rcases zBc h with ⟨i,t,rfl,rfl⟩| ⟨x,t,rfl,rfl⟩<;>rfl
 pyHash:=fun hv h=>by
  rcases zBc hv with ⟨i,t,rfl,rfl⟩| ⟨x,t,rfl,rfl⟩
  ·exact wpAny_pyHash_int h
  ·exact wpAny_pyHash_str h
 eqBool:=fun hu hv h=>by
  rcases zBc hu with ⟨i,t,rfl,rfl⟩| ⟨x,t,rfl,rfl⟩
  ·rcases zBc hv with ⟨j,u,rfl,rfl⟩| ⟨y,u,rfl,rfl⟩
   ·rw [key_ll] at h;exact wpAny_eqBool_int h
   ·rw [key_lr] at h;exact SeqAt.EqAt.int_str i t y u _ _ _ _ h
  ·rcases zBc hv with ⟨j,u,rfl,rfl⟩| ⟨y,u,rfl,rfl⟩
   ·rw [key_rl] at h;exact SeqAt.EqAt.str_int x t j u _ _ _ _ h
   ·rw [key_rr] at h;exact wpAny_eqBool_str h
 «strs»:=fun k x t v h=>by
  rcases zBc h with ⟨i,u,rfl,e⟩| ⟨y,u,rfl,e⟩
  ·exact nomatch e
  ·injection e with e1 _
   subst e1
   cases v<;>rfl
theorem mixKind_int (prog:Program) (w:World) (i:Int) (t:Tok):(zB0 prog w).is (.inl i) (.int i t)=true:=keyIs_int i t
theorem mixKind_str (prog:Program) (w:World) (x:Str) (t:Tok):(zB0 prog w).is (.inr x) (.str x t)=true:=keyIs_str x t
inductive V where
 | non| bl (b:Bool)| int (i:Int)| str (x:Str)| byt (b:Array UInt8)| flt (b:UInt64)| ref (a:Addr)| ty (n:String)
 deriving DecidableEq
def RelV:V->Value->Prop
 | .non,u=>u=Value.none
 | .bl b,u=>u=Value.bool b
 | .int i,u=>∃t,u=Value.int i t
 | .str x,u=>∃t,u=Value.str x t
 | .byt b,u=>∃t,u=Value.bytes b t
 | .flt b,u=>∃t,u=Value.float b t
 | .ref a,u=>u=Value.ref a
 | .ty n,u=>u=Value.type n
abbrev Vals:List V->List Value->Prop:=Paired RelV
theorem Vals.length {xs:List V} {us:List Value} (r:Vals xs us):xs.length=us.length:=Paired.length r
theorem Vals.get:∀{xs:List V} {us:List Value} {i:Nat} {x:V},Vals xs us->xs[i]?=some x->∃u,us[i]?=some u/\RelV x u
 | _,_,_,_,.nil,e=>by simp at e
 | _,_,0,_,.cons r _,e=>by simp at e;subst e;exact ⟨_,rfl,r⟩
 | _,_,i+1,x,.cons _ t,e=>by
  obtain ⟨u,h1,h2⟩:=Vals.get (i:=i) (x:=x) t (by simpa using e)
  exact ⟨u,by simpa using h1,h2⟩
theorem Vals.set {x:V} {u:Value} (r:RelV x u):∀{xs:List V} {us:List Value} (i:Nat),Vals xs us->Vals (xs.set i x) (us.set i u)
 | _,_,_,.nil=>.nil
 | _,_,0,.cons _ t=>.cons r t
 | _,_,i+1,.cons q t=>.cons q (Vals.set r i t)
theorem Vals.append:∀{xs ys:List V} {us ws:List Value},Vals xs us->Vals ys ws->Vals (xs++ys) (us++ws)
 | _,_,_,_,.nil,s=>s
 | _,_,_,_,.cons r t,s=>.cons r (Vals.append t s)
theorem Vals.take:∀{xs:List V} {us:List Value} (n:Nat),Vals xs us->Vals (xs.take n) (us.take n)
 | _,_,0,_=>.nil
 | _,_,_+1,.nil=>.nil
 | _,_,n+1,.cons r t=>.cons r (Vals.take n t)
theorem Vals.drop:∀{xs:List V} {us:List Value} (n:Nat),Vals xs us->Vals (xs.drop n) (us.drop n)
 | _,_,0,r=>r
 | _,_,_+1,.nil=>.nil
 | _,_,n+1,.cons _ t=>Vals.drop n t
theorem Vals.none_of:∀{xs:List V} {us:List Value} {i:Nat},Vals xs us->xs[i]?=none->us[i]?=none:=fun {xs us i} r e=>by
 have h1:=r.length
 have h2:xs.length<=i:=List.getElem?_eq_none_iff.mp e
 exact List.getElem?_eq_none_iff.mpr (by omega)
def RelO:Option V->Option Value->Prop
 | some v,some u=>RelV v u
 | none,none=>True
 | _,_=>False
def KV {κ:Type}:List (κ×V)->List (κ×Value)->Prop:=Paired fun (p:κ×V) (q:κ×Value)=>p.1=q.1/\RelV p.2 q.2
def kV:Key->V
 | .inl i=>.int i
 | .inr x=>.str x
inductive HO where
 | lst (xs:List V)
 | tup (xs:List V)
 | dK (kvs:List (Key×V))| dT (kvs:List (List Key×V))
 | set (S:Int->Bool) (n:Nat)
 | ins (C dx:Addr) (fs:List (Str×V))
 | own (x:Addr)
 | xd (fs:List (Str×V))
 | met (f x:Addr)
 | rng (lo hi:Int)
 | frz (o:Obj) (u:HO)
 | tbl (ps:Array Value)
 | ext (φ:Heap->Prop)
abbrev Hp:=Addr->Option HO
def upd (H:Hp) (a:Addr) (o:HO):Hp:=fun b=>if b=a then some o else H b
theorem upd_same {H:Hp} {a:Addr} {o:HO}:upd H a o a=some o:=by unfold upd;rw [if_pos rfl]
theorem upd_ne {H:Hp} {a b:Addr} {o:HO} (h:b≠a):upd H a o b=H b:=by unfold upd;rw [if_neg h]
theorem zDu {H:Hp} {a:Addr} {o u:HO}:upd (upd H a o) a u=upd H a u:=by
 funext b;unfold upd;split<;>rfl
theorem zBd {H:Hp} {a b:Addr} {o u:HO} (h:H a=some o) (h':H b=some u) (d:o≠u):a≠b:=by
 intro e;subst e;rw [h] at h';exact d (Option.some.inj h')
theorem zAj {H:Hp} {a b:Addr} {o:HO} (h:H a=some o) (h':H b=none):a≠b:=by
 intro e;subst e;rw [h] at h';cases h'
section
variable (P:Program) (w:World)
def zA7 (H:Hp) (h:Heap) (a:Addr):HO->Prop
 | .lst xs=>xs.length<=sizeLine/\∃(its:List Value) (n:Nat),Vals xs its/\h.get? a=some {cls:=.type "list",data:=.seq its.toArray n}
 | .tup xs=>xs.length<=sizeLine/\∃its:List Value,Vals xs its/\IsTup h a its.toArray
 | .dK kvs=>kvs.length<=sizeLine/\(a==sysModules)=false/\∃vs,KV kvs vs/\h.DictOf (zB0 P w) a vs
 | .dT kvs=>kvs.length<=sizeLine/\(a==sysModules)=false/\∃xs:List (List Key×Addr×Value),
   Paired (fun (p:List Key×V) (q:List Key×Addr×Value)=>p.1=q.1/\H q.2.1=some (.tup (p.1.map kV))/\RelV p.2 q.2.2) kvs xs /\
   ∃o es ep,h.get? a=some o/\o.ExactDict/\o.data= .dict es ep/\es.toList=xs.map (entryOfKey (tupleKind (zB0 P w)))/\(xs.map (·.1)).Nodup
 | .set S n=>h.SetOf (intKind P w) a S n
 | .ins C dx fs=>H dx=some (.own a)/\fs.length<=1000/\dx≠a/\h.get? a=some (PySem.W.instObj C dx) /\
   ∃mA,h.Ns1 dx mA/\(∀f,RelO (fs.lookup f) (mA f))/\PySem.Within mA (fs.map (·.1))
 | .own _=>∃o,h.get? a=some o
 | .xd fs=>∃mA,h.Ns1 a mA/\∀f,RelO (fs.lookup f) (mA f)
 | .rng lo hi=>∃t u v,h.get? a=some {cls:=.type "range",data:=.fields #[.int lo t,.int hi u,.int 1 v]}
 | .frz o u=>h.get? a=some o/\zA7 H h a u
 | .tbl ps=>h.get? a=some {cls:=.none,data:=.fields ps}
 | .met f x=>h.get? a=some (PySem.W.methodObj (.ref f) (.ref x))
 | .ext φ=>φ h/\(∃o,h.get? a=some o)/\∀h1 h2:Heap,φ h1->(∀o,h1.get? a=some o->h2.get? a=some o)->φ h2
def HOk (H:Hp) (h:Heap):Prop:=∀a o,H a=some o->zA7 P w H h a o
end
section
variable {P:Program} {w:World} {H H':Hp} {h h':Heap} {a:Addr} {o:HO}
theorem zA7.lt (x:zA7 P w H h a o):a<h.objs.size:=by
 cases o with
 | lst xs=>obtain ⟨_,_,_,_,e⟩:=x;exact Heap.lt_size e
 | tup xs=>obtain ⟨_,_,_,p⟩:=x;exact p.lt
 | dK kvs=>obtain ⟨_,_,_,_,o,_,_,e,_⟩:=x;exact Heap.lt_size e
 | dT kvs=>obtain ⟨_,_,_,_,o,_,_,e,_⟩:=x;exact Heap.lt_size e
 | set S n=>obtain ⟨o,_,_,_,e,_⟩:=x;exact Heap.lt_size e
 | ins C dx fs=>obtain ⟨_,_,_,e,_⟩:=x;exact Heap.lt_size e
 | own y=>obtain ⟨_,e⟩:=x;exact Heap.lt_size e
 | xd fs=>obtain ⟨_,⟨_,_,_,e,_⟩,_⟩:=x;exact Heap.lt_size e
 | rng lo hi=>obtain ⟨_,_,_,e⟩:=x;exact Heap.lt_size e
 | frz ob u=>obtain ⟨e,_⟩:=x;exact Heap.lt_size e
 | tbl ps=>exact Heap.lt_size (show h.get? a=some _ from x)
 | met f y=>exact Heap.lt_size (show h.get? a=some _ from x)
 | ext φ=>obtain ⟨_,⟨_,e⟩,_⟩:=x;exact Heap.lt_size e
theorem Paired.mapP {α β:Type} {F G:α->β->Prop}:∀{l₁:List α} {l₂:List β},Paired F l₁ l₂->(∀a b,F a b->G a b)->Paired G l₁ l₂
 | _,_,.nil,_=>.nil
 | _,_,.cons r t,f=>.cons (f _ _ r) (Paired.mapP t f)
theorem zA7.stay (x:zA7 P w H h a o) (k:∀b u,(b=a\/H b=some (.own a))->h.get? b=some u->h'.get? b=some u)
  (ho:∀b,H b=some (.own a)->H' b=some (.own a)) (ht:∀b xs,H b=some (.tup xs)->H' b=some (.tup xs)):zA7 P w H' h' a o:=by
 induction o with
 | lst xs=>obtain ⟨z,its,n,r,e⟩:=x;exact ⟨z,its,n,r,k _ _ (.inl rfl) e⟩
 | tup xs=>obtain ⟨z,its,r,ob,e,c⟩:=x;exact ⟨z,its,r,ob,k _ _ (.inl rfl) e,c⟩
 | dK kvs=>obtain ⟨z,y,vs,r,ob,es,ep,e,c⟩:=x;exact ⟨z,y,vs,r,ob,es,ep,k _ _ (.inl rfl) e,c⟩
 | dT kvs =>
  obtain ⟨z,y,xs,r,ob,es,ep,e,c⟩:=x
  exact ⟨z,y,xs,Paired.mapP r fun p q z=>⟨z.1,ht _ _ z.2.1,z.2.2⟩,ob,es,ep,k _ _ (.inl rfl) e,c⟩
 | set S n=>obtain ⟨ob,es,ep,t,e,c⟩:=x;exact ⟨ob,es,ep,t,k _ _ (.inl rfl) e,c⟩
 | ins C dx fs =>
  obtain ⟨d,z,ne,e,mA,⟨od,es,ep,e2,c⟩,r⟩:=x
  exact ⟨ho _ d,z,ne,k _ _ (.inl rfl) e,mA,⟨od,es,ep,k _ _ (.inr d) e2,c⟩,r⟩
 | own y=>obtain ⟨ob,e⟩:=x;exact ⟨ob,k _ _ (.inl rfl) e⟩
 | xd fs=>obtain ⟨mA,⟨od,es,ep,e,c⟩,r⟩:=x;exact ⟨mA,⟨od,es,ep,k _ _ (.inl rfl) e,c⟩,r⟩
 | rng lo hi=>obtain ⟨t,u,v,e⟩:=x;exact ⟨t,u,v,k _ _ (.inl rfl) e⟩
 | frz ob u ih=>obtain ⟨e,q⟩:=x;exact ⟨k _ _ (.inl rfl) e,ih q⟩
 | tbl ps =>
  have e:h.get? a=some {cls:=.none,data:=.fields ps}:=x
  show h'.get? a=some {cls:=.none,data:=.fields ps}
  exact k a _ (.inl rfl) e
 | met f y =>
  have e:h.get? a=some (PySem.W.methodObj (.ref f) (.ref y)):=x
  show h'.get? a=some (PySem.W.methodObj (.ref f) (.ref y))
  exact k a _ (.inl rfl) e
 | ext φ=>obtain ⟨p,⟨o,e⟩,st⟩:=x;exact ⟨st _ _ p fun o q=>k _ _ (.inl rfl) q,⟨o,k _ _ (.inl rfl) e⟩,st⟩
theorem HOk.lt (x:HOk P w H h) (e:H a=some o):a<h.objs.size:=(x a o e).lt
theorem HOk.fresh (x:HOk P w H h) (e:h.objs.size<=a):H a=none:=by
 cases q:H a with
 | none=>rfl
 | some u=>exact absurd (Nat.lt_of_lt_of_le (x.lt q) e) (Nat.lt_irrefl _)
theorem HOk.kept (x:HOk P w H h) (k:∀b u,h.get? b=some u->h'.get? b=some u):HOk P w H h':=fun a o e =>
 (x a o e).stay (fun b u _ q=>k b u q) (fun _ q=>q) fun _ _ q=>q
theorem HOk.laid (x:HOk P w H h) (k:∀b u,h.get? b=some u->h'.get? b=some u) (hp:h.objs.size<=a) (new:zA7 P w (upd H a o) h' a o):HOk P w (upd H a o) h':=fun b u e=>by
 have hn:=x.fresh hp
 by_cases hb:b=a
 ·subst hb;rw [upd_same] at e;cases e;exact new
 ·rw [upd_ne hb] at e
  exact (x b u e).stay (fun c v _ q=>k c v q) (fun c q=>by rw [upd_ne (zAj q hn)];exact q) fun c xs q=>by rw [upd_ne (zAj q hn)];exact q
end
def Rd (H:Hp) (a:Addr) (u:HO):Prop:=H a=some u\/∃o,H a=some (.frz o u)
theorem Rd.ok {P:Program} {w:World} {H:Hp} {h:Heap} {a:Addr} {u:HO} (r:Rd H a u) (x:HOk P w H h):zA7 P w H h a u:=by
 rcases r with r| ⟨o,r⟩
 ·exact x a u r
 ·obtain ⟨_,q⟩:=x a _ r
  exact q
def Mut:Option HO->Prop
 | some (.lst _)=>True
 | some (.dK _)=>True
 | some (.dT _)=>True
 | some (.set _ _)=>True
 | some (.ins _ _ _)=>True
 | some (.ext _)=>True
 | _=>False
section
variable {P:Program} {w:World} {H:Hp} {h h':Heap} {x e:Addr} {o':HO}
theorem HOk.write (ok:HOk P w H h) (mu:Mut (H x)) (he:e=x\/H e=some (.own x)) (k:∀b u,b≠e->h.get? b=some u->h'.get? b=some u) (heo:∃u,h'.get? e=some u)
  (new:zA7 P w (upd H x o') h' x o'):HOk P w (upd H x o') h':=fun b u q=>by
 have nown:∀c y,H c=some (.own y)->c≠x:=fun c y r z=>by subst z;rw [r] at mu;exact mu
 have ntup:∀c xs,H c=some (.tup xs)->c≠x:=fun c xs r z=>by subst z;rw [r] at mu;exact mu
 by_cases hb:b=x
 ·subst hb;rw [upd_same] at q;cases q;exact new
 ·rw [upd_ne hb] at q
  by_cases hbe:b=e
  ·have q':H b=some (.own x):=by
    rcases he with z| z
    ·exact absurd (hbe.trans z) hb
    ·rw [hbe];exact z
   rw [q] at q';cases q'
   obtain ⟨v,hv⟩:=heo
   exact ⟨v,by rw [hbe];exact hv⟩
  ·refine (ok b u q).stay (fun c v hc r=>k c v ?_ r) (fun c r=>by rw [upd_ne (nown c b r)];exact r) fun c xs r=>by rw [upd_ne (ntup c xs r)];exact r
   rcases hc with rfl| hc
   ·exact hbe
   ·rintro rfl
    rcases he with z| z
    ·exact nown c b hc z
    ·rw [hc] at z;cases z;exact hb rfl
end
structure Un (fs ex:List Addr) (H H':Hp) (h h':Heap):Prop where
 keep:∀b o,h.get? b=some o->H b=none->b∉fs->b∉ex->h'.get? b=some o
 slot:∀b o,h.get? b=some o->H b=none->b∈fs->b∉ex->∃sl,h'.get? b=some {o with slots:=sl}
 free:∀b o,h.get? b=some o->H b=none->b∉ex->H' b=none
 there:∀b o,h.get? b=some o->b∉ex->∃o',h'.get? b=some o'
 tups:∀b xs,H b=some (.tup xs)->H' b=some (.tup xs)
 frzs:∀b o u,H b=some (.frz o u)->H' b=some (.frz o u)
 tbls:∀b ps,H b=some (.tbl ps)->∃more,H' b=some (.tbl (ps++more))
section
variable {fs fs' ex ex':List Addr} {H H1 H2:Hp} {h h1 h2 h':Heap} {a x e:Addr} {o:HO}
theorem Un.any (u:Un fs ex H H1 h h1) {b:Addr} {ob:Obj} (q:h.get? b=some ob) (n:H b=none) (hx:b∉ex):∃sl,h1.get? b=some {ob with slots:=sl}:=by
 by_cases hb:b∈fs
 ·exact u.slot b ob q n hb hx
 ·exact ⟨ob.slots,u.keep b ob q n hb hx⟩
theorem Un.kept (k:∀b u,h.get? b=some u->h'.get? b=some u):Un fs ex H H h h' :=
 ⟨fun b ob q _ _ _=>k b ob q,fun b ob q _ _ _=>⟨ob.slots,k b ob q⟩,fun _ _ _ n _=>n,fun b ob q _=>⟨ob,k b ob q⟩,fun _ _ q=>q,fun _ _ _ q=>q,fun _ ps q=>⟨#[],by rw [q];simp⟩⟩
theorem Un.refl:Un fs ex H H h h:=Un.kept fun _ _ q=>q
theorem Un.laid (k:∀b u,h.get? b=some u->h'.get? b=some u) (hp:h.objs.size<=a) (hn:H a=none):Un fs ex H (upd H a o) h h' where
 keep:=fun b u q _ _ _=>k b u q
 slot:=fun b u q _ _ _=>⟨u.slots,k b u q⟩
 free:=fun b u q n _=>by rw [upd_ne (Nat.ne_of_lt (Nat.lt_of_lt_of_le (Heap.lt_size q) hp))];exact n
 there:=fun b u q _=>⟨u,k b u q⟩
 tups:=fun b xs q=>by rw [upd_ne (zAj q hn)];exact q
 frzs:=fun b u xs q=>by rw [upd_ne (zAj q hn)];exact q
 tbls:=fun b ps q=>⟨#[],by rw [upd_ne (zAj q hn),q];simp⟩
theorem Un.write (mu:Mut (H x)) (he:e=x\/H e=some (.own x)) (k:∀b u,b≠e->h.get? b=some u->h'.get? b=some u) (heo:∃u,h'.get? e=some u):Un fs ex H (upd H x o) h h':=by
 have hx:∀b,H b=none->b≠x:=fun b n z=>by subst z;rw [n] at mu;exact mu
 have hb:∀b,H b=none->b≠e:=fun b n z=>by
  subst z
  rcases he with r| r
  ·exact hx b n r
  ·rw [n] at r;cases r
 have hm:∀b u,H b=some u->¬Mut (some u)->b≠x:=fun b u q nm z=>by subst z;rw [q] at mu;exact nm mu
 refine ⟨fun b u q n _ _=>k b u (hb b n) q,fun b u q n _ _=>⟨u.slots,k b u (hb b n) q⟩,fun b u q n _=>by rw [upd_ne (hx b n)];exact n,fun b u q _=>?_,
  fun b xs q=>by rw [upd_ne (hm b _ q fun z=>z)];exact q,fun b u xs q=>by rw [upd_ne (hm b _ q fun z=>z)];exact q,fun b ps q=>⟨#[],by rw [upd_ne (hm b _ q fun z=>z),q];simp⟩⟩
 by_cases hbe:b=e
 ·subst hbe;exact heo
 ·exact ⟨u,k b u hbe q⟩
end
def trk (h:Heap) (H:Hp):List Addr:=(List.range h.objs.size).filter fun a=>(H a).isSome
def hidT (h:Heap) (H:Hp):Heap:=PySem.W.hideAll h (trk h H)
theorem hidT_size (h:Heap) (H:Hp):(hidT h H).objs.size=h.objs.size:=PySem.W.hideAll_size _ _
theorem hidT_get {h:Heap} {H:Hp} {b:Addr} {o:Obj} (e:h.get? b=some o) (n:H b=none):(hidT h H).get? b=some o :=
 PySem.W.hideAll_get _ e fun hm=>by
  have q:(H b).isSome=true:=(List.mem_filter.mp hm).2
  rw [n] at q;simp at q
theorem of_hidT {h:Heap} {H:Hp} {b:Addr} {o:Obj} (e:(hidT h H).get? b=some o):h.get? b=some o/\H b=none:=by
 have e':h.get? b=some o:=PySem.W.of_hideAll (trk h H) e
 refine ⟨e',?_⟩
 cases q:H b with
 | none=>rfl
 | some x =>
  have hm:b∈trk h H:=List.mem_filter.mpr ⟨List.mem_range.mpr (Heap.lt_size e'),by simp [q]⟩
  have z:(hidT h H).get? b=none:=PySem.W.hideAll_none (trk h H) hm
  rw [z] at e;cases e
structure Mod (K:PySem.W.Frag) (mg:Str->Option Value) (base:Heap):Prop where
 kin:K.In base
 glob:base.Ns mainGlobals mg
 blt:∃mb,base.Ns builtinsNs mb/\∀x:Str,x≠ "__name__" ->mb x=bootBuiltins x
 nolimit:base.NoLimit
structure Cx where
 prog:Program
 w:World
 K:PySem.W.Frag
 mg:Str->Option Value
 base:Heap
 A:Around
 N:List Str
 s₀:Shared
 H₀:Hp
 env:Env
 outer:List Env
 stack:List Env
 ex:List Addr
 fn:Str->Bool
 calm:Bool
 pn:List (Addr×Obj)
 xe:Value->Shared->Prop
def frs (l:List Env):List Addr:=l.filterMap (·.frame)
abbrev Cx.fs (X:Cx):List Addr:=frs X.outer
def Vis (sc:Scope) (x:Str):Prop:=sc.names.lookup x=some .local\/sc.names.lookup x=some .cell\/sc.names.lookup x=some .free
def Loc (sc:Scope) (x:Str):Prop:=sc.names.lookup x=some .local\/sc.names.lookup x=some .cell
def Look (env:Env) (h:Heap) (m:Str->Option Value) (x:Str) (u:Value):Prop :=
 (env.kindOf x=some .local/\m x=some u)\/((env.kindOf x=some .cell\/env.kindOf x=some .free)/\∃c,env.cells.lookup x=some c/\h.IsCell c (some u))
structure Cx.Ok (X:Cx):Prop where
 mod:Mod X.K X.mg X.base
 kind:X.env.scope.kind= .function
 glob:X.env.globals=mainGlobals
 blt:X.env.builtins=builtinsNs
 above:X.s₀.heap.objs.size<=X.env.locals
 inj:∀x y c,X.env.cells.lookup x=some c->X.env.cells.lookup y=some c->x=y
 has:∀x,(X.env.kindOf x=some .cell\/X.env.kindOf x=some .free)->∃c,X.env.cells.lookup x=some c
 cab:∀x c,X.fn x=true->X.env.cells.lookup x=some c->X.s₀.heap.objs.size<=c
 hd:X.calm=true->X.A.handled=none
 frames:X.A.frames=some X.stack
 stk:X.stack=X.outer\/(X.stack=X.env::X.outer/\X.env.frame=some X.env.locals)
 exf:∀b∈X.ex,b≠X.env.locals/\∀x c,X.env.cells.lookup x=some c->c≠b
 bs:∀b o,X.base.get? b=some o->X.s₀.heap.get? b=some o/\X.H₀ b=none
 bsz:X.base.objs.size<=X.s₀.heap.objs.size
 noex:∀b o,X.base.get? b=some o->b∉X.ex
 exfs:∀b∈X.ex,b∉X.fs
 funs:X.s₀.heap.FunFrames X.base X.outer
 frf:∀b∈X.fs,X.H₀ b=none
structure Inv (X:Cx) (pins:List (Addr×Obj)) (σ:List (Option V)) (H:Hp) (s:Shared):Prop where
 ok:X.Ok
 os:s.os=X.s₀.os
 bare:AllBare s.gens
 base:Un X.fs X.ex X.H₀ H X.s₀.heap s.heap
 loc:∃m,s.heap.Ns X.env.locals m/\∀(i:Nat) (x:Str) (v:V),X.N[i]?=some x->σ[i]?=some (some v)->Vis X.env.scope x->∃u,RelV v u/\Look X.env s.heap m x u
 cell:∀x c,X.env.cells.lookup x=some c->∃v,s.heap.IsCell c v
 free:H X.env.locals=none
 freeC:∀x c,X.env.cells.lookup x=some c->H c=none
 pin:∀p∈X.pn++pins,s.heap.get? p.1=some p.2/\H p.1=none/\p.1≠X.env.locals/\p.1∉X.fs/\∀v,p.2.data≠.cell v
 hok:HOk X.prog X.w H s.heap
 len:σ.length=X.N.length
section
variable {X:Cx} {pins:List (Addr×Obj)} {σ:List (Option V)} {H H':Hp} {s:Shared} {h':Heap}
theorem Cx.Ok.nofr (ok:X.Ok) {b:Addr} {o:Obj} (e:X.base.get? b=some o):b∉X.fs:=fun hb=>by
 have:=(ok.funs.mem hb).1
 rw [e] at this;cases this
theorem Inv.bs (I:Inv X pins σ H s):∀b o,X.base.get? b=some o->s.heap.get? b=some o/\H b=none:=fun b o e =>
 ⟨I.base.keep b o (I.ok.bs b o e).1 (I.ok.bs b o e).2 (I.ok.nofr e) (I.ok.noex b o e),I.base.free b o (I.ok.bs b o e).1 (I.ok.bs b o e).2 (I.ok.noex b o e)⟩
theorem Inv.bk (I:Inv X pins σ H s):∀b o,X.base.get? b=some o->s.heap.get? b=some o:=fun b o e=>(I.bs b o e).1
theorem Inv.mod (I:Inv X pins σ H s):Mod X.K X.mg X.base:=I.ok.mod
theorem Inv.kIn (I:Inv X pins σ H s):X.K.In s.heap:=I.ok.mod.kin.keeps I.bk
theorem Inv.lt (I:Inv X pins σ H s):X.env.locals<s.heap.objs.size:=let ⟨_,hn,_⟩:=I.loc;hn.lt
theorem Inv.sz (I:Inv X pins σ H s):X.s₀.heap.objs.size<=s.heap.objs.size:=Nat.le_trans I.ok.above (Nat.le_of_lt I.lt)
theorem Inv.nofs (I:Inv X pins σ H s) {a:Addr} (h:s.heap.objs.size<=a):a∉X.fs:=fun hb=>by
 obtain ⟨_,o,ho,_⟩:=I.ok.funs.mem hb
 exact absurd (Nat.lt_of_lt_of_le (Heap.lt_size ho) (Nat.le_trans I.sz h)) (Nat.lt_irrefl _)
theorem Inv.cne (I:Inv X pins σ H s):∀x c,X.env.cells.lookup x=some c->c≠X.env.locals:=fun x c e z=>by
 obtain ⟨v,o,ho,hd⟩:=I.cell x c e
 obtain ⟨m,⟨o',es,ep,ho',hd',_⟩,_⟩:=I.loc
 rw [z,ho'] at ho;cases ho;rw [hd'] at hd;cases hd
theorem Inv.funs (I:Inv X pins σ H s):s.heap.FunFrames X.base X.outer:=by
 have all:∀(l:List Env),(∀b∈frs l,b∈X.fs)->X.s₀.heap.FunFrames X.base l->s.heap.FunFrames X.base l:=by
  intro l
  induction l with
  | nil=>intro _ _;trivial
  | cons env r ih =>
   intro hs hl
   obtain ⟨hk,⟨L,o,hf,hn,ho,hd⟩,hr⟩:=hl
   have hL:L∈X.fs:=hs L (by unfold frs;rw [List.filterMap_cons,hf];exact List.mem_cons_self)
   obtain ⟨sl,e⟩:=I.base.slot L o ho (I.ok.frf L hL) hL fun z=>I.ok.exfs L z hL
   exact ⟨hk,⟨L,_,hf,hn,e,hd⟩,ih (fun b hb=>hs b (by unfold frs;rw [List.filterMap_cons,hf];exact List.mem_cons_of_mem _ hb)) hr⟩
 exact all X.outer (fun _ hb=>hb) I.ok.funs
theorem Inv.stack (I:Inv X pins σ H s):s.heap.FunFrames X.base X.stack:=by
 rcases I.ok.stk with e| ⟨e,hf⟩
 ·rw [e];exact I.funs
 ·rw [e]
  obtain ⟨m,hn,_⟩:=I.loc
  refine .cons (by rw [I.ok.kind];decide) hf hn ?_ I.funs
  exact Heap.get?_none_of_le (Nat.le_trans I.ok.bsz I.ok.above)
theorem Inv.stkSub (I:Inv X pins σ H s):∀b∈frs X.stack,b∈X.env.locals::X.fs:=fun b hb=>by
 rcases I.ok.stk with e| ⟨e,hf⟩
 ·rw [e] at hb;exact List.mem_cons_of_mem _ hb
 ·rw [e] at hb
  unfold frs at hb
  rw [List.filterMap_cons,hf] at hb
  exact hb
theorem Inv.stkFree (I:Inv X pins σ H s):∀b∈frs X.stack,H b=none:=fun b hb=>by
 rcases List.mem_cons.mp (I.stkSub b hb) with e| hb
 ·rw [e];exact I.free
 ·obtain ⟨_,o,ho,_⟩:=I.ok.funs.mem hb
  exact I.base.free b o ho (I.ok.frf b hb) fun z=>I.ok.exfs b z hb
theorem Inv.step {g':Array GenState} {t':Nat} {d':Drawn} {ch:List Addr} (I:Inv X pins σ H s)
  (hch:∀b∈ch,(b∈X.ex\/X.s₀.heap.objs.size<=b)/\b≠X.env.locals/\(∀x c,X.env.cells.lookup x=some c->c≠b)/\∀p∈X.pn++pins,p.1≠b)
  (keep:∀b o,b≠X.env.locals->b∉X.fs->b∉ch->s.heap.get? b=some o->H b=none->h'.get? b=some o)
  (slot:∀b o,b≠X.env.locals->b∈X.fs->b∉ch->s.heap.get? b=some o->H b=none->∃sl,h'.get? b=some {o with slots:=sl}) (free:∀b o,b∉ch->s.heap.get? b=some o->H b=none->H' b=none)
  (there:∀b o,b∉ch->s.heap.get? b=some o->∃o',h'.get? b=some o')
  (tups:∀b xs,H b=some (.tup xs)->H' b=some (.tup xs)) (frzs:∀b o u,H b=some (.frz o u)->H' b=some (.frz o u)) (tbls:∀b ps,H b=some (.tbl ps)->∃more,H' b=some (.tbl (ps++more)))
  (ns:∀m,s.heap.Ns X.env.locals m->h'.Ns X.env.locals m) (hok:HOk X.prog X.w H' h') (hg:AllBare g') :
  Inv X pins σ H' {s with heap:=h',gens:=g',drawn:=d',toks:=t'}:=by
 have neL:∀b o,X.s₀.heap.get? b=some o->b≠X.env.locals:=fun b o e=>Nat.ne_of_lt (Nat.lt_of_lt_of_le (Heap.lt_size e) I.ok.above)
 have neC:∀b o,X.s₀.heap.get? b=some o->b∉X.ex->b∉ch:=fun b o e hx hb=>by
  rcases (hch b hb).1 with z| z
  ·exact hx z
  ·exact absurd (Nat.lt_of_lt_of_le (Heap.lt_size e) z) (Nat.lt_irrefl _)
 have cellK:∀x c,X.env.cells.lookup x=some c->∀v,s.heap.IsCell c v->h'.IsCell c v:=fun x c e v ⟨o,ho,hd⟩=>by
  have nch:c∉ch:=fun z=>(hch c z).2.2.1 x c e rfl
  by_cases hc:c∈X.fs
  ·obtain ⟨sl,q⟩:=slot c o (I.cne x c e) hc nch ho (I.freeC x c e)
   exact ⟨_,q,hd⟩
  ·exact ⟨o,keep c o (I.cne x c e) hc nch ho (I.freeC x c e),hd⟩
 refine ⟨I.ok,I.os,hg,⟨fun b o e n hb hx=>?_,fun b o e n hb hx=>?_,fun b o e n hx=>?_,fun b o e hx=>?_,fun b xs e=>tups b xs (I.base.tups b xs e),fun b o xs e=>frzs b o xs (I.base.frzs b o xs e),fun b ps e=>?_⟩,?_,fun x c e=>?_,?_,fun x c e=>?_,fun p hp=>?_,hok,I.len⟩
 ·exact keep b o (neL b o e) hb (neC b o e hx) (I.base.keep b o e n hb hx) (I.base.free b o e n hx)
 ·obtain ⟨sl,e1⟩:=I.base.slot b o e n hb hx
  obtain ⟨sl',e2⟩:=slot b _ (neL b o e) hb (neC b o e hx) e1 (I.base.free b o e n hx)
  exact ⟨sl',e2⟩
 ·obtain ⟨o',e1⟩:=I.base.there b o e hx
  exact free b o' (neC b o e hx) e1 (I.base.free b o e n hx)
 ·obtain ⟨o',e1⟩:=I.base.there b o e hx
  exact there b o' (neC b o e hx) e1
 ·obtain ⟨m1,e1⟩:=I.base.tbls b ps e
  obtain ⟨m2,e2⟩:=tbls b _ e1
  exact ⟨m1++m2,by rw [e2,Array.append_assoc]⟩
 ·obtain ⟨m,hn,hl⟩:=I.loc
  refine ⟨m,ns m hn,fun i x v e1 e2 e3=>?_⟩
  obtain ⟨u,r,l⟩:=hl i x v e1 e2 e3
  refine ⟨u,r,?_⟩
  rcases l with l| ⟨k,c,e,z⟩
  ·exact .inl l
  ·exact .inr ⟨k,c,e,cellK x c e _ z⟩
 ·obtain ⟨v,z⟩:=I.cell x c e
  exact ⟨v,cellK x c e v z⟩
 ·obtain ⟨m,⟨o,_,_,ho,_⟩,_⟩:=I.loc
  exact free _ o (fun z=>(hch _ z).2.1 rfl) ho I.free
 ·obtain ⟨v,o,ho,hd⟩:=I.cell x c e
  exact free c o (fun z=>(hch c z).2.2.1 x c e rfl) ho (I.freeC x c e)
 ·obtain ⟨e,n,ne,nf,d⟩:=I.pin p hp
  have nch:p.1∉ch:=fun z=>(hch p.1 z).2.2.2 p hp rfl
  exact ⟨keep p.1 p.2 ne nf nch e n,free p.1 p.2 nch e n,ne,nf,d⟩
theorem Inv.un {t':Nat} (I:Inv X pins σ H s) (u:Un X.fs [] H H' s.heap h') (hok:HOk X.prog X.w H' h'):Inv X pins σ H' {s with heap:=h',toks:=t'}:=by
 obtain ⟨m,⟨o,es,ep,ho,r⟩,_⟩:=id I.loc
 obtain ⟨sl,hL⟩:=u.any ho I.free (by simp)
 exact I.step (g':=s.gens) (d':=s.drawn) (ch:=[]) (fun _ z=>nomatch z) (fun b o _ hb _ e n=>u.keep b o e n hb (by simp)) (fun b o _ hb _ e n=>u.slot b o e n hb (by simp)) (fun b o _ e n=>u.free b o e n (by simp)) (fun b o _ e=>u.there b o e (by simp)) u.tups u.frzs u.tbls (fun m' hm=>by
  obtain ⟨o',es',ep',ho',r'⟩:=hm
  rw [ho] at ho';cases ho'
  exact ⟨_,es',ep',hL,r'⟩) hok I.bare
theorem Inv.call {g':Array GenState} {t':Nat} {d':Drawn} {ch:List Addr} (I:Inv X pins σ H s) (u:Un (frs X.stack) ch H H' s.heap h') (hok:HOk X.prog X.w H' h') (hg:AllBare g')
  (hch:∀b∈ch,(b∈X.ex\/X.s₀.heap.objs.size<=b)/\b≠X.env.locals/\(∀x c,X.env.cells.lookup x=some c->c≠b)/\∀p∈X.pn++pins,p.1≠b) :
  Inv X pins σ H' {s with heap:=h',gens:=g',drawn:=d',toks:=t'}:=by
 obtain ⟨m,⟨o,es,ep,ho,r⟩,_⟩:=id I.loc
 obtain ⟨sl,hL⟩:=u.any ho I.free fun z=>(hch _ z).2.1 rfl
 exact I.step (ch:=ch) hch (fun b o hL hb hc e n=>u.keep b o e n (fun z=>(List.mem_cons.mp (I.stkSub b z)).elim hL hb) hc) (fun b o _ _ hc e n=>u.any e n hc) (fun b o hc e n=>u.free b o e n hc) (fun b o hc e=>u.there b o e hc) u.tups u.frzs u.tbls (fun m' hm=>by
  obtain ⟨o',es',ep',ho',r'⟩:=hm
  rw [ho] at ho';cases ho'
  exact ⟨_,es',ep',hL,r'⟩) hok hg
theorem Inv.turned {t':Nat} {it:Addr} (I:Inv X pins σ H s) (k:∀b o,b≠it->s.heap.get? b=some o->h'.get? b=some o) (hn:H it=none) (hL:it≠X.env.locals)
  (h1:it∈X.ex\/X.s₀.heap.objs.size<=it) (h2:∀x c,X.env.cells.lookup x=some c->c≠it) (h3:∀p∈X.pn++pins,p.1≠it):Inv X pins σ H {s with heap:=h',toks:=t'}:=by
 have nit:∀b u,H b=some u->b≠it:=fun b u e z=>by rw [z,hn] at e;cases e
 refine I.step (g':=s.gens) (d':=s.drawn) (ch:=[it]) (fun b hb=>?_) (fun b o _ _ hc e _=>k b o (fun z=>hc (by simp [z])) e) (fun b o _ _ hc e _=>⟨o.slots,k b o (fun z=>hc (by simp [z])) e⟩) (fun _ _ _ _ n=>n)
  (fun b o hc e=>⟨o,k b o (fun z=>hc (by simp [z])) e⟩) (fun _ _ e=>e) (fun _ _ _ e=>e) (fun b ps e=>⟨#[],by rw [e];simp⟩) (fun m hm=>?_) (fun b u e=>?_) I.bare
 ·have e:b=it:=by simpa using hb
  subst e
  exact ⟨h1,hL,h2,h3⟩
 ·obtain ⟨o,es,ep,ho,r⟩:=hm
  exact ⟨o,es,ep,k _ o (Ne.symm hL) ho,r⟩
 ·refine (I.hok b u e).stay (fun c v hc q=>k c v ?_ q) (fun _ q=>q) fun _ _ q=>q
  rcases hc with z| z
  ·rw [z];exact nit b u e
  ·exact nit c _ z
theorem Inv.tok (I:Inv X pins σ H s) (t:Nat):Inv X pins σ H {s with toks:=t}:=I.un (h':=s.heap) (t':=t) Un.refl I.hok
theorem Inv.kept {t':Nat} (I:Inv X pins σ H s) (k:∀b u,s.heap.get? b=some u->h'.get? b=some u):Inv X pins σ H {s with heap:=h',toks:=t'}:=I.un (Un.kept k) (I.hok.kept k)
theorem Inv.laid {a:Addr} {o:HO} {t':Nat} (I:Inv X pins σ H s) (k:∀b u,s.heap.get? b=some u->h'.get? b=some u) (hp:s.heap.objs.size<=a) (new:zA7 X.prog X.w (upd H a o) h' a o) :
  Inv X pins σ (upd H a o) {s with heap:=h',toks:=t'}:=I.un (Un.laid k hp (I.hok.fresh hp)) (I.hok.laid k hp new)
theorem Inv.write {x e:Addr} {o:HO} {t':Nat} (I:Inv X pins σ H s) (mu:Mut (H x)) (he:e=x\/H e=some (.own x)) (k:∀b u,b≠e->s.heap.get? b=some u->h'.get? b=some u) (heo:∃u,h'.get? e=some u)
  (new:zA7 X.prog X.w (upd H x o) h' x o):Inv X pins σ (upd H x o) {s with heap:=h',toks:=t'}:=I.un (Un.write mu he k heo) (I.hok.write mu he k heo new)
theorem Inv.pins_of {pins':List (Addr×Obj)} (I:Inv X pins σ H s) (h:∀p∈pins',s.heap.get? p.1=some p.2/\H p.1=none/\p.1≠X.env.locals/\p.1∉X.fs/\∀v,p.2.data≠.cell v):Inv X pins' σ H s :=
 ⟨I.ok,I.os,I.bare,I.base,I.loc,I.cell,I.free,I.freeC,fun p hp=>(List.mem_append.mp hp).elim (fun z=>I.pin p (List.mem_append_left _ z)) (h p),I.hok,I.len⟩
theorem zJf {N:List Str} (hN:N.Nodup) {i j:Nat} {x:Str} (a:N[i]?=some x) (b:N[j]?=some x):i=j:=by
 obtain ⟨h1,e1⟩:=List.getElem?_eq_some_iff.mp a
 obtain ⟨h2,e2⟩:=List.getElem?_eq_some_iff.mp b
 exact (List.getElem_inj hN).mp (e1.trans e2.symm)
theorem zGt {M:Model} {A:Around} {E:Value->Shared->Prop} {i:Nat} {x:Str} {v:V} {u:Value} {Q:Unit->Shared->Prop} (I:Inv X pins σ H s) (hN:X.N.Nodup) (hi:X.N[i]?=some x) (hx:Loc X.env.scope x) (r:RelV v u)
  (h:∀s',Inv X pins (σ.set i (some v)) H s'->(∃a,Heap.SameBut a s.heap s'.heap/\(a=X.env.locals\/X.env.cells.lookup x=some a))->Q () s') (hf:X.fn x=true\/X.env.scope.names.lookup x=some .local:=by first| exact .inl rfl| exact .inr rfl| assumption):wpAny M A (storeName X.env x u) Q E s:=by
 obtain ⟨m,hn,hl⟩:=id I.loc
 have hcls:(X.env.scope.kind== .class||(X.env.scope.kind== .module&&X.env.locals != X.env.globals))=false:=by rw [I.ok.kind];rfl
 have hiσ:i<σ.length:=by rw [I.len];exact (List.getElem?_eq_some_iff.mp hi).1
 have cne:=I.cne
 have tracked:∀{a:Addr} {h':Heap},(∃o,s.heap.get? a=some o/\H a=none)->Heap.SameBut a s.heap h'->HOk X.prog X.w H h':=fun {a h'} ha hs b ob e=>by
  obtain ⟨_,_,hfree⟩:=ha
  refine (I.hok b ob e).stay (fun c w' hc q=>(hs.2 c ?_).trans q) (fun _ q=>q) fun _ _ q=>q
  rintro rfl
  rcases hc with rfl| hc
  ·rw [hfree] at e;cases e
  ·rw [hfree] at hc;cases hc
 rcases hx with hk| hk
 ·refine wpAny_storeName_local hk hn (fun h' hn' hs=>?_) hcls
  obtain ⟨oL,_,_,hoL,_⟩:=id hn
  refine h _ ⟨I.ok,I.os,I.bare,⟨fun b o e n hb hx=>?_,fun b o e n hb hx=>?_,I.base.free,fun b o e hx=>?_,I.base.tups,I.base.frzs,I.base.tbls⟩,⟨_,hn',fun j y v' e1 e2 e3=>?_⟩,fun y c e=>?_,I.free,I.freeC,fun p hp=>?_,tracked ⟨oL,hoL,I.free⟩ hs,by simpa using I.len⟩ ⟨_,hs,.inl rfl⟩
  ·exact (hs.2 b (Nat.ne_of_lt (Nat.lt_of_lt_of_le (Heap.lt_size e) I.ok.above))).trans (I.base.keep b o e n hb hx)
  ·obtain ⟨sl,e1⟩:=I.base.slot b o e n hb hx
   exact ⟨sl,(hs.2 b (Nat.ne_of_lt (Nat.lt_of_lt_of_le (Heap.lt_size e) I.ok.above))).trans e1⟩
  ·obtain ⟨o',e1⟩:=I.base.there b o e hx
   exact ⟨o',(hs.2 b (Nat.ne_of_lt (Nat.lt_of_lt_of_le (Heap.lt_size e) I.ok.above))).trans e1⟩
  ·by_cases hj:j=i
   ·subst hj
    rw [hi] at e1;cases e1
    rw [List.getElem?_set_self hiσ] at e2
    cases e2
    exact ⟨u,r,.inl ⟨hk,by simp⟩⟩
   ·rw [List.getElem?_set_ne (Ne.symm hj)] at e2
    obtain ⟨u',r',q⟩:=hl j y v' e1 e2 e3
    refine ⟨u',r',?_⟩
    rcases q with ⟨k,e⟩| ⟨k,c,e,z⟩
    ·refine .inl ⟨k,?_⟩
     have:y≠x:=fun e=>hj (zJf hN e1 (e▸hi))
     simp [this,e]
    ·exact .inr ⟨k,c,e,z.sameBut hs (cne y c e)⟩
  ·obtain ⟨w',z⟩:=I.cell y c e
   exact ⟨w',z.sameBut hs (cne y c e)⟩
  ·obtain ⟨e,n,ne,nf,d⟩:=I.pin p hp
   exact ⟨(hs.2 p.1 ne).trans e,n,ne,nf,d⟩
 ·have hfn:X.fn x=true:=by
   rcases hf with z| z
   ·exact z
   ·rw [z] at hk;cases hk
  obtain ⟨c,hc⟩:=I.ok.has x (.inl hk)
  obtain ⟨w',z⟩:=I.cell x c hc
  refine wpAny_storeName_cell I.ok.kind hk hc z (fun h' hc' hs=>?_)
  obtain ⟨oc,hoc,hocd⟩:=id z
  refine h {s with heap:=h'} ⟨I.ok,I.os,I.bare,⟨fun b o e n hb hx=>?_,fun b o e n hb hx=>?_,I.base.free,fun b o e hx=>?_,I.base.tups,I.base.frzs,I.base.tbls⟩,⟨m,hn.sameBut hs (Ne.symm (cne x c hc)),fun j y v' e1 e2 e3=>?_⟩,fun y c' e=>?_,I.free,I.freeC,fun p hp=>?_,tracked ⟨oc,hoc,I.freeC x c hc⟩ hs,by simpa using I.len⟩ ⟨c,hs,.inr hc⟩
  ·exact (hs.2 b (Nat.ne_of_lt (Nat.lt_of_lt_of_le (Heap.lt_size e) (I.ok.cab x c hfn hc)))).trans (I.base.keep b o e n hb hx)
  ·obtain ⟨sl,e1⟩:=I.base.slot b o e n hb hx
   exact ⟨sl,(hs.2 b (Nat.ne_of_lt (Nat.lt_of_lt_of_le (Heap.lt_size e) (I.ok.cab x c hfn hc)))).trans e1⟩
  ·obtain ⟨o',e1⟩:=I.base.there b o e hx
   exact ⟨o',(hs.2 b (Nat.ne_of_lt (Nat.lt_of_lt_of_le (Heap.lt_size e) (I.ok.cab x c hfn hc)))).trans e1⟩
  ·by_cases hj:j=i
   ·subst hj
    rw [hi] at e1;cases e1
    rw [List.getElem?_set_self hiσ] at e2
    cases e2
    exact ⟨u,r,.inr ⟨.inl hk,c,hc,hc'⟩⟩
   ·rw [List.getElem?_set_ne (Ne.symm hj)] at e2
    obtain ⟨u',r',q⟩:=hl j y v' e1 e2 e3
    refine ⟨u',r',?_⟩
    rcases q with q| ⟨k,c',e,z'⟩
    ·exact .inl q
    ·refine .inr ⟨k,c',e,z'.sameBut hs ?_⟩
     rintro rfl
     exact hj (zJf hN e1 (I.ok.inj _ _ _ e hc▸hi))
  ·by_cases hcc:c'=c
   ·subst hcc;exact ⟨_,hc'⟩
   ·obtain ⟨w2,z2⟩:=I.cell y c' e
    exact ⟨w2,z2.sameBut hs hcc⟩
  ·obtain ⟨e,n,ne,nf,d⟩:=I.pin p hp
   refine ⟨(hs.2 p.1 ?_).trans e,n,ne,nf,d⟩
   intro q
   rw [q,hoc] at e
   have q':oc=p.2:=Option.some.inj e
   exact d w' (by rw [<-q'];exact hocd)
theorem zGi {M:Model} {A:Around} {E:Value->Shared->Prop} {i:Nat} {x:Str} {v:V} {u:Value} {Q:Unit->Shared->Prop} (I:Inv X pins σ H s) (hN:X.N.Nodup) (hi:X.N[i]?=some x) (hx:Loc X.env.scope x) (r:RelV v u)
  (h:∀s',Inv X pins (σ.set i (some v)) H s'->Q () s') (hf:X.fn x=true\/X.env.scope.names.lookup x=some .local:=by first| exact .inl rfl| exact .inr rfl| assumption):wpAny M A (storeName X.env x u) Q E s :=
 zGt I hN hi hx r (fun s' I' _=>h s' I') hf
theorem Inv.call' {s':Shared} {ch:List Addr} (I:Inv X pins σ H s) (ho:s'.os=s.os) (u:Un (frs X.stack) ch H H' s.heap s'.heap) (hok:HOk X.prog X.w H' s'.heap) (hg:AllBare s'.gens)
  (hch:∀b∈ch,(b∈X.ex\/X.s₀.heap.objs.size<=b)/\b≠X.env.locals/\(∀x c,X.env.cells.lookup x=some c->c≠b)/\∀p∈X.pn++pins,p.1≠b):Inv X pins σ H' s':=by
 obtain ⟨h',g',d',t',o'⟩:=s'
 have e:o'=s.os:=ho
 subst e
 exact I.call (g':=g') (t':=t') (d':=d') u hok hg hch
end
abbrev XK:=Value->Option Addr->Hp->Prop
abbrev St:=List (Option V)
abbrev VK:=V->Hp->Prop
abbrev TE:=St->Hp->VK->Prop
abbrev TT:=St->Hp->(Bool->Hp->Prop)->Prop
abbrev TA:=St->Hp->(List V->Hp->Prop)->Prop
structure Ends where
 nx:St->Hp->Prop
 rt:VK
 bk:St->Hp->Prop:=fun _ _=>False
 ct:St->Hp->Prop:=fun _ _=>False
abbrev TS:=Ends->St->Hp->Prop
def EP (X:Cx) (pins:List (Addr×Obj)) (σ:St) (Q:VK) (u:Value) (s':Shared):Prop:=∃v H',Inv X pins σ H' s'/\RelV v u/\Q v H'
def TP (X:Cx) (pins:List (Addr×Obj)) (σ:St) (Q:Bool->Hp->Prop) (b:Bool) (s':Shared):Prop:=∃H',Inv X pins σ H' s'/\Q b H'
def AP (X:Cx) (pins:List (Addr×Obj)) (σ:St) (Q:List V->Hp->Prop) (us:List Value) (s':Shared):Prop:=∃vs H',Inv X pins σ H' s'/\Vals vs us/\Q vs H'
def SP (X:Cx) (pins:List (Addr×Obj)) (D:Ends) (f:Flow) (s':Shared):Prop :=
 match f with
 | .next=>∃σ' H',Inv X pins σ' H' s'/\D.nx σ' H'
 | .brk=>∃σ' H',Inv X pins σ' H' s'/\D.bk σ' H'
 | .cont=>∃σ' H',Inv X pins σ' H' s'/\D.ct σ' H'
 | .ret u=>∃v σ' H',Inv X pins σ' H' s'/\RelV v u/\D.rt v H'
def PE (X:Cx) (e:Expr) (t:TE):Prop :=
 ∀(pins:List (Addr×Obj)) (s:Shared) (σ:St) (H:Hp) (Q:VK),Inv X pins σ H s->t σ H Q->wpAny (model X.prog X.w) X.A (eval e X.env) (EP X pins σ Q) X.xe s
def PT (X:Cx) (e:Expr) (t:TT):Prop :=
 ∀(pins:List (Addr×Obj)) (s:Shared) (σ:St) (H:Hp) (Q:Bool->Hp->Prop),Inv X pins σ H s->t σ H Q->wpAny (model X.prog X.w) X.A (isTrue e X.env (eval e X.env)) (TP X pins σ Q) X.xe s
def PW (X:Cx) (e:Expr) (t:TT):Prop :=
 ∀(whole:Sem Value) (pins:List (Addr×Obj)) (s:Shared) (σ:St) (H:Hp) (Q:Bool->Hp->Prop),Inv X pins σ H s->t σ H Q->wpAny (model X.prog X.w) X.A (isTrue e X.env whole) (TP X pins σ Q) X.xe s
theorem PW.pt {X:Cx} {e:Expr} {t:TT} (h:PW X e t):PT X e t:=h _
def PA (X:Cx) (es:List Expr) (t:TA):Prop :=
 ∀(pos:Pos) (pins:List (Addr×Obj)) (s:Shared) (σ:St) (H:Hp) (Q:List V->Hp->Prop),Inv X pins σ H s->t σ H Q->wpAny (model X.prog X.w) X.A (spliced (backTo pos (starEach es X.env))) (AP X pins σ Q) X.xe s
def PS (X:Cx) (st:Stmt) (t:TS):Prop :=
 ∀(pins:List (Addr×Obj)) (s:Shared) (σ:St) (H:Hp) (D:Ends),Inv X pins σ H s->t D σ H->wpAny (model X.prog X.w) X.A (exec st X.env) (SP X pins D) X.xe s
def PSs (X:Cx) (st:List Stmt) (t:TS):Prop :=
 ∀(pins:List (Addr×Obj)) (s:Shared) (σ:St) (H:Hp) (D:Ends),Inv X pins σ H s->t D σ H->wpAny (model X.prog X.w) X.A (execs st X.env) (SP X pins D) X.xe s
theorem thn {α:Type} {t:Sem α} {Q Q':α->Shared->Prop} {M:Model} {A:Around} {E:Value->Shared->Prop} {s:Shared} (h:wpAny M A t Q E s) (hQ:∀a s,Q a s->Q' a s):wpAny M A t Q' E s:=wpAny_mono h hQ fun _ _ x=>x
section
variable {X:Cx}
def tVar (i:Nat):TE:=fun σ H Q=>∃v,σ[i]?=some (some v)/\Q v H
def tC (v:V):TE:=fun _ H Q=>Q v H
theorem pe_var {i:Nat} {x:Str} {pos:Pos} (hN:X.N[i]?=some x) (hv:Vis X.env.scope x) (hd:(x==("__debug__" : Str))=false:=by decide) (hcd:(x==("__classdict__" : Str))=false:=by decide):PE X (.Name x pos) (tVar i):=by
 intro pins s σ H Q I h
 obtain ⟨v,e,h⟩:=h
 obtain ⟨m,hn,hl⟩:=I.loc
 obtain ⟨u,r,l⟩:=hl i x v hN e hv
 have fin:EP X pins σ Q u s:=⟨v,H,I,r,h⟩
 rcases l with ⟨hk,hm⟩| ⟨hk,c,hc,hcell⟩
 ·exact wpAny_Name (wpAny_loadName_local I.ok.kind hk hn hm fin) hd
 ·rcases hk with hk| hk
  ·exact wpAny_Name (wpAny_loadName_cell I.ok.kind hk hc hcell fin) hd
  ·exact wpAny_Name (wpAny_loadName_free I.ok.kind hk hc hcell fin hcd) hd
theorem zAg {i j pos}:PE X (.Constant (.int i) j pos) (tC (.int i)):=fun _ _ _ H _ I h=>wpAny_Constant_int ⟨.int i,H,I.tok _,⟨_,rfl⟩,h⟩
theorem pe_bl {b j pos}:PE X (.Constant (.bool b) j pos) (tC (.bl b)):=fun _ _ _ H _ I h=>Constant_bool ⟨.bl b,H,I,rfl,h⟩
theorem zEa {j pos}:PE X (.Constant .none j pos) (tC .non):=fun _ _ _ H _ I h=>Constant_none ⟨.non,H,I,rfl,h⟩
theorem zAo {x j pos}:PE X (.Constant (.str x) j pos) (tC (.str x)):=fun _ _ _ H _ I h=>Calls.Constant_str ⟨.str x,H,I.tok _,⟨_,rfl⟩,h⟩
def Gl (X:Cx) (x:Str):Prop:=X.env.kindOf x=some .globalImplicit
theorem zEc {E:Value->Shared->Prop} {pins:List (Addr×Obj)} {s:Shared} {σ:St} {H:Hp} {x:Str} {u:Value} {pos:Pos} {Q:Value->Shared->Prop} (I:Inv X pins σ H s) (hg:Gl X x) (hm:X.mg x=some u) (h:Q u s)
  (hd:(x==("__debug__" : Str))=false:=by decide):wpAny (model X.prog X.w) X.A (eval (.Name x pos) X.env) Q E s :=
 Calls.Name_function_global I.ok.kind hg (Calls.loadGlobal_global (by rw [I.ok.glob];exact I.mod.glob.keeps I.bk) hm h) hd
theorem ld_blt {E:Value->Shared->Prop} {pins:List (Addr×Obj)} {s:Shared} {σ:St} {H:Hp} {x:Str} {u:Value} {pos:Pos} {Q:Value->Shared->Prop} (I:Inv X pins σ H s) (hg:Gl X x) (hm:X.mg x=none) (hv:bootBuiltins x=some u) (h:Q u s)
  (hn:x≠ "__name__" := by decide) (hd:(x==("__debug__" : Str))=false:=by decide):wpAny (model X.prog X.w) X.A (eval (.Name x pos) X.env) Q E s:=by
 obtain ⟨mb,h1,h2⟩:=I.mod.blt
 exact Calls.Name_function_global I.ok.kind hg (Calls.loadGlobal_builtin (by rw [I.ok.glob];exact I.mod.glob.keeps I.bk) hm (by rw [I.ok.blt];exact h1.keeps I.bk) ((h2 x hn).trans hv) h) hd
theorem zA4 {x:Str} {v:V} {u:Value} {pos:Pos} (hg:Gl X x) (hm:X.mg x=some u) (r:RelV v u) (hd:(x==("__debug__" : Str))=false:=by decide):PE X (.Name x pos) (tC v) :=
 fun _ _ _ H _ I h=>zEc I hg hm ⟨v,H,I,r,h⟩ hd
theorem zC3 {x:Str} {v:V} {u:Value} {pos:Pos} (hg:Gl X x) (hm:X.mg x=none) (hv:bootBuiltins x=some u) (r:RelV v u) (hn:x≠ "__name__" := by decide) (hd:(x==("__debug__" : Str))=false:=by decide):PE X (.Name x pos) (tC v) :=
 fun _ _ _ H _ I h=>ld_blt I hg hm hv ⟨v,H,I,r,h⟩ hn hd
variable {a b:Expr} {ta tb:TE} {pos:Pos}
def PC (X:Cx) (op:CmpOp) (a b:Expr) (t:TE):Prop :=
 ∀(pins:List (Addr×Obj)) (s:Shared) (σ:St) (H:Hp) (Q:VK),Inv X pins σ H s->t σ H Q ->
  wpAny (model X.prog X.w) X.A (eval a X.env) (fun v s₁=>wpAny (model X.prog X.w) X.A (eval b X.env) (fun u s₂=>wpAny (model X.prog X.w) X.A (compareOp op v u) (EP X pins σ Q) X.xe s₂) X.xe s₁) X.xe s
def tB (t:TE):TT:=fun σ H Q=>t σ H fun x H1=>∃c,x= .bl c/\Q c H1
theorem pe_cmp {op:CmpOp} {t:TE} (h:PC X op a b t) (h1:behindInMarks op b=false:=by first| exact nobehind _ (by decide) (by decide)| rfl):PE X (.Compare a [op] [b] pos) t:=fun pins s σ H Q I hw=>wpAny_Compare1 (h pins s σ H Q I hw) h1
theorem pt_cmp {op:CmpOp} {t:TE} (h:PC X op a b t) (h1:behindInMarks op b=false:=by first| exact nobehind _ (by decide) (by decide)| rfl):PT X (.Compare a [op] [b] pos) (tB t):=by
 intro pins s σ H Q I hw
 refine wpAny_isTrue_Compare1 (thn (h pins s σ H _ I hw) fun v s1 h1=>thn h1 fun u s2 h2=>thn h2 fun c s3 ⟨x,H1,I1,r1,q1⟩=>?_) h1
 obtain ⟨d,rfl,q⟩:=q1
 cases r1
 exact wpAny_truthy_bool ⟨H1,I1,q⟩
theorem zBi {e:Expr} {t:TE} (h:PE X e t) (he:∀whole,isTrue e X.env whole=(do let v<-whole;standAt e.pos;holding [v] (truthy v)):=by intro _;rfl):PT X e (tB t):=by
 intro pins s σ H Q I hw
 refine isTrue_plain (thn (h pins s σ H _ I hw) fun v s1 ⟨x,H1,I1,r1,q1⟩=>?_) (he _)
 obtain ⟨d,rfl,q⟩:=q1
 cases r1
 exact wpAny_truthy_bool ⟨H1,I1,q⟩
variable {tA tB':TT} {rest:List Expr}
def tAnd (t u:TT):TT:=fun σ H Q=>t σ H fun c H1=>if c=true then u σ H1 Q else Q false H1
def tOr (t u:TT):TT:=fun σ H Q=>t σ H fun c H1=>if c=true then Q true H1 else u σ H1 Q
def tNot (t:TT):TT:=fun σ H Q=>t σ H fun c H1=>Q (!c) H1
theorem pw_and1 (ha:PT X a tA):PW X (.BoolOp .And [a] pos) tA:=by
 intro wh pins s σ H Q I h
 refine isTrue_and (thn (ha pins s σ H Q I h) fun c s1 e=>?_)
 cases c with
 | true=>exact isTrue_and_nil e
 | false=>exact e
theorem pw_or1 (ha:PT X a tA):PW X (.BoolOp .Or [a] pos) tA:=by
 intro wh pins s σ H Q I h
 refine isTrue_or (thn (ha pins s σ H Q I h) fun c s1 e=>?_)
 cases c with
 | false=>exact isTrue_or_nil e
 | true=>exact e
theorem pw_and (ha:PT X a tA) (hb:PW X (.BoolOp .And (b::rest) pos) tB'):PW X (.BoolOp .And (a::b::rest) pos) (tAnd tA tB'):=by
 intro wh pins s σ H Q I h
 refine isTrue_and (thn (ha pins s σ H _ I h) fun c s1 ⟨H1,I1,q1⟩=>?_)
 cases c with
 | true=>exact hb wh pins s1 σ H1 Q I1 q1
 | false=>exact ⟨H1,I1,q1⟩
theorem pw_or (ha:PT X a tA) (hb:PW X (.BoolOp .Or (b::rest) pos) tB'):PW X (.BoolOp .Or (a::b::rest) pos) (tOr tA tB'):=by
 intro wh pins s σ H Q I h
 refine isTrue_or (thn (ha pins s σ H _ I h) fun c s1 ⟨H1,I1,q1⟩=>?_)
 cases c with
 | true=>exact ⟨H1,I1,q1⟩
 | false=>exact hb wh pins s1 σ H1 Q I1 q1
theorem zC2 (ha:PT X a tA):PT X (.UnaryOp .Not a pos) (tNot tA):=by
 intro pins s σ H Q I h
 exact isTrue_not (ha pins s σ H (fun c H1=>Q (!c) H1) I h)
def tAndV (ta tb:TE):TE:=fun σ H Q=>ta σ H fun x H1=>∃c,x= .bl c/\if c=true then tb σ H1 Q else Q (.bl false) H1
def tOrV (ta tb:TE):TE:=fun σ H Q=>ta σ H fun x H1=>∃c,x= .bl c/\if c=true then Q (.bl true) H1 else tb σ H1 Q
def tNotV (ta:TE):TE:=fun σ H Q=>ta σ H fun x H1=>∃c,x= .bl c/\Q (.bl (!c)) H1
theorem zH9 {op} {t:TE} (h:PE X a t):PE X (.BoolOp op [a] pos) t:=fun pins s σ H Q I hw=>BoolOp_one (h pins s σ H Q I hw)
theorem pe_and (ha:PE X a ta) (hb:PE X (.BoolOp .And (b::rest) pos) tb):PE X (.BoolOp .And (a::b::rest) pos) (tAndV ta tb):=by
 intro pins s σ H Q I h
 refine BoolOp_and (thn (ha pins s σ H _ I h) fun v s1 ⟨x,H1,I1,r1,q1⟩=>?_)
 obtain ⟨c,rfl,q1⟩:=q1
 cases r1
 refine wpAny_truthy_bool ?_
 cases c with
 | true=>exact hb pins s1 σ H1 Q I1 q1
 | false=>exact ⟨.bl false,H1,I1,rfl,q1⟩
theorem pe_or (ha:PE X a ta) (hb:PE X (.BoolOp .Or (b::rest) pos) tb):PE X (.BoolOp .Or (a::b::rest) pos) (tOrV ta tb):=by
 intro pins s σ H Q I h
 refine BoolOp_or (thn (ha pins s σ H _ I h) fun v s1 ⟨x,H1,I1,r1,q1⟩=>?_)
 obtain ⟨c,rfl,q1⟩:=q1
 cases r1
 refine wpAny_truthy_bool ?_
 cases c with
 | false=>exact hb pins s1 σ H1 Q I1 q1
 | true=>exact ⟨.bl true,H1,I1,rfl,q1⟩
theorem pe_not (ha:PE X a ta):PE X (.UnaryOp .Not a pos) (tNotV ta):=by
 intro pins s σ H Q I h
 refine UnaryOp_ (thn (ha pins s σ H _ I h) fun v s1 ⟨x,H1,I1,r1,q1⟩=>?_)
 obtain ⟨c,rfl,q1⟩:=q1
 cases r1
 exact not_of (wpAny_truthy_bool ⟨.bl (!c),H1,I1,rfl,q1⟩)
def tIf (t:TT) (ta tb:TE):TE:=fun σ H Q=>t σ H fun c H1=>if c=true then ta σ H1 Q else tb σ H1 Q
theorem pe_ifExp {c:Expr} (hc:PT X c tA) (ha:PE X a ta) (hb:PE X b tb):PE X (.IfExp c a b pos) (tIf tA ta tb):=by
 intro pins s σ H Q I h
 refine wpAny_IfExp (thn (hc pins s σ H _ I h) fun d s1 ⟨H1,I1,q1⟩=>?_)
 cases d with
 | true=>exact ha pins s1 σ H1 Q I1 q1
 | false=>exact hb pins s1 σ H1 Q I1 q1
end
def SqL (K:PySem.W.Frag) (H:Hp) (a:Addr) (xs:List V):Prop :=
 Rd H a (.lst xs) \/
  ∃(o:Obj) (its:Array Value) (n:Nat),K.lookup a=some o/\o.cls= .type "list" /\o.dict=none/\o.data= .seq its n/\its.size<=sizeLine/\Vals xs its.toList
def SqT (K:PySem.W.Frag) (H:Hp) (a:Addr) (xs:List V):Prop :=
 Rd H a (.tup xs) \/
  ∃(o:Obj) (its:Array Value) (n:Nat),K.lookup a=some o/\o.cls= .type "tuple" /\o.data= .seq its n/\its.size<=sizeLine/\Vals xs its.toList
def absV:Value->Option V
 | .none=>some .non
 | .bool b=>some (.bl b)
 | .int i _=>some (.int i)
 | .str x _=>some (.str x)
 | .bytes b _=>some (.byt b)
 | .float b _=>some (.flt b)
 | .ref a=>some (.ref a)
 | .type n=>some (.ty n)
 | _=>none
theorem RelV.abs {x:V} {u:Value} (r:RelV x u):absV u=some x:=by
 cases x with
 | non=>cases r;rfl
 | bl _=>cases r;rfl
 | int _=>obtain ⟨t,rfl⟩:=r;rfl
 | str _=>obtain ⟨t,rfl⟩:=r;rfl
 | byt _=>obtain ⟨t,rfl⟩:=r;rfl
 | flt _=>obtain ⟨t,rfl⟩:=r;rfl
 | ref _=>cases r;rfl
 | ty _=>cases r;rfl
theorem RelV.inj {x y:V} {u:Value} (r:RelV x u) (q:RelV y u):x=y:=Option.some.inj (r.abs.symm.trans q.abs)
theorem Vals.inj:∀{xs ys:List V} {us:List Value},Vals xs us->Vals ys us->xs=ys
 | _,_,_,.nil,.nil=>rfl
 | _,_,_,.cons r t,.cons r' t'=>by rw [r.inj r',Vals.inj t t']
section
variable {X:Cx} {pins:List (Addr×Obj)} {σ:St} {H:Hp} {s:Shared} {a:Addr} {xs ys:List V}
theorem SqL.of {K:PySem.W.Frag} (h:H a=some (.lst xs)):SqL K H a xs:=.inl (.inl h)
theorem SqT.of {K:PySem.W.Frag} (h:H a=some (.tup xs)):SqT K H a xs:=.inl (.inl h)
theorem Inv.list (I:Inv X pins σ H s) (h:SqL X.K H a xs):∃its:List Value,Vals xs its/\PlainL s.heap a its.toArray/\xs.length<=sizeLine:=by
 rcases h with h| ⟨o,its,n,hk,hc,hd,hs,hz,r⟩
 ·obtain ⟨z,its,n,r,e⟩:=h.ok I.hok
  exact ⟨its,r,⟨_,n,e,rfl,rfl,rfl⟩,z⟩
 ·refine ⟨its.toList,r,⟨o,n,I.kIn a o hk,hc,hd,by simpa using hs⟩,?_⟩
  have e:=r.length
  simp only [Array.length_toList] at e
  omega
theorem Inv.tuple (I:Inv X pins σ H s) (h:SqT X.K H a xs):∃its:List Value,Vals xs its/\IsTup s.heap a its.toArray/\xs.length<=sizeLine:=by
 rcases h with h| ⟨o,its,n,hk,hc,hs,hz,r⟩
 ·obtain ⟨z,its,r,p⟩:=h.ok I.hok
  exact ⟨its,r,p,z⟩
 ·refine ⟨its.toList,r,⟨o,I.kIn a o hk,hc,n,by simpa using hs⟩,?_⟩
  have e:=r.length
  simp only [Array.length_toList] at e
  omega
theorem Inv.list_inj (I:Inv X pins σ H s) (h:SqL X.K H a xs) (h':SqL X.K H a ys):xs=ys:=by
 obtain ⟨its,r,⟨o,n,e,_,_,d⟩,_⟩:=I.list h
 obtain ⟨its',r',⟨o',n',e',_,_,d'⟩,_⟩:=I.list h'
 rw [e] at e';cases e'
 rw [d] at d'
 injection d' with d1 _
 have:its=its':=by simpa using congrArg Array.toList d1
 subst this
 exact r.inj r'
theorem Inv.tuple_inj (I:Inv X pins σ H s) (h:SqT X.K H a xs) (h':SqT X.K H a ys):xs=ys:=by
 obtain ⟨its,r,⟨o,e,_,n,d⟩,_⟩:=I.tuple h
 obtain ⟨its',r',⟨o',e',_,n',d'⟩,_⟩:=I.tuple h'
 rw [e] at e';cases e'
 rw [d] at d'
 injection d' with d1 _
 have:its=its':=by simpa using congrArg Array.toList d1
 subst this
 exact r.inj r'
end
abbrev Cx.wish (X:Cx) (E:Value->Shared->Prop):Cx:={X with xe:=E}
abbrev Cx.nox (X:Cx):Cx:=X.wish fun _ _=>False
theorem Cx.Ok.wish {X:Cx} (ok:X.Ok) (E:Value->Shared->Prop):(X.wish E).Ok :=
 ⟨ok.mod,ok.kind,ok.glob,ok.blt,ok.above,ok.inj,ok.has,ok.cab,ok.hd,ok.frames,ok.stk,ok.exf,ok.bs,ok.bsz,ok.noex,ok.exfs,ok.funs,ok.frf⟩
theorem Cx.Ok.unwish {X:Cx} {E:Value->Shared->Prop} (ok:(X.wish E).Ok):X.Ok :=
 ⟨ok.mod,ok.kind,ok.glob,ok.blt,ok.above,ok.inj,ok.has,ok.cab,ok.hd,ok.frames,ok.stk,ok.exf,ok.bs,ok.bsz,ok.noex,ok.exfs,ok.funs,ok.frf⟩
section
variable {X:Cx} {pins:List (Addr×Obj)} {σ:St} {H:Hp} {s:Shared} {E:Value->Shared->Prop}
theorem Inv.wish (I:Inv X pins σ H s) (E:Value->Shared->Prop):Inv (X.wish E) pins σ H s:=⟨I.ok.wish E,I.os,I.bare,I.base,I.loc,I.cell,I.free,I.freeC,I.pin,I.hok,I.len⟩
theorem Inv.unwish (I:Inv (X.wish E) pins σ H s):Inv X pins σ H s:=⟨I.ok.unwish,I.os,I.bare,I.base,I.loc,I.cell,I.free,I.freeC,I.pin,I.hok,I.len⟩
theorem SP.unwish {D:Ends} {f:Flow} {s':Shared} (h:SP (X.wish E) pins D f s'):SP X pins D f s':=by
 cases f with
 | next=>obtain ⟨σ',H',I,q⟩:=h;exact ⟨σ',H',I.unwish,q⟩
 | brk=>obtain ⟨σ',H',I,q⟩:=h;exact ⟨σ',H',I.unwish,q⟩
 | cont=>obtain ⟨σ',H',I,q⟩:=h;exact ⟨σ',H',I.unwish,q⟩
 | ret u=>obtain ⟨v,σ',H',I,r,q⟩:=h;exact ⟨v,σ',H',I.unwish,r,q⟩
theorem PSs.nox {st:List Stmt} {t:TS} (h:PSs X.nox st t):PSs X st t:=fun pins s σ H D I hw =>
 wpAny_mono (h pins s σ H D (I.wish _) hw) (fun _ _ q=>q.unwish) fun _ _ z=>False.elim z
end
section
variable {X:Cx} {st:Stmt} {rest:List Stmt} {t u:TS} {e:Expr} {te:TE} {pos:Pos}
def tNext:TS:=fun D σ H=>D.nx σ H
def tSeq (t u:TS):TS:=fun D σ H=>t {D with nx:=u D} σ H
theorem zAm:PSs X [] tNext:=fun _ _ σ H _ I h=>wpAny_execs_nil ⟨σ,H,I,h⟩
theorem zAc (h1:PS X st t) (h2:PSs X rest u):PSs X (st::rest) (tSeq t u):=by
 intro pins s σ H D I h
 refine wpAny_execs_cons (thn (h1 pins s σ H {D with nx:=u D} I h) fun f s1 q=>?_)
 cases f with
 | next =>
  obtain ⟨σ',H',I',q⟩:=q
  exact h2 pins s1 σ' H' D I' q
 | ret v=>exact q
 | brk=>exact q
 | cont=>exact q
theorem zAd (h1:PS X st t):PSs X [st] t:=by
 intro pins s σ H D I h
 refine wpAny_execs_cons (thn (h1 pins s σ H D I h) fun f s1 q=>?_)
 cases f with
 | next=>exact wpAny_execs_nil q
 | ret v=>exact q
 | brk=>exact q
 | cont=>exact q
theorem Inv.quiet {pins:List (Addr×Obj)} {σ:St} {H:Hp} {s:Shared} (I:Inv X pins σ H s):interactive X.env=false:=by simp [interactive,I.ok.kind]
def tDrop (te:TE):TS:=fun D σ H=>te σ H fun _ H1=>D.nx σ H1
theorem zA3 (he:PE X e te) (hs:swapsWith e none pos.line X.env=pure false:=by rfl):PS X (.Expr e pos) (tDrop te):=by
 intro pins s σ H D I h
 exact wpAny_Expr_any (thn (he pins s σ H _ I h) fun v s1 ⟨x,H1,I1,r1,q1⟩=>⟨σ,H1,I1,q1⟩) I.quiet hs
def tRet (te:TE):TS:=fun D σ H=>te σ H D.rt
theorem zAq (he:PE X e te):PS X (.Return (some e) pos) (tRet te):=by
 intro pins s σ H D I h
 exact wpAny_Return_some (thn (he pins s σ H _ I h) fun v s1 ⟨x,H1,I1,r1,q1⟩=>⟨x,σ,H1,I1,r1,q1⟩)
def tIfS (c:TT) (t u:TS):TS:=fun D σ H=>c σ H fun b H1=>if b=true then t D σ H1 else u D σ H1
theorem zA2 {c:Expr} {a b:List Stmt} {tc:TT} (hc:PT X c tc) (ha:PSs X a t) (hb:PSs X b u):PS X (.If c a b pos) (tIfS tc t u):=by
 intro pins s σ H D I h
 refine wpAny_If (thn (hc pins s σ H _ I h) fun d s1 ⟨H1,I1,q1⟩=>?_)
 cases d with
 | true=>exact ha pins s1 σ H1 D I1 q1
 | false=>exact hb pins s1 σ H1 D I1 q1
def tNever:TS:=fun _ _ _=>False
theorem zDz:PS X st tNever:=fun _ _ _ _ _ _ h=>h.elim
theorem zBt {sts:List Stmt}:PSs X sts tNever:=fun _ _ _ _ _ _ h=>h.elim
end
abbrev TG:=V->St->Hp->(St->Hp->Prop)->Prop
abbrev TGs:=List V->St->Hp->(St->Hp->Prop)->Prop
def PG (X:Cx) (target:Expr) (t:TG):Prop :=
 ∀(pins:List (Addr×Obj)) (s:Shared) (σ:St) (H:Hp) (v:V) (u:Value) (Q:St->Hp->Prop),Inv X pins σ H s->RelV v u->t v σ H Q ->
  wpAny (model X.prog X.w) X.A (assign target X.env u) (fun _ s'=>∃σ' H',Inv X pins σ' H' s'/\Q σ' H') X.xe s
def PGs (X:Cx) (ts:List Expr) (t:TGs):Prop :=
 ∀(pins:List (Addr×Obj)) (s:Shared) (σ:St) (H:Hp) (vs:List V) (us:List Value) (Q:St->Hp->Prop),Inv X pins σ H s->Vals vs us->t vs σ H Q ->
  wpAny (model X.prog X.w) X.A (assignInOrder ((assignEach ts X.env).map (·.2)) us) (fun _ s'=>∃σ' H',Inv X pins σ' H' s'/\Q σ' H') X.xe s
abbrev TSet:=V->V->V->Hp->(Hp->Prop)->Prop
def PSet (X:Cx) (t:TSet):Prop :=
 ∀(pins:List (Addr×Obj)) (s:Shared) (σ:St) (H:Hp) (o i v:V) (ov iv u:Value) (Q:Hp->Prop),Inv X pins σ H s->RelV o ov->RelV i iv->RelV v u->t o i v H Q ->
  wpAny (model X.prog X.w) X.A (setItem ov iv u) (fun _ s'=>∃H',Inv X pins σ H' s'/\Q H') X.xe s
section
variable {X:Cx} {pos:Pos}
def gName (i:Nat):TG:=fun v σ H Q=>Q (σ.set i (some v)) H
theorem zAk {i:Nat} {x:Str} (hN:X.N.Nodup) (hi:X.N[i]?=some x) (hx:Loc X.env.scope x) (hf:X.fn x=true\/X.env.scope.names.lookup x=some .local:=by first| exact .inl rfl| exact .inr rfl| assumption):PG X (.Name x pos) (gName i):=by
 intro pins s σ H v u Q I r h
 exact wpAny_assign_Name (zGi I hN hi hx r (fun s' I'=>⟨_,H,I',h⟩) hf)
def gNil:TGs:=fun vs σ H Q=>vs=[]/\Q σ H
def gCons (t:TG) (u:TGs):TGs:=fun vs σ H Q=>∃v r,vs=v::r/\t v σ H fun σ' H'=>u r σ' H' Q
theorem zD9:PGs X [] gNil:=by
 intro pins s σ H vs us Q I r h
 obtain ⟨e,h⟩:=h
 subst e
 cases r
 exact assignInOrder_nil ⟨σ,H,I,h⟩
theorem zA8 {e:Expr} {es:List Expr} {t:TG} {u:TGs} (h1:PG X e t) (h2:PGs X es u)
  (hs:(assignEach (e::es) X.env).map (·.2)=assign e X.env::(assignEach es X.env).map (·.2):=by rfl):PGs X (e::es) (gCons t u):=by
 intro pins s σ H vs us Q I r h
 obtain ⟨v,vr,e1,h⟩:=h
 subst e1
 cases r with
 | cons r rr =>
  rw [hs]
  refine assignInOrder_cons (thn (h1 pins s σ H _ _ _ I r h) fun _ s1 ⟨σ1,H1,I1,q1⟩=>?_)
  exact h2 pins s1 σ1 H1 _ _ Q I1 rr q1
def gTup (K:PySem.W.Frag) (n:Nat) (t:TGs):TG:=fun v σ H Q=>∃a xs,v= .ref a/\SqT K H a xs/\xs.length=n/\t xs σ H Q
theorem pg_tup {es:List Expr} {k:Nat} {t:TGs} {n:Nat} (hc:X.calm=true) (h:PGs X es t)
  (hn:(assignEach es X.env).length=n:=by rfl) (hst:(assignEach es X.env).findIdx? (·.1)=none:=by rfl):PG X (.Tuple es k pos) (gTup X.K n t):=by
 intro pins s σ H v u Q I r hw
 obtain ⟨a,xs,e1,hq,hl,hw⟩:=hw
 subst e1
 cases r
 obtain ⟨its,rv,ht,hz⟩:=I.tuple hq
 refine assign_Tuple_tuple (I.ok.hd hc) ht (by simp [hn,<-hl,rv.length]) hst fun h' hx=>?_
 have I1:Inv X pins σ H {s with heap:=h'}:=I.kept (t':=s.toks) fun b o e=>hx b o (Nat.ne_of_lt (Heap.lt_size e)) e
 exact h pins _ σ H xs _ Q I1 (by simpa using rv) hw
def gSub (to ti:TE) (t:TSet):TG:=fun v σ H Q=>to σ H fun o H1=>ti σ H1 fun i H2=>t o i v H2 fun H3=>Q σ H3
theorem pg_sub {o i:Expr} {to ti:TE} {t:TSet} (ho:PE X o to) (hi:PE X i ti) (hs:PSet X t)
  (ha:∀v,assign (.Subscript o i pos) X.env v=(do
   let ov<-holding [v] (eval o X.env)
   let iv<-holding [v,ov] (eval i X.env)
   standAt pos
   holding [v,ov,iv] (setItem ov iv v)
   release [v,ov,iv] []):=by intro _;rfl):PG X (.Subscript o i pos) (gSub to ti t):=by
 intro pins s σ H v u Q I r h
 rw [ha]
 refine wpAny_bind (wpAny_holding (thn (ho pins s σ H _ I h) fun ov s1 ⟨x,H1,I1,r1,q1⟩=>?_))
 refine wpAny_bind (wpAny_holding (thn (hi pins s1 σ H1 _ I1 q1) fun iv s2 ⟨y,H2,I2,r2,q2⟩=>?_))
 refine wpAny_bind (wpAny_standAt (wpAny_bind (wpAny_holding (thn (hs pins s2 σ H2 x y v ov iv u _ I2 r1 r2 r q2) fun _ s3 ⟨H3,I3,q3⟩=>?_))))
 exact wpAny_release ⟨σ,H3,I3,q3⟩
def tAsg (te:TE) (g:TG):TS:=fun D σ H=>te σ H fun x H1=>g x σ H1 D.nx
theorem ps_asg {tg e:Expr} {te:TE} {g:TG} (he:PE X e te) (hg:PG X tg g) (hs:swapsWithSole [tg] e pos.line X.env=pure false:=by rfl) (hw:swappedStores [tg] e X.env=pure none:=by rfl)
  (h1:(assignEach [tg] X.env).map (·.2)=[assign tg X.env]:=by rfl):PS X (.Assign [tg] e pos) (tAsg te g):=by
 intro pins s σ H D I h
 refine wpAny_Assign_stores (thn (he pins s σ H _ I h) fun v s1 ⟨x,H1,I1,r1,q1⟩=>?_) hs hw
 rw [h1]
 exact thn (hg pins s1 σ H1 x v _ I1 r1 q1) fun _ s2 q=>q
theorem zAn {i:Nat} {x:Str} {e:Expr} {te:TE} {pos':Pos} (hN:X.N.Nodup) (hi:X.N[i]?=some x) (hx:Loc X.env.scope x) (he:PE X e te) (hs:swapsWith e (some (.Name x pos')) pos.line X.env=pure false:=by rfl) (hf:X.fn x=true\/X.env.scope.names.lookup x=some .local:=by first| exact .inl rfl| exact .inr rfl| assumption) :
  PS X (.Assign [.Name x pos'] e pos) (tAsg te (gName i)):=by
 intro pins s σ H D I h
 refine wpAny_Assign_Name (thn (he pins s σ H _ I h) fun v s1 ⟨y,H1,I1,r1,q1⟩=>?_) hs
 exact zGi I1 hN hi hx r1 (fun s2 I2=>⟨_,H1,I2,q1⟩) hf
end
section
variable {X:Cx} {pos:Pos}
def tWhile (c:TT) (tb:TS):TS:=fun D σ H=>∃W:Nat->St->Hp->Prop,(∃m,W m σ H)/\∀m σ H,W m σ H ->
 c σ H fun b H1=>if b=true then∃N:St->Hp->Prop,(∀σ' H',N σ' H'->∃m',m'<m/\W m' σ' H')/\tb {D with nx:=N,ct:=N,bk:=D.nx} σ H1 else D.nx σ H1
theorem ps_while {c:Expr} {body:List Stmt} {tc:TT} {tb:TS} (hp:PassesOwn (model X.prog X.w) X.A X.env X.xe) (hc:PT X c tc) (hb:PSs X body tb):PS X (.While c body [] pos) (tWhile tc tb):=by
 intro pins s σ H D I h
 obtain ⟨W,⟨m0,w0⟩,turn⟩:=h
 refine wpAny_While (codeAny_whileLoop (fun n s'=>∃σ' H',Inv X pins σ' H' s'/\W n σ' H') ?_ m0 ⟨σ,H,I,w0⟩)
 rintro n s1 ⟨σ1,H1,I1,w1⟩
 refine wpAny_passesOwn hp (thn (hc pins s1 σ1 H1 _ I1 (turn n σ1 H1 w1)) fun b s2 ⟨H2,I2,q2⟩=>?_)
 cases b with
 | true =>
  obtain ⟨N,hN,q2⟩:=q2
  rw [if_pos rfl]
  refine wpAny_passesOwn hp (thn (hb pins s2 σ1 H2 _ I2 q2) fun f s3 q3=>?_)
  cases f with
  | next =>
   obtain ⟨σ3,H3,I3,n3⟩:=q3
   obtain ⟨m',hm,w3⟩:=hN σ3 H3 n3
   exact ⟨m',hm,σ3,H3,I3,w3⟩
  | cont =>
   obtain ⟨σ3,H3,I3,n3⟩:=q3
   obtain ⟨m',hm,w3⟩:=hN σ3 H3 n3
   exact ⟨m',hm,σ3,H3,I3,w3⟩
  | brk=>exact q3
  | ret v=>exact q3
 | false =>
  rw [if_neg Bool.false_ne_true]
  exact wpAny_execs_nil ⟨σ1,H2,I2,q2⟩
end
structure It where
 go:Nat->Hp->Prop
 yld:Nat->Hp->V->Hp->Prop
 stop:Nat->Hp->Prop
def FpOk (X:Cx) (pins:List (Addr×Obj)) (H:Hp) (b:Addr):Prop :=
 H b=none/\b≠X.env.locals/\b∉X.fs/\(b∈X.ex\/X.s₀.heap.objs.size<=b)/\(∀x c,X.env.cells.lookup x=some c->c≠b)/\∀p∈X.pn++pins,p.1≠b
theorem Inv.fpOk {X:Cx} {pins:List (Addr×Obj)} {σ:St} {H H':Hp} {s:Shared} {b:Addr} (I:Inv X pins σ H s) (hb:s.heap.objs.size<=b) (hn:H' b=none):FpOk X pins H' b:=by
 refine ⟨hn,Nat.ne_of_gt (Nat.lt_of_lt_of_le I.lt hb),I.nofs hb,.inr (Nat.le_trans I.sz hb),fun x c e z=>?_,fun p hp z=>?_⟩
 ·obtain ⟨v,q⟩:=I.cell x c e
  exact absurd (Nat.lt_of_lt_of_le q.lt (by rw [z];exact hb)) (Nat.lt_irrefl _)
 ·exact absurd (Nat.lt_of_lt_of_le (Heap.lt_size (I.pin p hp).1) (by rw [z];exact hb)) (Nat.lt_irrefl _)
structure Turn (P:Program) (w:World) (K:PySem.W.Frag) (tg:Expr) (J:It) (fp:List Addr) (it:Addr) (tn:Nat->Heap->Prop):Prop where
 mem:it∈fp
 obj:∀i h,tn i h->∀b∈fp,∃o,h.get? b=some o/\∀v,o.data≠.cell v
 keep:∀i h h',tn i h->(∀b∈fp,∀o,h.get? b=some o->h'.get? b=some o)->tn i h'
 item:∀(X:Cx),X.prog=P->X.w=w->X.K=K->X.calm=true->∀(i:Nat) (pins:List (Addr×Obj)) (s:Shared) (σ:St) (H:Hp) (E:Value->Shared->Prop),Inv X pins σ H s->(∀b∈fp,FpOk X pins H b)->tn i s.heap->J.go i H ->
  wpAny (model P w) X.A (pyNext (.ref it)) (fun r s1=>∃u,r=some u /\
   wpAny (model P w) X.A (letOwnedTupleGo tg (.ref it) u) (fun _ s2=>∃x H',Inv X pins σ H' s2/\RelV x u/\J.yld i H x H'/\tn (i+1) s2.heap/\∀b∈fp,H' b=none) E s1) E s
 done:∀(X:Cx),X.prog=P->X.w=w->X.K=K->X.calm=true->∀(i:Nat) (pins:List (Addr×Obj)) (s:Shared) (σ:St) (H:Hp) (E:Value->Shared->Prop),Inv X pins σ H s->(∀b∈fp,FpOk X pins H b)->tn i s.heap->J.stop i H ->
  wpAny (model P w) X.A (pyNext (.ref it)) (fun r s1=>r=none/\Inv X pins σ H s1) E s
 self:∀(A:Around) (i:Nat) (s:Shared) (Q:Value->Shared->Prop) (E:Value->Shared->Prop),tn i s.heap->Q (.ref it) s->wpAny (model P w) A (pyIter (.ref it)) Q E s
abbrev TI:=St->Hp->(It->Hp->Prop)->Prop
def PIE (X:Cx) (pins:List (Addr×Obj)) (σ:St) (tg:Expr) (R:It->Hp->Prop) (itv:Value) (s2:Shared):Prop :=
 ∃(it:Addr) (fp:List Addr) (tn:Nat->Heap->Prop) (J:It) (H':Hp),itv= .ref it/\Inv X pins σ H' s2/\Turn X.prog X.w X.K tg J fp it tn/\tn 0 s2.heap/\(∀b∈fp,FpOk X pins H' b)/\R J H'
def PI (X:Cx) (tg iter:Expr) (wi:TI):Prop :=
 ∀(pins:List (Addr×Obj)) (s:Shared) (σ:St) (H:Hp) (R:It->Hp->Prop),Inv X pins σ H s->wi σ H R ->
  wpAny (model X.prog X.w) X.A (eval iter X.env) (fun v s1=>wpAny (model X.prog X.w) X.A (pyIter v) (PIE X pins σ tg R) X.xe s1) X.xe s
theorem go_of {M:Model} {A:Around} {E:Value->Shared->Prop} {s:Shared} {tg:Expr} {it:Addr} {u:Value} {o:Obj} {n:String} {vs:Array Value} {Q:Unit->Shared->Prop} (ho:s.heap.get? it=some o) (hc:o.cls= .type n) (hd:o.data= .fields vs)
  (hn:["enumerate", "zip", "dict_itemiterator", "dict_reverseitemiterator", "odict_iterator", "itertools.zip_longest", "itertools.pairwise"].contains n=false) (hQ:Q () s):wpAny M A (letOwnedTupleGo tg (.ref it) u) Q E s:=by
 unfold letOwnedTupleGo
 cases tg<;>first
  | exact wpAny_pure hQ
  | (cases u<;>first
    | exact wpAny_pure hQ
    | (refine wpAny_bind (wpAny_load ho ?_)
       rw [hc,hd]
       show wpAny M A (if (["enumerate", "zip", "dict_itemiterator", "dict_reverseitemiterator", "odict_iterator", "itertools.zip_longest", "itertools.pairwise"].contains n&&vs[0]?==some (rawInt _))=true then _ else _) Q E s
       rw [if_neg (by intro h;rw [hn,Bool.false_and] at h;cases h)]
       exact wpAny_pure hQ))
def Itl (K:PySem.W.Frag) (a:Addr):It :=
 ⟨fun i H=>∃xs x,SqL K H a xs/\xs[i]?=some x,fun i H x H'=>H'=H/\∀xs,SqL K H a xs->xs[i]?=some x,fun i H=>∃xs,SqL K H a xs/\xs.length<=i⟩
def Itt (K:PySem.W.Frag) (a:Addr):It :=
 ⟨fun i H=>∃xs x,SqT K H a xs/\xs[i]?=some x,fun i H x H'=>H'=H/\∀xs,SqT K H a xs->xs[i]?=some x,fun i H=>∃xs,SqT K H a xs/\xs.length<=i⟩
def Itr (lo:Int) (n:Nat):It:=⟨fun i _=>i<n,fun i H x H'=>H'=H/\x= .int (lo+i),fun i _=>n<=i⟩
theorem turn_list {P:Program} {w:World} {K:PySem.W.Frag} {tg:Expr} (a it:Addr):Turn P w K tg (Itl K a) [it] it (fun i h=>h.IsListIter it a i) where
 mem:=by simp
 obj:=fun i h st b hb=>by
  have e:b=it:=by simpa using hb
  subst e
  obtain ⟨o,e,c,d⟩:=st
  exact ⟨o,e,fun v z=>by rw [d] at z;cases z⟩
 keep:=fun i h h' st k=>st.at fun o e=>k it (by simp) o e
 item:=by
  intro X hP hw hK hc i pins s σ H E I hf st hg
  subst hP hw hK
  obtain ⟨xs,x,hq,hx⟩:=hg
  obtain ⟨its,rv,p,hz⟩:=I.list hq
  obtain ⟨u,hu,ru⟩:=rv.get hx
  obtain ⟨f0,f1,f2,f3,f4,f5⟩:=hf it (by simp)
  refine wpAny_pyNext_list_item st p.isList (x:=u) (by simpa using hu) fun h' st' sb=>?_
  have I1:Inv X pins σ H {s with heap:=h'}:=I.turned (t':=s.toks) (fun b o hb e=>(sb.2 b hb).trans e) f0 f1 f3 f4 f5
  obtain ⟨o,e,c,d⟩:=id st'
  exact ⟨u,rfl,go_of (s:={s with heap:=h'}) e c d (by decide) ⟨x,H,I1,ru,⟨rfl,fun ys hy=>by rw [I.list_inj hy hq];exact hx⟩,st',fun b hb=>(hf b hb).1⟩⟩
 done:=by
  intro X hP hw hK hc i pins s σ H E I hf st hg
  subst hP hw hK
  obtain ⟨xs,hq,hx⟩:=hg
  obtain ⟨its,rv,p,hz⟩:=I.list hq
  obtain ⟨f0,f1,f2,f3,f4,f5⟩:=hf it (by simp)
  have hl:=rv.length
  exact wpAny_pyNext_list_end (I.ok.hd hc) st p.isList (by simp;omega) fun h' eb=>⟨rfl,I.turned (t':=s.toks) (fun b o hb e=>eb b o hb e) f0 f1 f3 f4 f5⟩
 self:=fun _ _ _ _ _ st h=>wpAny_pyIter_listiter st h
theorem turn_tuple {P:Program} {w:World} {K:PySem.W.Frag} {tg:Expr} (a it:Addr):Turn P w K tg (Itt K a) [it] it (fun i h=>h.IsTupleIter it a i) where
 mem:=by simp
 obj:=fun i h st b hb=>by
  have e:b=it:=by simpa using hb
  subst e
  obtain ⟨o,e,c,d⟩:=st
  exact ⟨o,e,fun v z=>by rw [d] at z;cases z⟩
 keep:=fun i h h' st k=>st.at fun o e=>k it (by simp) o e
 item:=by
  intro X hP hw hK hc i pins s σ H E I hf st hg
  subst hP hw hK
  obtain ⟨xs,x,hq,hx⟩:=hg
  obtain ⟨its,rv,p,hz⟩:=I.tuple hq
  obtain ⟨u,hu,ru⟩:=rv.get hx
  obtain ⟨f0,f1,f2,f3,f4,f5⟩:=hf it (by simp)
  refine wpAny_pyNext_tuple_item st (show s.heap.IsTuple a its.toArray from p) (x:=u) (by simpa using hu) fun h' st' sb=>?_
  have I1:Inv X pins σ H {s with heap:=h'}:=I.turned (t':=s.toks) (fun b o hb e=>(sb.2 b hb).trans e) f0 f1 f3 f4 f5
  obtain ⟨o,e,c,d⟩:=id st'
  exact ⟨u,rfl,go_of (s:={s with heap:=h'}) e c d (by decide) ⟨x,H,I1,ru,⟨rfl,fun ys hy=>by rw [I.tuple_inj hy hq];exact hx⟩,st',fun b hb=>(hf b hb).1⟩⟩
 done:=by
  intro X hP hw hK hc i pins s σ H E I hf st hg
  subst hP hw hK
  obtain ⟨xs,hq,hx⟩:=hg
  obtain ⟨its,rv,p,hz⟩:=I.tuple hq
  obtain ⟨f0,f1,f2,f3,f4,f5⟩:=hf it (by simp)
  have hl:=rv.length
  exact wpAny_pyNext_tuple_end (I.ok.hd hc) st (show s.heap.IsTuple a its.toArray from p) (by simp;omega) fun h' eb=>⟨rfl,I.turned (t':=s.toks) (fun b o hb e=>eb b o hb e) f0 f1 f3 f4 f5⟩
 self:=fun _ _ _ _ _ st h=>wpAny_pyIter_tupleiter st h
theorem turn_range {P:Program} {w:World} {K:PySem.W.Frag} {tg:Expr} (it:Addr) (lo:Int) (n:Nat):Turn P w K tg (Itr lo n) [it] it (fun i h=>IsRangeIter h it (lo+(i:Nat)*1) ((n:Int) - (i:Nat)) 1) where
 mem:=by simp
 obj:=fun i h st b hb=>by
  have e:b=it:=by simpa using hb
  subst e
  exact ⟨_,st,fun v z=>by
   have z':Data.fields _=Data.cell v:=z
   cases z'⟩
 keep:=fun i h h' st k=>k it (by simp) _ st
 item:=by
  intro X hP hw hK hc i pins s σ H E I hf st hg
  subst hP hw hK
  obtain ⟨f0,f1,f2,f3,f4,f5⟩:=hf it (by simp)
  have W:=Walks.range (prog:=X.prog) (w:=X.w) (I.ok.hd hc) it lo 1 n
  refine W.item i s _ _ hg st fun v h' tk hv st' kk=>?_
  obtain ⟨t,rfl⟩:=hv
  have I1:Inv X pins σ H {s with heap:=h',toks:=tk}:=I.turned (fun b o hb e=>kk b o (by simpa using hb) e) f0 f1 f3 f4 f5
  refine ⟨_,rfl,go_of (s:={s with heap:=h',toks:=tk}) (n:= "range_iterator") st' rfl rfl (by decide) ⟨.int (lo+i),H,I1,⟨t,?_⟩,⟨rfl,rfl⟩,st',fun b hb=>(hf b hb).1⟩⟩
  rw [Int.mul_one]
 done:=by
  intro X hP hw hK hc i pins s σ H E I hf st hg
  subst hP hw hK
  obtain ⟨f0,f1,f2,f3,f4,f5⟩:=hf it (by simp)
  exact wpAny_pyNext_range_end (I.ok.hd hc) st (by have:n<=i:=hg;omega) fun h' eb=>⟨rfl,I.turned (t':=s.toks) (fun b o hb e=>eb b o hb e) f0 f1 f3 f4 f5⟩
 self:=fun _ _ _ _ _ st h=>wpAny_pyIter_rangeiter st h
section
variable {X:Cx} {tg:Expr}
def iList (K:PySem.W.Frag) (tl:TE):TI:=fun σ H R=>tl σ H fun x H1=>∃a,x= .ref a/\(∃xs,SqL K H1 a xs)/\R (Itl K a) H1
def iTup (K:PySem.W.Frag) (tl:TE):TI:=fun σ H R=>tl σ H fun x H1=>∃a,x= .ref a/\(∃xs,SqT K H1 a xs)/\R (Itt K a) H1
theorem zAx {l:Expr} {tl:TE} (hl:PE X l tl):PI X tg l (iList X.K tl):=by
 intro pins s σ H R I h
 refine thn (hl pins s σ H _ I h) fun v s1 ⟨x,H1,I1,r1,q1⟩=>?_
 obtain ⟨a,e,⟨xs,hq⟩,q⟩:=q1
 subst e
 cases r1
 obtain ⟨its,rv,p,hz⟩:=I1.list hq
 refine wpAny_pyIter_list p.isList ?_
 refine ⟨s1.heap.objs.size,[s1.heap.objs.size],_,_,H1,rfl,I1.kept (t':=s1.toks) fun b o e=>Heap.get?_push_of_some _ e,turn_list a _,⟨_,Heap.get?_push_size _ rfl,rfl,rfl⟩,fun b hb=>?_,q⟩
 have e:b=s1.heap.objs.size:=by simpa using hb
 subst e
 exact I1.fpOk (Nat.le_refl _) (I1.hok.fresh (Nat.le_refl _))
theorem pi_tup {l:Expr} {tl:TE} (hl:PE X l tl):PI X tg l (iTup X.K tl):=by
 intro pins s σ H R I h
 refine thn (hl pins s σ H _ I h) fun v s1 ⟨x,H1,I1,r1,q1⟩=>?_
 obtain ⟨a,e,⟨xs,hq⟩,q⟩:=q1
 subst e
 cases r1
 obtain ⟨its,rv,p,hz⟩:=I1.tuple hq
 refine wpAny_pyIter_tuple (show s1.heap.IsTuple a its.toArray from p) ?_
 refine ⟨s1.heap.objs.size,[s1.heap.objs.size],_,_,H1,rfl,I1.kept (t':=s1.toks) fun b o e=>Heap.get?_push_of_some _ e,turn_tuple a _,⟨_,Heap.get?_push_size _ rfl,rfl,rfl⟩,fun b hb=>?_,q⟩
 have e:b=s1.heap.objs.size:=by simpa using hb
 subst e
 exact I1.fpOk (Nat.le_refl _) (I1.hok.fresh (Nat.le_refl _))
theorem range_it {pins:List (Addr×Obj)} {σ:St} {H:Hp} {s:Shared} {R:It->Hp->Prop} {E:Value->Shared->Prop} {lo hi:Int} {t u v:Tok} {tk:Nat} (I:Inv X pins σ H s) (h1:-(2^62)<=lo) (h2:lo<2^62) (h3:-(2^62)<=hi) (h4:hi<2^62)
  (q:R (Itr lo (hi - lo).toNat) H):wpAny (model X.prog X.w) X.A (pyIter (.ref s.heap.objs.size)) (PIE X pins σ tg R) E {s with heap:=s.heap.push {cls:=.type "range",data:=.fields #[.int lo t,.int hi u,.int 1 v]},toks:=tk}:=by
 refine wpAny_pyIter_range (IsRange.new ..) (small_one h1 h2 h3 h4) ?_
 have I1:Inv X pins σ H {s with heap:=s.heap.push {cls:=.type "range",data:=.fields #[.int lo t,.int hi u,.int 1 v]},toks:=tk}:=I.kept fun b o e=>Heap.get?_push_of_some _ e
 refine ⟨(s.heap.push {cls:=.type "range",data:=.fields #[.int lo t,.int hi u,.int 1 v]}).objs.size,[(s.heap.push {cls:=.type "range",data:=.fields #[.int lo t,.int hi u,.int 1 v]}).objs.size],_,_,H,rfl,
  I1.kept (t':=tk) fun b o e=>Heap.get?_push_of_some _ e,turn_range _ lo (hi - lo).toNat,?_,fun b hb=>?_,q⟩
 ·have e1:lo+((0:Nat):Int)*1=lo:=by simp
  have e2:(((hi - lo).toNat:Nat):Int) - ((0:Nat):Int)=Builtin.Range.rangeSize lo hi 1:=by rw [rangeSize_one];split<;>omega
  show IsRangeIter _ _ (lo+((0:Nat):Int)*1) ((((hi - lo).toNat:Nat):Int) - ((0:Nat):Int)) 1
  rw [e1,e2]
  exact Heap.get?_push_size _ rfl
 ·have e:b=(s.heap.push {cls:=.type "range",data:=.fields #[.int lo t,.int hi u,.int 1 v]}).objs.size:=by simpa using hb
  subst e
  exact I1.fpOk (Nat.le_refl _) (I1.hok.fresh (Nat.le_refl _))
def iRng1 (ta:TA):TI:=fun σ H R=>ta σ H fun vs H1=>∃j:Int,vs=[.int j]/\-(2^62)<=j/\j<2^62/\R (Itr 0 j.toNat) H1
def iRng2 (ta:TA):TI:=fun σ H R=>ta σ H fun vs H1=>∃i j:Int,vs=[.int i,.int j]/\(-(2^62)<=i/\i<2^62/\-(2^62)<=j/\j<2^62)/\R (Itr i (j - i).toNat) H1
theorem zBj {a:Expr} {ta:TA} {p pos:Pos} (hg:Gl X "range") (hm:X.mg "range" = none) (ha:PA X [a] ta) (hs:starEach [a] X.env=[(false,eval a X.env)]:=by rfl):PI X tg (.Call (.Name "range" p) [a] [] pos) (iRng1 ta):=by
 intro pins s σ H R I h
 refine Call_ (ld_blt I hg hm boot_range (PyProof.Rows.callWith_type1 (thn (ha pos pins s σ H _ I h) fun us s1 ⟨vs,H1,I1,r1,q1⟩=>?_) hs rfl))
 obtain ⟨j,e,q1,q2,q⟩:=q1
 subst e
 cases r1 with
 | cons r rr =>
  cases rr
  obtain ⟨t,rfl⟩:=r
  exact call_range_1 (range_it I1 (by omega) (by omega) q1 q2 (by simpa using q))
theorem pi_range2 {a b:Expr} {ta:TA} {p pos:Pos} (hg:Gl X "range") (hm:X.mg "range" = none) (ha:PA X [a,b] ta) (hs:starEach [a,b] X.env=[(false,eval a X.env),(false,eval b X.env)]:=by rfl) (hs2:starEach [b] X.env=[(false,eval b X.env)]:=by rfl) :
  PI X tg (.Call (.Name "range" p) [a,b] [] pos) (iRng2 ta):=by
 intro pins s σ H R I h
 refine Call_ (ld_blt I hg hm boot_range (PyProof.Rows.callWith_type1 (thn (ha pos pins s σ H _ I h) fun us s1 ⟨vs,H1,I1,r1,q1⟩=>?_) (by rw [hs,hs2]) (by rw [hs2];rfl)))
 obtain ⟨i,j,e,⟨q1,q2,q3,q4⟩,q⟩:=q1
 subst e
 cases r1 with
 | cons r rr =>
  cases rr with
  | cons r' rr =>
   cases rr
   obtain ⟨t,rfl⟩:=r
   obtain ⟨t',rfl⟩:=r'
   exact call_range_2 (range_it I1 q1 q2 q3 q4 q)
def tFor (wi:TI) (g:TG) (tb:TS):TS:=fun D σ H=>wi σ H fun J H1=>∃W:Nat->Nat->St->Hp->Prop,(∃m,W 0 m σ H1)/\∀i m σ H,W i m σ H ->
 (J.stop i H/\D.nx σ H)\/(J.go i H/\∃N:St->Hp->Prop,(∀σ' H',N σ' H'->∃m',m'<m/\W (i+1) m' σ' H')/\∀x H',J.yld i H x H'->g x σ H' fun σ2 H2=>tb {D with nx:=N,ct:=N,bk:=D.nx} σ2 H2)
def zH8 (fp:List Addr) (h:Heap):List (Addr×Obj):=fp.filterMap fun b=>(h.get? b).map fun o=>(b,o)
theorem zCx {fp:List Addr} {h:Heap} {b:Addr} {o:Obj} (hb:b∈fp) (e:h.get? b=some o):(b,o)∈zH8 fp h:=List.mem_filterMap.mpr ⟨b,hb,by rw [e];rfl⟩
theorem of_pinsAt {fp:List Addr} {h:Heap} {p:Addr×Obj} (hp:p∈zH8 fp h):p.1∈fp/\h.get? p.1=some p.2:=by
 obtain ⟨b,hb,e⟩:=List.mem_filterMap.mp hp
 cases q:h.get? b with
 | none=>rw [q] at e;cases e
 | some o =>
  rw [q] at e
  have e':(b,o)=p:=Option.some.inj e
  subst e'
  exact ⟨hb,q⟩
theorem Inv.pinned {pins:List (Addr×Obj)} {σ:St} {H:Hp} {s:Shared} {fp:List Addr} (I:Inv X pins σ H s) (hf:∀b∈fp,FpOk X pins H b) (ho:∀b∈fp,∃o,s.heap.get? b=some o/\∀v,o.data≠.cell v):Inv X (pins++zH8 fp s.heap) σ H s :=
 I.pins_of fun p hp=>(List.mem_append.mp hp).elim (fun z=>I.pin p (List.mem_append_right _ z)) fun z=>by
  obtain ⟨hb,e⟩:=of_pinsAt z
  obtain ⟨f0,f1,f2,_⟩:=hf p.1 hb
  obtain ⟨o,e',d⟩:=ho p.1 hb
  rw [e] at e';cases e'
  exact ⟨e,f0,f1,f2,d⟩
theorem Inv.unpinned {pins pl:List (Addr×Obj)} {σ:St} {H:Hp} {s:Shared} (I:Inv X (pins++pl) σ H s):Inv X pins σ H s:=I.pins_of fun p hp=>I.pin p (List.mem_append_right _ (List.mem_append_left _ hp))
theorem zBb {iter:Expr} {body:List Stmt} {wi:TI} {g:TG} {tb:TS} {pos:Pos} (hp:PassesOwn (model X.prog X.w) X.A X.env X.xe) (hc:X.calm=true) (hi:PI X tg iter wi) (hg:PG X tg g) (hb:PSs X body tb)
  (hs:∀x,foldedSetIterable iter X.env x=pure x:=by intro _;rfl):PS X (.For tg iter body [] pos) (tFor wi g tb):=by
 intro pins s σ H D I h
 refine wpAny_For (thn (hi pins s σ H _ I h) fun v s1 h1=>thn h1 fun itv s2 h2=>?_) hs
 obtain ⟨it,fp,tn,J,H2,e,I2,T,st2,f2,W,⟨m0,w0⟩,turn⟩:=h2
 subst e
 have stat:∀{H':Hp},(∀b∈fp,H' b=none)->∀b∈fp,FpOk X pins H' b:=fun hn b hb=>⟨hn b hb,(f2 b hb).2⟩
 refine codeAny_forLoop_any (fun n s'=>∃i σ' H',Inv X pins σ' H' s'/\tn i s'.heap/\(∀b∈fp,H' b=none)/\W i n σ' H') ?_ m0 ⟨0,σ,H2,I2,st2,fun b hb=>(f2 b hb).1,w0⟩
 rintro n s3 ⟨i,σ3,H3,I3,st3,fr3,w3⟩
 rcases turn i n σ3 H3 w3 with ⟨stop,qn⟩| ⟨go,N,hN,step⟩
 ·refine wpAny_passesOwn hp (thn (T.done X rfl rfl rfl hc i pins s3 σ3 H3 X.xe I3 (stat fr3) st3 stop) fun r s4 ⟨hr,I4⟩=>?_)
  subst hr
  exact wpAny_execs_nil ⟨σ3,H3,I4,qn⟩
 ·refine wpAny_passesOwn hp (thn (T.item X rfl rfl rfl hc i pins s3 σ3 H3 X.xe I3 (stat fr3) st3 go) fun r s4 ⟨u,hr,h4⟩=>?_)
  subst hr
  refine wpAny_passesOwn hp (thn h4 fun _ s5 ⟨x,H5,I5,r5,y5,st5,fr5⟩=>?_)
  have I5':=I5.pinned (stat fr5) (T.obj _ _ st5)
  refine wpAny_passesOwn hp (thn (hg _ s5 σ3 H5 x u _ I5' r5 (step x H5 y5)) fun _ s6 ⟨σ6,H6,I6,q6⟩=>?_)
  refine wpAny_passesOwn hp (thn (hb _ s6 σ6 H6 _ I6 q6) fun f s7 q7=>?_)
  have again:∀{σ7:St} {H7:Hp},Inv X (pins++zH8 fp s5.heap) σ7 H7 s7->N σ7 H7->∃m,m<n/\∃i σ' H',Inv X pins σ' H' s7/\tn i s7.heap/\(∀b∈fp,H' b=none)/\W i m σ' H':=fun {σ7 H7} I7 n7=>by
   obtain ⟨m',hm,w7⟩:=hN σ7 H7 n7
   refine ⟨m',hm,i+1,σ7,H7,I7.unpinned,T.keep _ _ _ st5 fun b hb o e=>(I7.pin (b,o) (List.mem_append_right _ (List.mem_append_right _ (zCx hb e)))).1,fun b hb=>?_,w7⟩
   obtain ⟨o,e,d⟩:=T.obj _ _ st5 b hb
   exact (I7.pin (b,o) (List.mem_append_right _ (List.mem_append_right _ (zCx hb e)))).2.1
  cases f with
  | next=>obtain ⟨σ7,H7,I7,n7⟩:=q7;exact again I7 n7
  | cont=>obtain ⟨σ7,H7,I7,n7⟩:=q7;exact again I7 n7
  | brk=>obtain ⟨σ7,H7,I7,q7⟩:=q7;exact ⟨σ7,H7,I7.unpinned,q7⟩
  | ret v=>obtain ⟨x7,σ7,H7,I7,r7,q7⟩:=q7;exact ⟨x7,σ7,H7,I7.unpinned,r7,q7⟩
end
theorem zBk {K:PySem.W.Frag} {a:Addr} {xs:List V} {g:TG} {tb:TS} {D:Ends} {σ:St} {H:Hp} (Pv:Nat->St->Hp->Prop) (h0:Pv 0 σ H) (hl:∀i σ H,i<=xs.length->Pv i σ H->SqL K H a xs)
  (hs:∀i x σ H,xs[i]?=some x->Pv i σ H->g x σ H fun σ2 H2=>tb {D with nx:=Pv (i+1),ct:=Pv (i+1),bk:=D.nx} σ2 H2) (hd:∀σ H,Pv xs.length σ H->D.nx σ H) :
  ∃W:Nat->Nat->St->Hp->Prop,(∃m,W 0 m σ H)/\∀i m σ H,W i m σ H ->
   ((Itl K a).stop i H/\D.nx σ H)\/((Itl K a).go i H/\∃N:St->Hp->Prop,(∀σ' H',N σ' H'->∃m',m'<m/\W (i+1) m' σ' H')/\∀x H',(Itl K a).yld i H x H'->g x σ H' fun σ2 H2=>tb {D with nx:=N,ct:=N,bk:=D.nx} σ2 H2):=by
 refine ⟨fun i m σ H=>m=xs.length - i/\i<=xs.length/\Pv i σ H,⟨xs.length,by simp,Nat.zero_le _,h0⟩,?_⟩
 rintro i m σ H ⟨rfl,hi,p⟩
 have q:=hl i σ H hi p
 by_cases hlt:i<xs.length
 ·refine .inr ⟨⟨xs,xs[i],q,by simp [hlt]⟩,Pv (i+1),fun σ' H' p'=>⟨xs.length - (i+1),by omega,rfl,hlt,p'⟩,fun x H' y=>?_⟩
  obtain ⟨e,y⟩:=y
  subst e
  exact hs i x σ _ (y xs q) p
 ·have e:i=xs.length:=by omega
  subst e
  exact .inl ⟨⟨xs,q,Nat.le_refl _⟩,hd σ H p⟩
theorem for_tup {K:PySem.W.Frag} {a:Addr} {xs:List V} {g:TG} {tb:TS} {D:Ends} {σ:St} {H:Hp} (Pv:Nat->St->Hp->Prop) (h0:Pv 0 σ H) (hl:∀i σ H,i<=xs.length->Pv i σ H->SqT K H a xs)
  (hs:∀i x σ H,xs[i]?=some x->Pv i σ H->g x σ H fun σ2 H2=>tb {D with nx:=Pv (i+1),ct:=Pv (i+1),bk:=D.nx} σ2 H2) (hd:∀σ H,Pv xs.length σ H->D.nx σ H) :
  ∃W:Nat->Nat->St->Hp->Prop,(∃m,W 0 m σ H)/\∀i m σ H,W i m σ H ->
   ((Itt K a).stop i H/\D.nx σ H)\/((Itt K a).go i H/\∃N:St->Hp->Prop,(∀σ' H',N σ' H'->∃m',m'<m/\W (i+1) m' σ' H')/\∀x H',(Itt K a).yld i H x H'->g x σ H' fun σ2 H2=>tb {D with nx:=N,ct:=N,bk:=D.nx} σ2 H2):=by
 refine ⟨fun i m σ H=>m=xs.length - i/\i<=xs.length/\Pv i σ H,⟨xs.length,by simp,Nat.zero_le _,h0⟩,?_⟩
 rintro i m σ H ⟨rfl,hi,p⟩
 have q:=hl i σ H hi p
 by_cases hlt:i<xs.length
 ·refine .inr ⟨⟨xs,xs[i],q,by simp [hlt]⟩,Pv (i+1),fun σ' H' p'=>⟨xs.length - (i+1),by omega,rfl,hlt,p'⟩,fun x H' y=>?_⟩
  obtain ⟨e,y⟩:=y
  subst e
  exact hs i x σ _ (y xs q) p
 ·have e:i=xs.length:=by omega
  subst e
  exact .inl ⟨⟨xs,q,Nat.le_refl _⟩,hd σ H p⟩
theorem zBu {lo:Int} {n:Nat} {g:TG} {tb:TS} {D:Ends} {σ:St} {H:Hp} (Pv:Nat->St->Hp->Prop) (h0:Pv 0 σ H)
  (hs:∀i σ H,i<n->Pv i σ H->g (.int (lo+i)) σ H fun σ2 H2=>tb {D with nx:=Pv (i+1),ct:=Pv (i+1),bk:=D.nx} σ2 H2) (hd:∀σ H,Pv n σ H->D.nx σ H) :
  ∃W:Nat->Nat->St->Hp->Prop,(∃m,W 0 m σ H)/\∀i m σ H,W i m σ H ->
   ((Itr lo n).stop i H/\D.nx σ H)\/((Itr lo n).go i H/\∃N:St->Hp->Prop,(∀σ' H',N σ' H'->∃m',m'<m/\W (i+1) m' σ' H')/\∀x H',(Itr lo n).yld i H x H'->g x σ H' fun σ2 H2=>tb {D with nx:=N,ct:=N,bk:=D.nx} σ2 H2):=by
 refine ⟨fun i m σ H=>m=n - i/\i<=n/\Pv i σ H,⟨n,by simp,Nat.zero_le _,h0⟩,?_⟩
 rintro i m σ H ⟨rfl,hi,p⟩
 by_cases hlt:i<n
 ·refine .inr ⟨hlt,Pv (i+1),fun σ' H' p'=>⟨n - (i+1),by omega,rfl,hlt,p'⟩,fun x H' y=>?_⟩
  obtain ⟨e,y⟩:=y
  subst e y
  exact hs i σ _ hlt p
 ·have e:i=n:=by omega
  subst e
  exact .inl ⟨Nat.le_refl _,hd σ H p⟩
theorem while_by {c:TT} {tb:TS} {D:Ends} {σ:St} {H:Hp} (Pv:St->Hp->Prop) (μ:St->Hp->Nat) (h0:Pv σ H)
  (hs:∀σ H,Pv σ H->c σ H fun b H1=>if b=true then tb {D with nx:=fun σ' H'=>Pv σ' H'/\μ σ' H'<μ σ H,ct:=fun σ' H'=>Pv σ' H'/\μ σ' H'<μ σ H,bk:=D.nx} σ H1 else D.nx σ H1)
  (mono:∀σ H Q Q',(∀b H1,Q b H1->Q' b H1)->c σ H Q->c σ H Q'):tWhile c tb D σ H:=by
 refine ⟨fun m σ H=>m=μ σ H/\Pv σ H,⟨_,rfl,h0⟩,?_⟩
 rintro m σ H ⟨rfl,p⟩
 refine mono σ H _ _ (fun b H1 q=>?_) (hs σ H p)
 cases b with
 | true=>exact ⟨_,fun σ' H' ⟨p',l⟩=>⟨_,l,rfl,p'⟩,q⟩
 | false=>exact q
abbrev R2:=V->V->Hp->VK->Prop
def OpR (X:Cx) (f:Value->Value->Sem Value) (r:R2):Prop :=
 ∀(pins:List (Addr×Obj)) (s:Shared) (σ:St) (H:Hp) (x y:V) (v u:Value) (Q:VK),Inv X pins σ H s->RelV x v->RelV y u->r x y H Q ->
  wpAny (model X.prog X.w) X.A (f v u) (EP X pins σ Q) X.xe s
def zCr (X:Cx) (f:Value) (r:List V->Hp->VK->Prop):Prop :=
 ∀(pins:List (Addr×Obj)) (s:Shared) (σ:St) (H:Hp) (xs:List V) (us:List Value) (Q:VK),Inv X pins σ H s->Vals xs us->r xs H Q ->
  wpAny (model X.prog X.w) X.A (call f us) (EP X pins σ Q) X.xe s
def TruR (X:Cx) (r:V->Hp->(Bool->Hp->Prop)->Prop):Prop :=
 ∀(pins:List (Addr×Obj)) (s:Shared) (σ:St) (H:Hp) (x:V) (v:Value) (Q:Bool->Hp->Prop),Inv X pins σ H s->RelV x v->r x H Q ->
  wpAny (model X.prog X.w) X.A (truthy v) (TP X pins σ Q) X.xe s
def tOp (r:R2) (ta tb:TE):TE:=fun σ H Q=>ta σ H fun x H1=>tb σ H1 fun y H2=>r x y H2 Q
def rI (C:Int->Int->Prop) (g:Int->Int->V):R2:=fun x y H Q=>∃i j,x= .int i/\y= .int j/\C i j/\Q (g i j) H
def rI0 (g:Int->Int->V):R2:=fun x y H Q=>∃i j,x= .int i/\y= .int j/\Q (g i j) H
section
variable {X:Cx} {a b c:Expr} {ta tb tc:TE} {pos:Pos}
theorem binT (ha:PE X a ta) (hb:PE X b tb) {pins:List (Addr×Obj)} {s:Shared} {σ:St} {H:Hp} {R:V->V->Hp->Prop} (I:Inv X pins σ H s)
  (h:ta σ H fun x H1=>tb σ H1 fun y H2=>R x y H2) {Q:Value->Shared->Prop} {f:Value->Value->Sem Value}
  (hf:∀v u s2 x y H2,Inv X pins σ H2 s2->RelV x v->RelV y u->R x y H2->wpAny (model X.prog X.w) X.A (f v u) Q X.xe s2) :
  wpAny (model X.prog X.w) X.A (eval a X.env) (fun v s₁=>wpAny (model X.prog X.w) X.A (eval b X.env) (fun u s₂=>wpAny (model X.prog X.w) X.A (f v u) Q X.xe s₂) X.xe s₁) X.xe s:=by
 refine thn (ha pins s σ H _ I h) fun v s1 ⟨x,H1,I1,r1,q1⟩=>?_
 refine thn (hb pins s1 σ H1 _ I1 q1) fun u s2 ⟨y,H2,I2,r2,q2⟩=>?_
 exact hf v u s2 x y H2 I2 r1 r2 q2
theorem zAs {op:Operator} {r:R2} (ho:OpR X (binaryOp op) r) (ha:PE X a ta) (hb:PE X b tb):PE X (.BinOp a op b pos) (tOp r ta tb):=by
 intro pins s σ H Q I h
 exact wpAny_BinOp (binT ha hb I h fun v u s2 x y H2 I2 rx ry q=>ho pins s2 σ H2 x y v u Q I2 rx ry q)
theorem opI {f:Value->Value->Sem Value} {C:Int->Int->Prop} {g:Int->Int->Int}
  (rule:∀(i j:Int) (t u:Tok) (s:Shared) (Q:Value->Shared->Prop) (E:Value->Shared->Prop),C i j->Q (.int (g i j) s.toks) {s with toks:=s.toks+1}->wpAny (model X.prog X.w) X.A (f (.int i t) (.int j u)) Q E s) :
  OpR X f (rI C fun i j=>.int (g i j)):=by
 intro pins s σ H x y v u Q I rx ry h
 obtain ⟨i,j,rfl,rfl,hc,q⟩:=h
 obtain ⟨t,rfl⟩:=rx
 obtain ⟨t',rfl⟩:=ry
 exact rule i j t t' s _ _ hc ⟨.int (g i j),H,I.tok _,⟨_,rfl⟩,q⟩
theorem opI0 {f:Value->Value->Sem Value} {g:Int->Int->Int}
  (rule:∀(i j:Int) (t u:Tok) (s:Shared) (Q:Value->Shared->Prop) (E:Value->Shared->Prop),Q (.int (g i j) s.toks) {s with toks:=s.toks+1}->wpAny (model X.prog X.w) X.A (f (.int i t) (.int j u)) Q E s) :
  OpR X f (rI0 fun i j=>.int (g i j)):=by
 intro pins s σ H x y v u Q I rx ry h
 obtain ⟨i,j,rfl,rfl,q⟩:=h
 obtain ⟨t,rfl⟩:=rx
 obtain ⟨t',rfl⟩:=ry
 exact rule i j t t' s _ _ ⟨.int (g i j),H,I.tok _,⟨_,rfl⟩,q⟩
theorem opB0 {f:Value->Value->Sem Value} {g:Int->Int->Bool}
  (rule:∀(i j:Int) (t u:Tok) (s:Shared) (Q:Value->Shared->Prop) (E:Value->Shared->Prop),Q (.bool (g i j)) s->wpAny (model X.prog X.w) X.A (f (.int i t) (.int j u)) Q E s) :
  OpR X f (rI0 fun i j=>.bl (g i j)):=by
 intro pins s σ H x y v u Q I rx ry h
 obtain ⟨i,j,rfl,rfl,q⟩:=h
 obtain ⟨t,rfl⟩:=rx
 obtain ⟨t',rfl⟩:=ry
 exact rule i j t t' s _ _ ⟨.bl (g i j),H,I,rfl,q⟩
def CDiv (i j:Int):Prop:=0<j/\j<1073741824
def CPow (i j:Int):Prop:=0<=j/\j<=1000000/\i.natAbs<2^64
def CMul (i j:Int):Prop:=(-(2^64)<i/\i<2^64)\/(-(2^64)<j/\j<2^64)
theorem CMul.ok {i j:Int} (h:CMul i j):IntMulOk i j:=by
 rcases h with ⟨h1,h2⟩| ⟨h1,h2⟩
 ·exact .of_left (intBits_le_64 h1 h2)
 ·exact .of_right (intBits_le_64 h1 h2)
theorem zCs:OpR X (binaryOp .Add) (rI0 fun i j=>.int (i+j)):=opI0 fun _ _ _ _ _ _ _ q=>add_int q
theorem zG2:OpR X (binaryOp .Sub) (rI0 fun i j=>.int (i - j)):=opI0 fun _ _ _ _ _ _ _ q=>sub_int q
theorem zFn:OpR X (binaryOp .Mult) (rI CMul fun i j=>.int (i*j)):=opI fun _ _ _ _ _ _ _ hc q=>mul_int q hc.ok
theorem zI4:OpR X (binaryOp .FloorDiv) (rI CDiv fun i j=>.int (i / j)):=opI fun i j _ _ _ _ _ hc q=>by
 have h1:(0:Int)<j:=hc.1
 have h2:j<1073741824:=hc.2
 exact floordiv_int (by omega) (by rw [Int.fdiv_eq_ediv_of_nonneg i (by omega)];exact q) (.inl (PyProof.noPylong_small (by omega)))
theorem zG3:OpR X (binaryOp .Mod) (rI (fun _ j=>0<j) fun i j=>.int (i % j)):=opI fun i j _ _ _ _ _ hc q=>by
 have h1:(0:Int)<j:=hc
 exact mod_int' (by omega) (by rw [Int.fmod_eq_emod_of_nonneg i (by omega)];exact q)
theorem op_pow:OpR X (binaryOp .Pow) (rI CPow fun i j=>.int (i^j.toNat)):=opI fun _ _ _ _ _ _ _ hc q=>pow_int_small hc.1 hc.2.1 hc.2.2 q
end
def scal:V->V->Bool
 | .non,.non=>true| .non,.int _=>true| .int _,.non=>true| .non,.bl _=>true| .bl _,.non=>true| .non,.str _=>true| .str _,.non=>true
 | .int _,.int _=>true| .bl _,.bl _=>true| .str _,.str _=>true| .byt _,.byt _=>true
 | .int _,.str _=>true| .str _,.int _=>true| .bl _,.str _=>true| .str _,.bl _=>true
 | _,_=>false
def rEq:R2:=fun x y H Q=>scal x y=true/\Q (.bl (decide (x=y))) H
def rNe:R2:=fun x y H Q=>scal x y=true/\Q (.bl (!decide (x=y))) H
theorem dec_int {i j:Int}:decide (V.int i=V.int j)=(i==j):=by
 rw [Bool.eq_iff_iff]
 simp
theorem dec_bl {i j:Bool}:decide (V.bl i=V.bl j)=(i==j):=by
 rw [Bool.eq_iff_iff]
 simp
theorem dec_str {i j:Str}:decide (V.str i=V.str j)=(i==j):=by
 rw [Bool.eq_iff_iff]
 simp
theorem dec_byt {i j:Array UInt8}:decide (V.byt i=V.byt j)=(i.toList==j.toList):=by
 rw [Bool.eq_iff_iff]
 cases i
 cases j
 simp
section
variable {X:Cx} {a b c:Expr} {ta tb tc:TE} {pos:Pos}
theorem zAz {pins:List (Addr×Obj)} {σ:St} {H:Hp} {s:Shared} {Q:VK} {k k':Bool} (I:Inv X pins σ H s) (q:Q (.bl k) H) (e:k=k'):EP X pins σ Q (.bool k') s:=by
 subst e
 exact ⟨.bl k,H,I,rfl,q⟩
theorem zEu:OpR X (compareOp .Eq) rEq:=by
 intro pins s σ H x y v u Q I rx ry h
 obtain ⟨hs,q⟩:=h
 cases x with
 | non =>
  cases rx
  cases y with
  | non=>cases ry;exact PySem.EqNone.eq_none_none (zAz I q (by simp))
  | bl j=>cases ry;exact PySem.EqNone.eq_none_bool (zAz I q (by simp))
  | int j=>obtain ⟨t',rfl⟩:=ry;exact PySem.EqNone.eq_none_int (zAz I q (by simp))
  | str j=>obtain ⟨t',rfl⟩:=ry;exact PySem.EqNone.eq_none_str (zAz I q (by simp))
  | _=>exact absurd (show false=true from hs) Bool.false_ne_true
 | bl i =>
  cases rx
  cases y with
  | non=>cases ry;exact PySem.EqNone.eq_bool_none (zAz I q (by simp))
  | bl j=>cases ry;exact eq_bool (zAz I q dec_bl)
  | str j=>obtain ⟨t',rfl⟩:=ry;exact PySem.EqMixed.eq_bool_str (zAz I q (by simp))
  | _=>exact absurd (show false=true from hs) Bool.false_ne_true
 | int i =>
  obtain ⟨t,rfl⟩:=rx
  cases y with
  | non=>cases ry;exact PySem.EqNone.eq_int_none (zAz I q (by simp))
  | int j=>obtain ⟨t',rfl⟩:=ry;exact eq_int (zAz I q dec_int)
  | str j=>obtain ⟨t',rfl⟩:=ry;exact PySem.EqMixed.eq_int_str (zAz I q (by simp))
  | _=>exact absurd (show false=true from hs) Bool.false_ne_true
 | str i =>
  obtain ⟨t,rfl⟩:=rx
  cases y with
  | non=>cases ry;exact PySem.EqNone.eq_str_none (zAz I q (by simp))
  | bl j=>cases ry;exact PySem.EqMixed.eq_str_bool (zAz I q (by simp))
  | int j=>obtain ⟨t',rfl⟩:=ry;exact PySem.EqMixed.eq_str_int (zAz I q (by simp))
  | str j=>obtain ⟨t',rfl⟩:=ry;exact eq_str (zAz I q dec_str)
  | _=>exact absurd (show false=true from hs) Bool.false_ne_true
 | byt i =>
  obtain ⟨t,rfl⟩:=rx
  cases y with
  | byt j=>obtain ⟨t',rfl⟩:=ry;exact PySem.W.eq_bytes (zAz I q dec_byt)
  | _=>exact absurd (show false=true from hs) Bool.false_ne_true
 | _=>cases y<;>exact absurd (show false=true from hs) Bool.false_ne_true
theorem op_ne:OpR X (compareOp .NotEq) rNe:=by
 intro pins s σ H x y v u Q I rx ry h
 obtain ⟨hs,q⟩:=h
 cases x with
 | non =>
  cases rx
  cases y with
  | non=>cases ry;exact PySem.EqNone.ne_none_none (zAz I q (by simp))
  | bl j=>cases ry;exact PySem.EqNone.ne_none_bool (zAz I q (by simp))
  | int j=>obtain ⟨t',rfl⟩:=ry;exact PySem.EqNone.ne_none_int (zAz I q (by simp))
  | str j=>obtain ⟨t',rfl⟩:=ry;exact PySem.EqNone.ne_none_str (zAz I q (by simp))
  | _=>exact absurd (show false=true from hs) Bool.false_ne_true
 | bl i =>
  cases rx
  cases y with
  | non=>cases ry;exact PySem.EqNone.ne_bool_none (zAz I q (by simp))
  | bl j=>cases ry;exact ne_bool (zAz I q (congrArg not dec_bl))
  | str j=>obtain ⟨t',rfl⟩:=ry;exact PySem.EqMixed.ne_bool_str (zAz I q (by simp))
  | _=>exact absurd (show false=true from hs) Bool.false_ne_true
 | int i =>
  obtain ⟨t,rfl⟩:=rx
  cases y with
  | non=>cases ry;exact PySem.EqNone.ne_int_none (zAz I q (by simp))
  | int j=>obtain ⟨t',rfl⟩:=ry;exact ne_int (zAz I q (congrArg not dec_int))
  | str j=>obtain ⟨t',rfl⟩:=ry;exact PySem.EqMixed.ne_int_str (zAz I q (by simp))
  | _=>exact absurd (show false=true from hs) Bool.false_ne_true
 | str i =>
  obtain ⟨t,rfl⟩:=rx
  cases y with
  | non=>cases ry;exact PySem.EqNone.ne_str_none (zAz I q (by simp))
  | bl j=>cases ry;exact PySem.EqMixed.ne_str_bool (zAz I q (by simp))
  | int j=>obtain ⟨t',rfl⟩:=ry;exact PySem.EqMixed.ne_str_int (zAz I q (by simp))
  | str j=>obtain ⟨t',rfl⟩:=ry;exact ne_str (zAz I q (congrArg not dec_str))
  | _=>exact absurd (show false=true from hs) Bool.false_ne_true
 | byt i =>
  obtain ⟨t,rfl⟩:=rx
  cases y with
  | byt j=>obtain ⟨t',rfl⟩:=ry;exact PySem.W.ne_bytes (zAz I q (congrArg not dec_byt))
  | _=>exact absurd (show false=true from hs) Bool.false_ne_true
 | _=>cases y<;>exact absurd (show false=true from hs) Bool.false_ne_true
theorem op_lt:OpR X (compareOp .Lt) (rI0 fun i j=>.bl (decide (i<j))):=opB0 fun _ _ _ _ _ _ _ q=>lt_int q
theorem op_le:OpR X (compareOp .LtE) (rI0 fun i j=>.bl (decide (i<=j))):=opB0 fun _ _ _ _ _ _ _ q=>le_int q
theorem op_gt:OpR X (compareOp .Gt) (rI0 fun i j=>.bl (decide (j<i))):=opB0 fun _ _ _ _ _ _ _ q=>gt_int q
theorem op_in_str:OpR X (compareOp .In) (fun x y H Q=>∃i j,x= .str i/\y= .str j/\Q (.bl (!(Builtin.Str.occurrences j i 0 j.length 1).isEmpty)) H):=by
 intro pins s σ H x y v u Q I rx ry h
 obtain ⟨i,j,rfl,rfl,q⟩:=h
 obtain ⟨t,rfl⟩:=rx
 obtain ⟨t',rfl⟩:=ry
 exact in_str (zAz I q rfl)
theorem op_isN:OpR X (compareOp .Is) (fun x y H Q=>y= .non/\Q (.bl (decide (x= .non))) H):=by
 intro pins s σ H x y v u Q I rx ry h
 obtain ⟨rfl,q⟩:=h
 cases ry
 refine is_none_gen (zAz I q ?_)
 cases x<;>first
  | (cases rx;rfl)
  | (obtain ⟨t,rfl⟩:=rx;rfl)
theorem zAt (b:Expr) {op:CmpOp} (h:op≠.In:=by decide) (h2:op≠.NotIn:=by decide):behindInMarks op b=false:=by
 have e1:(op==CmpOp.In)=false:=by cases op<;>first| rfl| exact absurd rfl h
 have e2:(op==CmpOp.NotIn)=false:=by cases op<;>first| rfl| exact absurd rfl h2
 cases b<;>simp [behindInMarks,e1,e2]
theorem zBg {op:CmpOp} {r:R2} (ho:OpR X (compareOp op) r) (ha:PE X a ta) (hb:PE X b tb) (hm:behindInMarks op b=false):PE X (.Compare a [op] [b] pos) (tOp r ta tb):=by
 intro pins s σ H Q I h
 exact wpAny_Compare1 (binT ha hb I h fun v u s2 x y H2 I2 rx ry q=>ho pins s2 σ H2 x y v u Q I2 rx ry q) hm
def tTest (t:TE):TT:=fun σ H Q=>t σ H fun x H'=>∃k,x= .bl k/\Q k H'
theorem zAr {op:CmpOp} {r:R2} (ho:OpR X (compareOp op) r) (ha:PE X a ta) (hb:PE X b tb) (hm:behindInMarks op b=false):PT X (.Compare a [op] [b] pos) (tTest (tOp r ta tb)):=by
 intro pins s σ H Q I h
 refine wpAny_isTrue_Compare1 (thn (ha pins s σ H _ I h) fun v s1 ⟨x,H1,I1,r1,q1⟩=>thn (hb pins s1 σ H1 _ I1 q1) fun u s2 ⟨y,H2,I2,r2,q2⟩ =>
  thn (ho pins s2 σ H2 x y v u _ I2 r1 r2 q2) fun c s3 ⟨z,H3,I3,r3,k,e,q3⟩=>?_) hm
 subst e
 cases r3
 exact wpAny_truthy_bool ⟨H3,I3,q3⟩
def tChain (r r':R2) (ta tb tc:TE):TE:=fun σ H Q=>ta σ H fun x H1=>tb σ H1 fun y H2=>r x y H2 fun z H3=>∃k,z= .bl k /\
 (if k=true then tc σ H3 fun w' H4=>r' y w' H4 Q else Q (.bl false) H3)
theorem pe_chain {op op':CmpOp} {r r':R2} (ho:OpR X (compareOp op) r) (ho':OpR X (compareOp op') r') (ha:PE X a ta) (hb:PE X b tb) (hc:PE X c tc)
  (hm:lastMarks [op,op'] [b,c]=false:=by with_unfolding_all rfl):PE X (.Compare a [op,op'] [b,c] pos) (tChain r r' ta tb tc):=by
 intro pins s σ H Q I h
 refine Compare_chain (thn (ha pins s σ H _ I h) fun v s1 ⟨x,H1,I1,r1,q1⟩=>chain_link (thn (hb pins s1 σ H1 _ I1 q1) fun u s2 ⟨y,H2,I2,r2,q2⟩ =>
  thn (ho pins s2 σ H2 x y v u _ I2 r1 r2 q2) fun d s3 ⟨z,H3,I3,r3,k,e,q3⟩=>?_)) hm
 subst e
 cases r3
 refine wpAny_truthy_bool ?_
 cases k with
 | false=>exact ite_ff ⟨.bl false,H3,I3,rfl,q3⟩
 | true=>exact ite_tt (chain_last (thn (hc pins s3 σ H3 _ I3 q3) fun w' s4 ⟨z',H4,I4,r4,q4⟩=>ho' pins s4 σ H4 y z' u w' Q I4 r2 r4 q4))
theorem pt_chain {op op':CmpOp} {r r':R2} (ho:OpR X (compareOp op) r) (ho':OpR X (compareOp op') r') (ha:PE X a ta) (hb:PE X b tb) (hc:PE X c tc)
  (hm:lastMarks [op,op'] [b,c]=false:=by with_unfolding_all rfl):PT X (.Compare a [op,op'] [b,c] pos) (tTest (tChain r r' ta tb tc)):=by
 intro pins s σ H Q I h
 refine isTrue_chain (thn (ha pins s σ H _ I h) fun v s1 ⟨x,H1,I1,r1,q1⟩=>test_link (thn (hb pins s1 σ H1 _ I1 q1) fun u s2 ⟨y,H2,I2,r2,q2⟩ =>
  thn (ho pins s2 σ H2 x y v u _ I2 r1 r2 q2) fun d s3 ⟨z,H3,I3,r3,k,e,q3⟩=>?_)) hm
 subst e
 cases r3
 refine wpAny_truthy_bool ?_
 cases k with
 | false =>
  obtain ⟨k',e',q'⟩:=q3
  cases e'
  exact ite_ff ⟨H3,I3,q'⟩
 | true =>
  refine ite_tt (test_last (thn (hc pins s3 σ H3 _ I3 q3) fun w' s4 ⟨z',H4,I4,r4,q4⟩=>thn (ho' pins s4 σ H4 y z' u w' _ I4 r2 r4 q4) fun d' s5 ⟨z2,H5,I5,r5,k2,e2,q5⟩=>?_))
  subst e2
  cases r5
  exact wpAny_truthy_bool ⟨H5,I5,q5⟩
def TruV (K:PySem.W.Frag) (x:V) (H:Hp) (k:Bool):Prop :=
 match x with
 | .non=>k=false
 | .bl b=>k=b
 | .int i=>k=(i != 0)
 | .str y=>y.length<=sizeLine/\k=((y.length:Int) != 0)
 | .byt y=>y.size<=sizeLine/\k=((y.size:Int) != 0)
 | .ref p=>(∃xs,SqL K H p xs/\k= !xs.isEmpty)\/(∃xs,SqT K H p xs/\k= !xs.isEmpty)\/∃kvs,H p=some (.dK kvs)/\k= !kvs.isEmpty
 | _=>False
theorem isEmpty_kv {κ:Type} {kvs:List (κ×V)} {vs:List (κ×Value)} (r:KV kvs vs):(!vs.isEmpty)= !kvs.isEmpty:=by
 cases r<;>rfl
theorem zIf {xs:List V} {its:List Value} (r:Vals xs its):(!its.toArray.isEmpty)= !xs.isEmpty:=by
 cases r<;>simp
theorem zG9:(sizeLine:Nat)<2^63:=by rw [sizeLine_eq];decide
theorem tru_ok:TruR X (fun x H Q=>∃k,TruV X.K x H k/\Q k H):=by
 intro pins s σ H x v Q I rx h
 obtain ⟨k,e,q⟩:=h
 have hl:=zG9
 have hs:sizeLine=16777216:=sizeLine_eq
 cases x with
 | non =>
  cases rx
  have e':k=false:=e
  subst e'
  exact truthy_none ⟨H,I,q⟩
 | bl b =>
  cases rx
  have e':k=b:=e
  subst e'
  exact wpAny_truthy_bool ⟨H,I,q⟩
 | int i =>
  obtain ⟨t,rfl⟩:=rx
  have e':k=(i != 0):=e
  subst e'
  exact PySem.P.truthy_int ⟨H,I,q⟩
 | str y =>
  obtain ⟨t,rfl⟩:=rx
  obtain ⟨hy,e'⟩:y.length<=sizeLine/\k=((y.length:Int) != 0):=e
  subst e'
  exact PySem.P.truthy_str (by omega) ⟨H,I.tok _,q⟩
 | byt y =>
  obtain ⟨t,rfl⟩:=rx
  obtain ⟨hy,e'⟩:y.size<=sizeLine/\k=((y.size:Int) != 0):=e
  subst e'
  exact PySem.W.truthy_bytes (by omega) ⟨H,I.tok _,q⟩
 | ref p =>
  cases rx
  have e':(∃xs,SqL X.K H p xs/\k= !xs.isEmpty)\/(∃xs,SqT X.K H p xs/\k= !xs.isEmpty)\/∃kvs,H p=some (.dK kvs)/\k= !kvs.isEmpty:=e
  rcases e' with ⟨xs,hx,e'⟩| ⟨xs,hx,e'⟩| ⟨kvs,hx,e'⟩
  ·subst e'
   obtain ⟨its,r,pl,hz⟩:=I.list hx
   have hlen:=r.length
   exact wpAny_truthy_list pl.isList (by simp only [List.size_toArray];omega) ⟨H,I.tok _,by rw [zIf r];exact q⟩
  ·subst e'
   obtain ⟨its,r,pl,hz⟩:=I.tuple hx
   have hlen:=r.length
   exact truthy_tuple pl (by simp only [List.size_toArray];omega) ⟨H,I.tok _,by rw [zIf r];exact q⟩
  ·subst e'
   obtain ⟨hz,hS,vs,r,m⟩:kvs.length<=sizeLine/\(p==sysModules)=false/\∃vs,KV kvs vs/\s.heap.DictOf (zB0 X.prog X.w) p vs:=I.hok p _ hx
   have hlen:kvs.length=vs.length:=Paired.length r
   exact wpAny_truthy_dict hS m (by omega) ⟨H,I.tok _,by rw [isEmpty_kv r];exact q⟩
 | _=>exact (show False from e).elim
theorem pt_truth (ha:PE X a ta) (he:∀whole,isTrue a X.env whole=(do let v<-whole;standAt a.pos;holding [v] (truthy v))) :
  PT X a (fun σ H Q=>ta σ H fun x H'=>∃k,TruV X.K x H' k/\Q k H'):=by
 intro pins s σ H Q I h
 exact isTrue_plain (thn (ha pins s σ H _ I h) fun v s1 ⟨x,H1,I1,r1,q1⟩=>tru_ok pins s1 σ H1 x v Q I1 r1 q1) (he _)
theorem zBf:OpR X (binaryOp .Add) (fun x y H Q=>∃i j,x= .str i/\y= .str j/\i.length+j.length<=sizeLine/\Q (.str (i++j)) H):=by
 intro pins s σ H x y v u Q I rx ry h
 obtain ⟨i,j,rfl,rfl,hz,q⟩:=h
 obtain ⟨t,rfl⟩:=rx
 obtain ⟨t',rfl⟩:=ry
 exact add_str (fun t' tk=>⟨.str (i++j),H,I.tok _,⟨_,rfl⟩,q⟩) hz
theorem zHo {x:V} {us:List Value} (r:Vals [x] us):∃u,us=[u]/\RelV x u:=by
 cases r with
 | cons r1 r2=>cases r2;exact ⟨_,rfl,r1⟩
theorem vals2 {x y:V} {us:List Value} (r:Vals [x,y] us):∃u w',us=[u,w']/\RelV x u/\RelV y w':=by
 cases r with
 | cons r1 r2 =>
  cases r2 with
  | cons r3 r4=>cases r4;exact ⟨_,_,rfl,r1,r3⟩
theorem call_max2 (hc:X.calm=true):zCr X (.builtin "max") (fun xs H Q=>∃i j,xs=[.int i,.int j]/\Q (.int (if j>i then j else i)) H):=by
 intro pins s σ H xs us Q I r h
 obtain ⟨i,j,rfl,q⟩:=h
 obtain ⟨u,w',rfl,⟨t,rfl⟩,⟨t',rfl⟩⟩:=vals2 r
 refine max_two_ints (I.ok.hd hc) fun h' tk k=>⟨_,H,I.kept k,?_,q⟩
 by_cases hj:j>i
 ·rw [if_pos hj,if_pos hj];exact ⟨_,rfl⟩
 ·rw [if_neg hj,if_neg hj];exact ⟨_,rfl⟩
theorem call_min2 (hc:X.calm=true):zCr X (.builtin "min") (fun xs H Q=>∃i j,xs=[.int i,.int j]/\Q (.int (if j<i then j else i)) H):=by
 intro pins s σ H xs us Q I r h
 obtain ⟨i,j,rfl,q⟩:=h
 obtain ⟨u,w',rfl,⟨t,rfl⟩,⟨t',rfl⟩⟩:=vals2 r
 refine min_two_ints (I.ok.hd hc) fun h' tk k=>⟨_,H,I.kept k,?_,q⟩
 by_cases hj:j<i
 ·rw [if_pos hj,if_pos hj];exact ⟨_,rfl⟩
 ·rw [if_neg hj,if_neg hj];exact ⟨_,rfl⟩
theorem zFv:zCr X (.type "int") (fun xs H Q=>(∃i,xs=[.int i]/\Q (.int i) H)\/∃k,xs=[.bl k]/\Q (.int (if k then 1 else 0)) H):=by
 intro pins s σ H xs us Q I r h
 rcases h with ⟨i,rfl,q⟩| ⟨k,rfl,q⟩
 ·obtain ⟨u,rfl,t,rfl⟩:=zHo r
  exact call_int_int ⟨.int i,H,I,⟨_,rfl⟩,q⟩
 ·obtain ⟨u,rfl,r1⟩:=zHo r
  cases r1
  exact call_int_bool ⟨.int (if k then 1 else 0),H,I.tok _,⟨_,rfl⟩,q⟩
end
structure ObjM (h:Heap) (x dx C:Addr) (mA:Str->Option Value):Prop where
 obj:h.get? x=some (PySem.W.instObj C dx)
 ns:h.Ns1 dx mA
 ne:dx≠x
theorem lookIn_ns {h:Heap} {dx:Addr} {mA:Str->Option Value} (n:h.Ns1 dx mA):∃od,h.get? dx=some od/\∀name,PySem.W.lookIn name od=some (mA name):=by
 obtain ⟨o,es,ep,ho,hd,hk,_,hm⟩:=n
 refine ⟨o,ho,fun name=>?_⟩
 have e:=hm name
 unfold nsFind findBy at e
 rw [<-Array.find?_toList] at e
 unfold PySem.W.lookIn
 rw [hd]
 dsimp only
 split
 ·rename_i y q
  rw [q] at e
  exact congrArg some e
 ·rename_i q
  rw [q] at e
  have a:es.toList.any (·.refKey)=false:=by
   rw [List.any_eq_false]
   intro y hy
   obtain ⟨z,t,hkey⟩:=hk y (Array.mem_toList_iff.mp hy)
   simp [DictEntry.refKey,hkey]
  have a':¬es.toList.any (·.refKey)=true:=by rw [a];exact Bool.false_ne_true
  rw [if_neg a']
  exact congrArg some e
theorem ObjM.look {h:Heap} {x dx C:Addr} {mA:Str->Option Value} (I:ObjM h x dx C mA):∃od,PySem.W.InstAt h x (PySem.W.instObj C dx) C (some od)/\∀name,PySem.W.lookIn name od=some (mA name) :=
 let ⟨od,ho,hl⟩:=lookIn_ns I.ns
 ⟨od,⟨I.obj,rfl,rfl,ho⟩,hl⟩
section
variable {prog:Program} {w:World} {A:Around} {E:Value->Shared->Prop} {s:Shared} {K:PySem.W.Frag} {x dx C f:Addr} {mA:Str->Option Value} {name:Str} {v:Value}
theorem get_map {expr:Bool} {Q:Value->Shared->Prop} (X:K.In s.heap) (I:ObjM s.heap x dx C mA) (hg:PySem.W.plainGet K C name=true) (hh:PySem.W.hasDictIn K C=true)
  (ha:PySem.W.findIn K (.ref C) name=some none) (hv:mA name=some v) (hv':PySem.W.handedIn v=true) (h:Q v {s with toks:=s.toks+1}) :
  wpAny (model prog w) A (getAttr (.ref x) name expr) Q E s:=by
 obtain ⟨od,J,hl⟩:=I.look
 exact PySem.W.get_value X J (PySem.W.plainGet_of hg).1 (PySem.W.findObj_own hh ha rfl (by rw [hl,hv])) hv' h
theorem get_meth {pl:Sem Bool} {Q:Value×List Value->Shared->Prop} (X:K.In s.heap) (I:ObjM s.heap x dx C mA) (hg:PySem.W.plainGet K C name=true)
  (hf:PySem.W.findIn K (.ref C) name=some (some (.ref f))) (ht:PySem.W.isFn K (.ref f)=true) (hv:mA name=none) (h:Q (.ref f,[.ref x]) s) :
  wpAny (model prog w) A (getMethod (.ref x) name pl) Q E s:=by
 obtain ⟨od,J,hl⟩:=I.look
 exact PySem.W.method_fn X J (PySem.W.plainGet_of hg).1 (PySem.W.plainGet_of hg).2 hf (beq_iff_eq.mp ht) (by show (PySem.W.lookIn name od).map (·.isSome)=some false;rw [hl,hv];rfl) h
theorem set_map {ns:List Str} {Q:Unit->Shared->Prop} (X:K.In s.heap) (I:ObjM s.heap x dx C mA)
  (hs:PySem.W.findIn K (.ref C) "__setattr__" = some (some (.builtin "object.__setattr__"))) (hp:PySem.W.plainOver K C=true) (ht:PySem.W.takerIn K C name=some none) (hh:PySem.W.hasDictIn K C=true)
  (hw:PySem.Within mA ns) (hsz:ns.length<=sizeLine)
  (h:∀h',ObjM h' x dx C (fun y=>if y=name then some v else mA y)->Heap.SameBut dx s.heap h'->Q () {s with heap:=h',toks:=s.toks+2}) :
  wpAny (model prog w) A (setAttr (.ref x) name v) Q E s:=by
 obtain ⟨od,J,hl⟩:=I.look
 refine PySem.W.set_plain X J hs (PySem.W.osa_open (s:={s with toks:=s.toks+1}) (r:=none) X J hp ht fun b=>?_)
 obtain ⟨cd,hc,hd'⟩:=PySem.W.any_some hh
 have hx:s.heap.get? x=some ⟨.ref C,some dx,.plain,#[]⟩:=I.obj
 refine wpAny_bind (wpAny_pure (wpAny_bind (wpAny_bind (wpAny_loadPart hx (wpAny_bind (PySem.W.Looks.here (s:={s with toks:=s.toks+1}) (PySem.W.looks_clsIn X hc) ?_))))))
 rw [hd']
 refine wpAny_pure (a:=some dx) (wpAny_bind (wpAny_pure (wpAny_bind ?_)))
 refine wpAny_nsSet1 (s:={s with toks:=s.toks+1}) I.ns fun h' hn2 hs2=>?_
 obtain ⟨oD,esD,epD,hoD,hdD,hcD⟩:=hn2.count (PySem.Within.cons name v hw)
 refine wpAny_bind (wpAny_lookBehind hoD (by rw [hdD];exact pastItsLine_dict (Nat.le_trans hcD (by rw [List.length_cons];omega))) ?_)
 exact wpAny_pure (h _ ⟨(hs2.2 _ (Ne.symm I.ne)).trans I.obj,hn2,I.ne⟩ hs2)
theorem make_map {R:Result->Shared->Prop} {vs:List Value} {kw:List (Str×Value)} (X:K.In s.heap) (hm:PySem.W.makesIn K C=true)
  (hi:PySem.W.findIn K (.ref C) "__init__" = some (some (.ref f))) (hf:PySem.W.typeIn K (.ref f)=some (.type "function"))
  (h:codeAny (model prog w) (A.under (.builtin "type.__call__" ⟨.ref C::vs,kw⟩)) (.call (.ref f) ⟨.ref (s.heap.objs.size+1)::vs,kw⟩) (PySem.W.InitBack (s.heap.objs.size+1) R)
   {s with heap:=(s.heap.push PySem.W.emptyDict).push (PySem.W.instObj C s.heap.objs.size)}) :
  codeAny (model prog w) A (.call (.ref C) ⟨vs,kw⟩) R s:=by
 obtain ⟨hh,g,d,t,os⟩:=s
 exact PySem.W.make_core (PySem.W.makes_of X hm) (PySem.W.looks_findIn X hi) (fun self=>PySem.W.bind_fn X self hf) (.inl rfl) h
end
def putF (f:Str) (v:V):List (Str×V)->List (Str×V)
 | []=>[(f,v)]
 | (g,x)::r=>if g=f then (g,v)::r else (g,x)::putF f v r
theorem zAu (f g:Str) (v:V):∀fs:List (Str×V),(putF f v fs).lookup g=if g=f then some v else fs.lookup g
 | []=>by
  show List.lookup g [(f,v)]=_
  by_cases h:g=f
  ·have hb:(g==f)=true:=beq_iff_eq.mpr h
   simp only [List.lookup,hb,if_pos h]
  ·have hb:(g==f)=false:=beq_eq_false_iff_ne.mpr h
   simp only [List.lookup,hb,if_neg h]
 | (k,x)::r=>by
  have ih:=zAu f g v r
  rw [show putF f v ((k,x)::r)=(if k=f then (k,v)::r else (k,x)::putF f v r) from rfl]
  by_cases hk:k=f
  ·rw [if_pos hk]
   by_cases h:g=k
   ·have hb:(g==k)=true:=beq_iff_eq.mpr h
    simp only [List.lookup,hb,if_pos (h.trans hk)]
   ·have hb:(g==k)=false:=beq_eq_false_iff_ne.mpr h
    simp only [List.lookup,hb,if_neg (fun e:g=f=>h (e.trans hk.symm))]
  ·rw [if_neg hk]
   by_cases h:g=k
   ·have hb:(g==k)=true:=beq_iff_eq.mpr h
    simp only [List.lookup,hb,if_neg (fun e:g=f=>hk (h.symm.trans e))]
   ·have hb:(g==k)=false:=beq_eq_false_iff_ne.mpr h
    simp only [List.lookup,hb]
    exact ih
theorem zHb (f:Str) (v:V):∀fs:List (Str×V),f∈(putF f v fs).map (·.1)/\∀g,g∈fs.map (·.1)->g∈(putF f v fs).map (·.1)
 | []=>⟨by simp [putF],fun g h=>by simp at h⟩
 | (k,x)::r=>by
  obtain ⟨i1,i2⟩:=zHb f v r
  rw [show putF f v ((k,x)::r)=(if k=f then (k,v)::r else (k,x)::putF f v r) from rfl]
  by_cases hk:k=f
  ·rw [if_pos hk]
   subst hk
   exact ⟨by simp,fun g h=>by simpa using h⟩
  ·rw [if_neg hk]
   refine ⟨?_,fun g h=>?_⟩
   ·rw [List.map_cons]
    exact List.mem_cons_of_mem _ i1
   ·rw [List.map_cons] at h ⊢
    rcases List.mem_cons.mp h with e| e
    ·exact List.mem_cons.mpr (.inl e)
    ·exact List.mem_cons_of_mem _ (i2 g e)
theorem zHa (f:Str) (v:V):∀fs:List (Str×V),(putF f v fs).length<=fs.length+1
 | []=>by simp [putF]
 | (k,x)::r=>by
  have ih:=zHa f v r
  rw [show putF f v ((k,x)::r)=(if k=f then (k,v)::r else (k,x)::putF f v r) from rfl]
  by_cases hk:k=f
  ·rw [if_pos hk,List.length_cons,List.length_cons];omega
  ·rw [if_neg hk,List.length_cons,List.length_cons];omega
theorem RelO.some_of {v:V} {o:Option Value} (r:RelO (some v) o):∃u,o=some u/\RelV v u:=by
 cases o with
 | none=>exact (show False from r).elim
 | some u=>exact ⟨u,rfl,r⟩
theorem RelO.none_of {o:Option Value} (r:RelO none o):o=none:=by
 cases o with
 | none=>rfl
 | some u=>exact (show False from r).elim
theorem handed_of {v:V} {u:Value} (r:RelV v u):PySem.W.handedIn u=true:=by
 cases v with
 | non=>cases (show u=Value.none from r);rfl
 | bl b=>cases (show u=Value.bool b from r);rfl
 | int i=>obtain ⟨t,e⟩:=(show∃t,u=Value.int i t from r);cases e;rfl
 | str x=>obtain ⟨t,e⟩:=(show∃t,u=Value.str x t from r);cases e;rfl
 | byt b=>obtain ⟨t,e⟩:=(show∃t,u=Value.bytes b t from r);cases e;rfl
 | flt b=>obtain ⟨t,e⟩:=(show∃t,u=Value.float b t from r);cases e;rfl
 | ref a=>cases (show u=Value.ref a from r);rfl
 | ty n=>cases (show u=Value.type n from r);rfl
section
variable {P:Program} {w:World} {H H':Hp} {h h':Heap} {a C dx:Addr} {fs fs':List (Str×V)}
theorem zF5 (hok:HOk P w H h) (e:H a=some (.ins C dx fs)):∃mA,ObjM h a dx C mA/\(∀f,RelO (fs.lookup f) (mA f))/\PySem.Within mA (fs.map (·.1))/\fs.length<=1000/\H dx=some (.own a):=by
 obtain ⟨d,z,ne,ob,mA,n,r,q⟩:=(show zA7 P w H h a (.ins C dx fs) from hok a _ e)
 exact ⟨mA,⟨ob,n,ne⟩,r,q,z,d⟩
end
structure Cls (K:PySem.W.Frag) (C:Addr):Prop where
 pg:PySem.W.plainGet K C Str.empty=true
 hd:PySem.W.hasDictIn K C=true
 po:PySem.W.plainOver K C=true
 sa:PySem.W.findIn K (.ref C) "__setattr__" = some (some (.builtin "object.__setattr__"))
theorem Cls.get {K:PySem.W.Frag} {C:Addr} (c:Cls K C) (f:Str):PySem.W.plainGet K C f=true:=c.pg
def zDj (K:PySem.W.Frag) (C:Addr) (f:Str):Prop:=PySem.W.findIn K (.ref C) f=some none
theorem zDj.taker {K:PySem.W.Frag} {C:Addr} {f:Str} (n:zDj K C f):PySem.W.takerIn K C f=some none:=by
 unfold PySem.W.takerIn
 rw [show PySem.W.findIn K (.ref C) f=some none from n]
 rfl
structure Meth (K:PySem.W.Frag) (C:Addr) (m:Str) (f:Addr):Prop where
 at_:PySem.W.findIn K (.ref C) m=some (some (.ref f))
 fn:PySem.W.isFn K (.ref f)=true
 kp:PySem.W.keepIn K (.ref f)=true
section
variable {X:Cx} {pins:List (Addr×Obj)} {σ:St} {H:Hp} {s:Shared} {a C dx:Addr} {fs:List (Str×V)} {f:Str} {v:V} {A:Around} {E:Value->Shared->Prop}
theorem getattr_ok {b:Bool} {Q:Value->Shared->Prop} (I:Inv X pins σ H s) (e:H a=some (.ins C dx fs)) (c:Cls X.K C) (n:zDj X.K C f) (l:fs.lookup f=some v)
  (h:∀u s',Inv X pins σ H s'->RelV v u->Q u s'):wpAny (model X.prog X.w) A (getAttr (.ref a) f b) Q E s:=by
 obtain ⟨mA,O,r,_,_,_⟩:=zF5 I.hok e
 obtain ⟨u,hu,ru⟩:=RelO.some_of (v:=v) (o:=mA f) (by rw [<-l];exact r f)
 exact get_map I.kIn O (c.get f) c.hd n hu (handed_of ru) (h u _ (I.tok _) ru)
theorem getmeth_ok {m:Str} {g:Addr} {pl:Sem Bool} {Q:Value×List Value->Shared->Prop} (I:Inv X pins σ H s) (e:H a=some (.ins C dx fs)) (c:Cls X.K C) (k:Meth X.K C m g) (l:fs.lookup m=none)
  (h:Q (.ref g,[.ref a]) s):wpAny (model X.prog X.w) A (getMethod (.ref a) m pl) Q E s:=by
 obtain ⟨mA,O,r,_,_,_⟩:=zF5 I.hok e
 have hn:mA m=none:=RelO.none_of (by rw [<-l];exact r m)
 exact get_meth I.kIn O (c.get m) k.at_ k.fn hn h
theorem setattr_ok {y:V} {u:Value} {Q:Unit->Shared->Prop} (I:Inv X pins σ H s) (e:H a=some (.ins C dx fs)) (c:Cls X.K C) (n:zDj X.K C f) (hl:fs.length<1000) (ry:RelV y u)
  (h:∀s',Inv X pins σ (upd H a (.ins C dx (putF f y fs))) s'->Q () s'):wpAny (model X.prog X.w) A (setAttr (.ref a) f u) Q E s:=by
 obtain ⟨mA,O,r,wi,_,ho⟩:=zF5 I.hok e
 have hz:(fs.map (·.1)).length<=sizeLine:=by rw [List.length_map,sizeLine_eq];omega
 refine set_map I.kIn O c.sa c.po n.taker c.hd wi hz fun h' O' sb=>h _ ?_
 have hd:∃o,h'.get? dx=some o:=let ⟨o,_,_,e',_⟩:=O'.ns;⟨o,e'⟩
 refine I.write (x:=a) (e:=dx) (by rw [e];exact True.intro) (.inr ho) (fun b q hb z=>(sb.2 b hb).trans z) hd ?_
 refine ⟨by rw [upd_ne O.ne];exact ho,?_,O.ne,O'.obj,_,O'.ns,fun g=>?_,fun g hg=>?_⟩
 ·have:=zHa f y fs;omega
 ·show RelO ((putF f y fs).lookup g) (if g=f then some u else mA g)
  rw [zAu]
  by_cases q:g=f
  ·rw [if_pos q,if_pos q];exact ry
  ·rw [if_neg q,if_neg q];exact r g
 ·by_cases q:g=f
  ·rw [q];exact (zHb f y fs).1
  ·refine (zHb f y fs).2 g (wi g fun z=>hg ?_)
   show (if g=f then some u else mA g)=none
   rw [if_neg q];exact z
theorem Inv.made (I:Inv X pins σ H s):Inv X pins σ (upd (upd H s.heap.objs.size (.own (s.heap.objs.size+1))) (s.heap.objs.size+1) (.ins C s.heap.objs.size []))
  {s with heap:=(s.heap.push PySem.W.emptyDict).push (PySem.W.instObj C s.heap.objs.size)}:=by
 have e1:(s.heap.push PySem.W.emptyDict).get? s.heap.objs.size=some PySem.W.emptyDict:=Heap.get?_push_size s.heap rfl
 have e2:((s.heap.push PySem.W.emptyDict).push (PySem.W.instObj C s.heap.objs.size)).get? (s.heap.objs.size+1)=some (PySem.W.instObj C s.heap.objs.size):=by
  have:=Heap.get?_push_size (s.heap.push PySem.W.emptyDict) (o:=PySem.W.instObj C s.heap.objs.size) rfl
  rwa [Heap.size_push] at this
 have e3:(s.heap.push PySem.W.emptyDict).Ns s.heap.objs.size (fun _=>none):=⟨PySem.W.emptyDict,#[],_,e1,rfl,(fun e he=>absurd he (by simp)),fun _=>rfl⟩
 have I1:=I.laid (a:=s.heap.objs.size) (o:=.own (s.heap.objs.size+1)) (h':=s.heap.push PySem.W.emptyDict) (t':=s.toks) (fun b u q=>Heap.get?_push_of_some _ q) (Nat.le_refl _) ⟨_,e1⟩
 refine I1.laid (a:=s.heap.objs.size+1) (o:=.ins C s.heap.objs.size []) (t':=s.toks) (fun b u q=>Heap.get?_push_of_some _ q) (Nat.le_of_eq (Heap.size_push _ _)) ?_
 have ne:s.heap.objs.size≠s.heap.objs.size+1:=Nat.ne_of_lt (Nat.lt_succ_self _)
 refine ⟨by rw [upd_ne ne,upd_same],Nat.zero_le _,ne,e2,fun _=>none,(Heap.Ns1.of_empty e3).at fun o q=>Heap.get?_push_of_some _ q,fun _=>True.intro,fun y hy=>absurd rfl hy⟩
theorem attr_of {prog:Program} {w:World} {env:Env} {e:Expr} {f:Str} {pos:Pos} {s:Shared} {Q:Value->Shared->Prop} (hb:attributeBase e f env (eval e env)=eval e env)
  (h:wpAny (model prog w) A (eval e env) (fun o s₁=>wpAny (model prog w) A (getAttr o f true) Q E s₁) E s):wpAny (model prog w) A (eval (.Attribute e f pos) env) Q E s :=
 Attribute_any_ h (by rw [arm_eval_Attribute,hb])
end
def tFld (K:PySem.W.Frag) (ta:TE) (f:Str):TE:=fun σ H Q=>ta σ H fun x H1=>∃a C dx fs v,x= .ref a/\H1 a=some (.ins C dx fs)/\Cls K C/\zDj K C f/\fs.lookup f=some v/\Q v H1
def sFld (K:PySem.W.Frag) (ta tv:TE) (f:Str):TS:=fun D σ H=>tv σ H fun y H1=>ta σ H1 fun x H2=>∃a C dx fs,x= .ref a/\H2 a=some (.ins C dx fs)/\Cls K C/\zDj K C f/\fs.length<1000 /\
 D.nx σ (upd H2 a (.ins C dx (putF f y fs)))
section
variable {X:Cx} {o e value:Expr} {f:Str} {pos pos' tpos:Pos} {ta tv:TE}
theorem pe_fld (he:PE X e ta) (hb:attributeBase e f X.env (eval e X.env)=eval e X.env):PE X (.Attribute e f pos) (tFld X.K ta f):=by
 intro pins s σ H Q I h
 refine attr_of hb (thn (he pins s σ H _ I h) fun u s1 ⟨x,H1,I1,rx,a,C,dx,fs,v,ex,ea,c,n,l,q⟩=>?_)
 subst ex
 obtain rfl:u=Value.ref a:=rx
 exact getattr_ok I1 ea c n l fun u' s2 I2 ru=>⟨v,H1,I2,ru,q⟩
theorem ps_fld (ha:PE X o ta) (hv:PE X value tv) (hs:swapsWith value (some (.Attribute o f pos')) pos.line X.env=pure false):PS X (.Assign [.Attribute o f pos'] value pos) (sFld X.K ta tv f):=by
 intro pins s σ H D I h
 refine plainObj_wpAny_Assign_Attribute (thn (hv pins s σ H _ I h) fun u s1 ⟨y,H1,I1,ry,q⟩=>thn (ha pins s1 σ H1 _ I1 q) fun ov s2 ⟨x,H2,I2,rx,a,C,dx,fs,ex,ea,c,n,l,q2⟩=>?_) hs
 subst ex
 obtain rfl:ov=Value.ref a:=rx
 exact setattr_ok I2 ea c n l ry fun s3 I3=>⟨σ,_,I3,q2⟩
end
section
variable {X:Cx} {pins:List (Addr×Obj)} {σ:St} {H:Hp} {s:Shared} {A:Around} {E:Value->Shared->Prop} {Q:Value->Shared->Prop} {c:Value} {b:Bool}
inductive TyOf (K:PySem.W.Frag) (H:Hp):V->Value->Prop where
 | non:TyOf K H .non (.type "NoneType")
 | bl (x:Bool):TyOf K H (.bl x) (.type "bool")
 | int (i:Int):TyOf K H (.int i) (.type "int")
 | str (x:Str):TyOf K H (.str x) (.type "str")
 | flt (x:UInt64):TyOf K H (.flt x) (.type "float")
 | lst {a:Addr} {xs:List V} (e:H a=some (.lst xs)):TyOf K H (.ref a) (.type "list")
 | frz {a:Addr} {o:Obj} {xs:List V} (e:H a=some (.frz o (.lst xs))):TyOf K H (.ref a) (.type "list")
 | tup {a:Addr} {xs:List V} (e:H a=some (.tup xs)):TyOf K H (.ref a) (.type "tuple")
 | dK {a:Addr} {kvs:List (Key×V)} (e:H a=some (.dK kvs)):TyOf K H (.ref a) (.type "dict")
 | dT {a:Addr} {kvs:List (List Key×V)} (e:H a=some (.dT kvs)):TyOf K H (.ref a) (.type "dict")
 | ins {a C dx:Addr} {fs:List (Str×V)} (e:H a=some (.ins C dx fs)) (cl:Cls K C) (ha:PySem.W.findIn K (.ref C) "__class__" = some (some (.builtin "object.__class__")))
   (hn:PySem.W.specialIn K (.builtin "object.__class__") "__get__" = some (some (.builtin "getset_descriptor.__get__"))) (htk:PySem.W.takesIn K (.builtin "object.__class__")=some true)
   (hm:PySem.W.mroIn K C (.type "object")=some true):TyOf K H (.ref a) (.ref C)
theorem isinst_ok {x:V} {u t:Value} (I:Inv X pins σ H s) (rx:RelV x u) (ty:TyOf X.K H x t) (e:PySem.W.kitOne X.K t c=some b) (h:∀tk,Q (.bool b) {s with toks:=tk}) :
  wpAny (model X.prog X.w) A (call (.builtin "isinstance") [u,c]) Q E s:=by
 cases ty with
 | non=>cases (show u=Value.none from rx);exact PySem.W.kia_one PySem.W.kitx_none I.kIn True.intro e (fun z=>nomatch z) h
 | bl y=>cases (show u=Value.bool y from rx);exact PySem.W.kia_one PySem.W.kitx_bool I.kIn True.intro e (fun z=>nomatch z) h
 | int i=>obtain ⟨t,q⟩:=(show∃t,u=Value.int i t from rx);cases q;exact PySem.W.kia_one PySem.W.kitx_int I.kIn True.intro e (fun z=>nomatch z) h
 | str y=>obtain ⟨t,q⟩:=(show∃t,u=Value.str y t from rx);cases q;exact PySem.W.kia_one PySem.W.kitx_str I.kIn True.intro e (fun z=>nomatch z) h
 | flt y=>obtain ⟨t,q⟩:=(show∃t,u=Value.float y t from rx);cases q;exact PySem.W.kia_one PySem.W.kitx_float I.kIn True.intro e (fun z=>nomatch z) h
 | @lst a xs ea =>
  cases (show u=Value.ref a from rx)
  obtain ⟨_,_,n,_,h1⟩:=(show zA7 X.prog X.w H s.heap a (.lst xs) from I.hok a _ ea)
  exact PySem.W.kia_one PySem.W.kitx_list I.kIn ⟨_,h1,rfl⟩ e (fun z=>nomatch z) h
 | @frz a ob xs ea =>
  cases (show u=Value.ref a from rx)
  obtain ⟨_,_,_,n,_,h1⟩:=(show zA7 X.prog X.w H s.heap a (.frz ob (.lst xs)) from I.hok a _ ea)
  exact PySem.W.kia_one PySem.W.kitx_list I.kIn ⟨_,h1,rfl⟩ e (fun z=>nomatch z) h
 | @tup a xs ea =>
  cases (show u=Value.ref a from rx)
  obtain ⟨_,_,_,p⟩:=(show zA7 X.prog X.w H s.heap a (.tup xs) from I.hok a _ ea)
  obtain ⟨o,h1,h2,_⟩:=p
  exact PySem.W.kia_one PySem.W.kitx_tuple I.kIn ⟨o,h1,h2⟩ e (fun z=>nomatch z) h
 | @dK a kvs ea =>
  cases (show u=Value.ref a from rx)
  obtain ⟨_,_,vs,_,p⟩:=(show zA7 X.prog X.w H s.heap a (.dK kvs) from I.hok a _ ea)
  obtain ⟨o,es,ep,h1,h2,_⟩:=p
  exact PySem.W.kia_one PySem.W.kitx_dict I.kIn ⟨o,h1,h2.1⟩ e (fun z=>nomatch z) h
 | @dT a kvs ea =>
  cases (show u=Value.ref a from rx)
  obtain ⟨_,_,xs,_,o,es,ep,h1,h2,_⟩:=(show zA7 X.prog X.w H s.heap a (.dT kvs) from I.hok a _ ea)
  exact PySem.W.kia_one PySem.W.kitx_dict I.kIn ⟨o,h1,h2.1⟩ e (fun z=>nomatch z) h
 | @ins a C dx fs ea cl ha hn htk hm =>
  cases (show u=Value.ref a from rx)
  obtain ⟨mA,O,_⟩:=zF5 I.hok ea
  obtain ⟨od,J,_⟩:=O.look
  exact PySem.W.kia_one (PySem.W.kitx_own (cl.get _) cl.hd ha hn htk hm) I.kIn J e (fun z=>nomatch z) h
end
structure Room (k:Nat) (A:Around):Prop where
 hd:A.handled=none
 dp:A.depth+3*k+5<recursionLimit
 un:A.units+16*k+200<cLine
 gd:A.guards=some []
theorem Room.mono {j k:Nat} {A:Around} (r:Room k A) (h:j<=k):Room j A:=⟨r.hd,by have:=r.dp;omega,by have:=r.un;omega,r.gd⟩
theorem Room.deeper {k:Nat} {A:Around} (r:Room (k+1) A) (env:Env):Room k (A.deeper env) :=
 ⟨r.hd,by have:=r.dp;show A.depth+1+3*k+5<_;omega,by have:=r.un;show A.units+3+16*k+200<_;omega,r.gd⟩
theorem make_depth {A:Around} {C:Addr} {us:List Value} {kw:List (Str×Value)}:(A.under (.builtin "type.__call__" ⟨.ref C::us,kw⟩)).depth=A.depth+1:=by
 first| rfl| simp [Around.under,Code.weight,Code.isCreation,Code.isGuard,Code.isCaller,Code.frames,Code.isFrame,guardIds]
theorem make_units {A:Around} {C:Addr} {us:List Value} {kw:List (Str×Value)}:(A.under (.builtin "type.__call__" ⟨.ref C::us,kw⟩)).units=A.units+1:=by
 first| rfl| simp [Around.under,Code.cUnits,Code.frames,Code.isFrame]
theorem Room.make {k:Nat} {A:Around} (r:Room (k+1) A) (C:Addr) (us:List Value) (kw:List (Str×Value)):Room k (A.under (.builtin "type.__call__" ⟨.ref C::us,kw⟩)) :=
 ⟨r.hd,by have:=r.dp;rw [make_depth];omega,by have:=r.un;rw [make_units];omega,(by unfold Around.under;dsimp only;rw [r.gd];rfl)⟩
theorem Room.depth {k:Nat} {A:Around} (r:Room k A):A.depth<recursionLimit:=by have:=r.dp;omega
theorem Room.units {k:Nat} {A:Around} (r:Room k A):A.units+64<cLine:=by have:=r.un;omega
theorem Room.units0 {k:Nat} {A:Around} (r:Room k A):A.units<cLine:=by have:=r.un;omega
def tNil:TA:=fun _ H Q=>Q [] H
def tCons (ta:TE) (tr:TA):TA:=fun σ H Q=>ta σ H fun x H1=>tr σ H1 fun xs H2=>Q (x::xs) H2
section
variable {X:Cx} {e:Expr} {es:List Expr} {te:TE} {t:TA} {pos:Pos}
theorem zAb:PA X [] tNil:=fun _ _ _ _ H Q I h=>Calls.spliced_nil ⟨[],H,I,.nil,h⟩
theorem zAa (ha:PE X e te) (hr:PA X es t) (hs:starEach (e::es) X.env=(false,eval e X.env)::starEach es X.env:=by rfl):PA X (e::es) (tCons te t):=by
 intro pos pins s σ H Q I h
 rw [hs]
 show wpAny _ _ (spliced ((false,eval e X.env)::backTo pos (starEach es X.env))) _ _ s
 refine Calls.spliced_cons (thn (ha pins s σ H _ I h) fun u s1 ⟨x,H1,I1,r1,q1⟩=>?_)
 exact thn (hr pos pins s1 σ H1 _ I1 q1) fun us s2 ⟨xs,H2,I2,r2,q2⟩=>⟨x::xs,H2,I2,.cons r1 r2,q2⟩
def tTup (t:TA):TE:=fun σ H Q=>t σ H fun xs H1=>xs.length<=sizeLine/\∀p,H1 p=none->Q (.ref p) (upd H1 p (.tup xs))
def tLst (t:TA):TE:=fun σ H Q=>t σ H fun xs H1=>xs.length<=sizeLine/\∀p,H1 p=none->Q (.ref p) (upd H1 p (.lst xs))
theorem zB9 {x1} (h:PA X es t):PE X (.Tuple es x1 pos) (tTup t):=by
 intro pins s σ H Q I hq
 refine wpAny_Tuple_spliced (thn (h pos pins s σ H _ I hq) fun us s1 ⟨xs,H1,I1,r,z,q⟩=>⟨by rw [<-r.length];exact z,?_⟩)
 have hf:H1 s1.heap.objs.size=none:=I1.hok.fresh (Nat.le_refl _)
 refine ⟨.ref s1.heap.objs.size,upd H1 s1.heap.objs.size (.tup xs),I1.laid (t':=s1.toks) (fun b u e=>Heap.get?_push_of_some _ e) (Nat.le_refl _) ?_,rfl,q _ hf⟩
 exact ⟨z,us,r,⟨_,Heap.get?_push_size _ rfl,rfl,_,rfl⟩⟩
theorem zBo (h:PA X es t):PE X (.List es pos) (tLst t):=by
 intro pins s σ H Q I hq
 refine wpAny_List_spliced (thn (h pos pins s σ H _ I hq) fun us s1 ⟨xs,H1,I1,r,z,q⟩=>⟨by rw [<-r.length];exact z,?_⟩)
 have hf:H1 s1.heap.objs.size=none:=I1.hok.fresh (Nat.le_refl _)
 refine ⟨.ref s1.heap.objs.size,upd H1 s1.heap.objs.size (.lst xs),I1.laid (t':=s1.toks) (fun b u e=>Heap.get?_push_of_some _ e) (Nat.le_refl _) ?_,rfl,q _ hf⟩
 exact ⟨z,us,0,r,Heap.get?_push_size _ rfl⟩
end
abbrev Sp:=List V->Hp->VK->XK->Prop
abbrev CXT:=List Env->Hp->Shared->XK->Value->Shared->Prop
structure Env0 (P:Program) (w:World) (K:PySem.W.Frag) (mg:Str->Option Value) (base:Heap) (A:Around) (outer:List Env) (s:Shared) (H:Hp):Prop where
 frames:A.frames=some outer
 mod:Mod K mg base
 bs:∀b o,base.get? b=some o->s.heap.get? b=some o/\H b=none
 bsz:base.objs.size<=s.heap.objs.size
 funs:s.heap.FunFrames base outer
 frf:∀b∈frs outer,H b=none
 hok:HOk P w H s.heap
 bare:AllBare s.gens
def CE (outer:List Env) (P:Program) (w:World) (H:Hp) (s:Shared) (Q:VK) (u:Value) (s':Shared):Prop :=
 ∃v H',s'.os=s.os/\AllBare s'.gens/\Un (frs outer) [] H H' s.heap s'.heap/\HOk P w H' s'.heap/\RelV v u/\Q v H'
def CR (CX:CXT) (outer:List Env) (P:Program) (w:World) (H:Hp) (s:Shared) (Q:VK) (E:XK) (r:Result) (s':Shared):Prop :=
 match r with
 | .ok (.ret u)=>CE outer P w H s Q u s'
 | .ok _=>False
 | .error e=>CX outer H s E e s'
structure FnOk (P:Program) (w:World) (K:PySem.W.Frag) (mg:Str->Option Value) (base:Heap) (CX:CXT) (k:Nat) (f:Addr) (fd:FuncData) (ps:List Str) (sp:Sp):Prop where
 len:∀vs H Q E,sp vs H Q E->vs.length=ps.length
 run:∀(A:Around) (outer:List Env) (s:Shared) (H:Hp) (args:Args) (us:List Value) (vs:List V) (Q:VK) (E:XK),Room k A->Env0 P w K mg base A outer s H->BindsTo s fd args (ps.zip us)->Vals vs us->sp vs H Q E ->
  codeAny (model P w) A (.call (.ref f) args) (CR CX outer P w H s Q E) s
theorem FnOk.mono {P:Program} {w:World} {K:PySem.W.Frag} {mg:Str->Option Value} {base:Heap} {CX:CXT} {j k:Nat} {f:Addr} {fd:FuncData} {ps:List Str} {sp:Sp} (F:FnOk P w K mg base CX j f fd ps sp) (h:j<=k) :
  FnOk P w K mg base CX k f fd ps sp:=⟨F.len,fun A outer s H args us vs Q E hr=>F.run A outer s H args us vs Q E (hr.mono h)⟩
theorem Env0.make {P:Program} {w:World} {K:PySem.W.Frag} {mg:Str->Option Value} {base:Heap} {A:Around} {outer:List Env} {s:Shared} {H:Hp} (e:Env0 P w K mg base A outer s H) (C:Addr) (us:List Value) (kw:List (Str×Value)) :
  Env0 P w K mg base (A.under (.builtin "type.__call__" ⟨.ref C::us,kw⟩)) outer s H:=⟨by first| exact e.frames| (simpa [Around.under,Code.envs,Code.isFrame,pushEnvs] using e.frames),e.mod,e.bs,e.bsz,e.funs,e.frf,e.hok,e.bare⟩
section
variable {X:Cx} {pins:List (Addr×Obj)} {σ:St} {H:Hp} {s s':Shared}
theorem Inv.env0 (I:Inv X pins σ H s):Env0 X.prog X.w X.K X.mg X.base X.A X.stack s H :=
 ⟨I.ok.frames,I.ok.mod,I.bs,Nat.le_trans I.ok.bsz I.sz,I.stack,I.stkFree,I.hok,I.bare⟩
theorem Inv.after {Q:VK} {u:Value} (I:Inv X pins σ H s) (h:CE X.stack X.prog X.w H s Q u s'):EP X pins σ Q u s':=by
 obtain ⟨v,H',os,bare,un,hok,r,q⟩:=h
 obtain ⟨hh,g,d,t,os'⟩:=s'
 obtain rfl:os'=s.os:=os
 exact ⟨v,H',I.call (h':=hh) (g':=g) (d':=d) (t':=t) (ch:=[]) un hok bare (fun b z=>absurd z (by simp)),r,q⟩
end
def tCall (sp:Sp) (dvs:List V) (E:XK) (t:TA):TE:=fun σ H Q=>t σ H fun vs H1=>sp (vs++dvs) H1 Q E
def tMeth (C:Addr) (m:Str) (sp:Sp) (dvs:List V) (E:XK) (ta:TE) (t:TA):TE:=fun σ H Q=>ta σ H fun x H1=>∃a dx fs,x= .ref a/\H1 a=some (.ins C dx fs)/\fs.lookup m=none /\
 t σ H1 fun vs H2=>sp (x::(vs++dvs)) H2 Q E
def zC5 (K:PySem.W.Frag) (fd:FuncData) (ps:List Str) (ds:List Value):Prop :=
 ∀(s:Shared) (us:List Value),K.In s.heap->(us++ds).length=ps.length->BindsTo s fd ⟨us,[]⟩ (ps.zip (us++ds))
theorem zC5.all {K:PySem.W.Frag} {fd:FuncData} {ps:List Str} (h:∀us:List Value,us.length=ps.length->bindArgs fd ⟨us,[]⟩=pure (ps.zip us)):zC5 K fd ps []:=fun s us _ hl=>by
 rw [List.append_nil] at hl ⊢
 exact .of_eq (h us hl)
def Passes (CX:CXT) (X:Cx) (E:XK):Prop:=∀(pins:List (Addr×Obj)) (σ:St) (H:Hp) (s:Shared) (e:Value) (s':Shared),Inv X pins σ H s->CX X.stack H s E e s'->X.xe e s'
section
variable {X:Cx} {CX:CXT} {k:Nat} {f C:Addr} {fd:FuncData} {ps:List Str} {sp:Sp} {dvs:List V} {ds:List Value} {E:XK} {x m:Str} {p pos apos:Pos} {e o:Expr} {es:List Expr} {ta:TE} {t:TA}
theorem run_fn {pins:List (Addr×Obj)} {σ:St} {H:Hp} {s:Shared} {Q:VK} {us:List Value} {vs:List V} (F:FnOk X.prog X.w X.K X.mg X.base CX k f fd ps sp) (hr:Room k X.A) (hb:zC5 X.K fd ps ds) (hd:Vals dvs ds) (hx:Passes CX X E)
  (I:Inv X pins σ H s) (r:Vals vs us) (h:sp (vs++dvs) H Q E):wpAny (model X.prog X.w) X.A (call (.ref f) us) (EP X pins σ Q) X.xe s:=by
 have r2:Vals (vs++dvs) (us++ds):=r.append hd
 have hl:(us++ds).length=ps.length:=by rw [<-r2.length];exact F.len _ _ _ _ h
 refine wpAny_call (codeAny_mono (F.run X.A X.stack s H ⟨us,[]⟩ (us++ds) (vs++dvs) Q E hr I.env0 (hb s us I.kIn hl) r2 h) fun r s' hq=>?_)
 cases r with
 | error e=>exact hx pins σ H s e s' I hq
 | ok fl =>
  cases fl with
  | ret u=>exact I.after hq
  | next=>exact False.elim hq
  | brk=>exact False.elim hq
  | cont=>exact False.elim hq
theorem pe_call (F:FnOk X.prog X.w X.K X.mg X.base CX k f fd ps sp) (hr:Room k X.A) (hg:Gl X x) (hm:X.mg x=some (.ref f)) (hk:PySem.W.keepIn X.K (.ref f)=true) (hb:zC5 X.K fd ps ds) (hd:Vals dvs ds) (hx:Passes CX X E)
  (ha:PA X (e::es) t) (hdb:(x==("__debug__" : Str))=false:=by decide) (he:starEach (e::es) X.env=(false,eval e X.env)::starEach es X.env:=by rfl) (hpl:(backTo pos (starEach es X.env)).any (·.1)=false:=by rfl) :
  PE X (.Call (.Name x p) (e::es) [] pos) (tCall sp dvs E t):=by
 intro pins s σ H Q I h
 refine wpAny_Call_Name_kw (zEc I hg hm ?_ hdb)
 refine PySem.W.callWith_K (h₀:=X.base) I.ok.mod.kin hk (thn (ha pos pins s σ H _ I h) fun us s1 ⟨vs,H1,I1,r,q⟩=>⟨I1.kIn,?_⟩) he hpl
 exact run_fn F hr hb hd hx I1 r q
theorem pe_meth0 {pl:Sem Bool} (he:PE X o ta) (c:Cls X.K C) (hm:Meth X.K C m f) (F:FnOk X.prog X.w X.K X.mg X.base CX k f fd ps sp) (hr:Room k X.A) (hb:zC5 X.K fd ps ds) (hd:Vals dvs ds) (hx:Passes CX X E)
  (ht:eval (.Call (.Attribute o m apos) [] [] pos) X.env=(do
   let ov<-eval o X.env
   standAt apos.atName
   let (f,first)<-holding [ov] (getMethod ov m pl)
   callWith pos f first (backTo pos (starEach [] X.env)) (backToKw pos (keywordEach [] X.env))):=by rfl) :
  PE X (.Call (.Attribute o m apos) [] [] pos) (tMeth C m sp dvs E ta tNil):=by
 intro pins s σ H Q I h
 refine PySem.W.methodCall_KW (pl:=pl) (thn (he pins s σ H _ I h) fun u s1 ⟨x,H1,I1,rx,a,dx,fs,ex,ea,l,q⟩=>?_) ht
 subst ex
 obtain rfl:u=Value.ref a:=rx
 refine getmeth_ok I1 ea c hm l ?_
 exact PySem.W.callWith_K0 (first:=[.ref a]) I1.kIn hm.kp (run_fn (us:=[.ref a]) (vs:=[.ref a]) F hr hb hd hx I1 (.cons rfl .nil) q)
structure Mk (K:PySem.W.Frag) (C f:Addr):Prop where
 makes:PySem.W.makesIn K C=true
 init:PySem.W.findIn K (.ref C) "__init__" = some (some (.ref f))
 fn:PySem.W.isFn K (.ref f)=true
 kp:PySem.W.keepIn K (.ref C)=true
end
section
variable {X:Cx} {CX:CXT} {k:Nat} {f C:Addr} {fd:FuncData} {ps ks:List Str} {sp:Sp} {E:XK} {x m:Str} {p pos apos kpos:Pos} {e o:Expr} {es:List Expr} {kws:List Keyword} {te ta:TE} {t tk:TA} {nm:Option Str}
variable {g:List Value->List Value->List Value} {gV:List V->List V->List V}
end
structure FnScope (N P:List Str) (sc:Scope):Prop where
 kind:sc.kind= .function
 co:sc.isCoroutine=false
 gen:sc.isGenerator=false
 nd:N.Nodup
 pre:N.take P.length=P
 par:∀x∈P,sc.names.lookup x=some .local\/sc.names.lookup x=some .cell
 nofree:∀y∈sc.names,y.2≠.free
theorem bindL_out {kindOf:Str->Option NameKind} {x:Str}:∀{binds:List (Str×Value)} {m:Str->Option Value},(∀v,(x,v)∉binds)->bindL kindOf binds m x=m x
 | [],_,_=>rfl
 | (n,v)::r,m,h=>by
  unfold bindL
  rw [bindL_out fun w hw=>h w (List.mem_cons_of_mem _ hw)]
  split
  ·have:x≠n:=by rintro rfl;exact h v List.mem_cons_self
   simp [this]
  ·rfl
theorem bindC_out {kindOf:Str->Option NameKind} {x:Str}:∀{binds:List (Str×Value)} {m:Str->Option Value},(∀v,(x,v)∉binds)->bindC kindOf binds m x=m x
 | [],_,_=>rfl
 | (n,v)::r,m,h=>by
  unfold bindC
  rw [bindC_out fun w hw=>h w (List.mem_cons_of_mem _ hw)]
  split
  ·rfl
  ·have:x≠n:=by rintro rfl;exact h v List.mem_cons_self
   simp [this]
theorem bindL_get {kindOf:Str->Option NameKind} {x:Str} {v:Value}:∀{P:List Str} {vs:List Value} {i:Nat} {m:Str->Option Value},P.Nodup->P[i]?=some x->vs[i]?=some v->kindOf x=some .local ->
  bindL kindOf (P.zip vs) m x=some v
 | [],_,_,_,_,h,_,_=>by simp at h
 | _::_,[],_,_,_,_,h,_=>by simp at h
 | p::P,w::vs,0,m,nd,h1,h2,hk=>by
  simp at h1 h2;subst h1;subst h2
  show bindL kindOf ((p,w)::P.zip vs) m p=_
  unfold bindL
  rw [bindL_out fun v hv=>(List.nodup_cons.mp nd).1 (List.of_mem_zip hv).1,if_pos hk]
  simp
 | p::P,w::vs,i+1,m,nd,h1,h2,hk=>by
  show bindL kindOf ((p,w)::P.zip vs) m x=_
  unfold bindL
  exact bindL_get (i:=i) (List.nodup_cons.mp nd).2 (by simpa using h1) (by simpa using h2) hk
theorem bindC_get {kindOf:Str->Option NameKind} {x:Str} {v:Value}:∀{P:List Str} {vs:List Value} {i:Nat} {m:Str->Option Value},P.Nodup->P[i]?=some x->vs[i]?=some v->kindOf x≠some .local ->
  bindC kindOf (P.zip vs) m x=some v
 | [],_,_,_,_,h,_,_=>by simp at h
 | _::_,[],_,_,_,_,h,_=>by simp at h
 | p::P,w::vs,0,m,nd,h1,h2,hk=>by
  simp at h1 h2;subst h1;subst h2
  show bindC kindOf ((p,w)::P.zip vs) m p=_
  unfold bindC
  rw [bindC_out fun v hv=>(List.nodup_cons.mp nd).1 (List.of_mem_zip hv).1,if_neg hk]
  simp
 | p::P,w::vs,i+1,m,nd,h1,h2,hk=>by
  show bindC kindOf ((p,w)::P.zip vs) m x=_
  unfold bindC
  exact bindC_get (i:=i) (List.nodup_cons.mp nd).2 (by simpa using h1) (by simpa using h2) hk
def zHp (N:List Str) (vs:List V):St:=vs.map some++List.replicate (N.length - vs.length) none
def cxOf (CX:CXT) (P:Program) (w:World) (K:PySem.W.Frag) (mg:Str->Option Value) (base:Heap) (N:List Str) (qual:Str) (scope:Scope) (f:Addr) (cd:Value) (A:Around) (outer:List Env) (s:Shared) (H:Hp) (E:XK):Cx where
 prog:=P
 w:=w
 K:=K
 mg:=mg
 base:=base
 A:=A.deeper (envOfC qual scope s.heap.objs.size f cd)
 N:=N
 s₀:=s
 H₀:=H
 env:=envOfC qual scope s.heap.objs.size f cd
 outer:=outer
 stack:=envOfC qual scope s.heap.objs.size f cd::outer
 ex:=[]
 calm:=true
 fn:=fun _=>true
 pn:=[]
 xe:=fun e s'=>wpAny (model P w) (A.deeper (envOfC qual scope s.heap.objs.size f cd)) (leaving (envOfC qual scope s.heap.objs.size f cd) e) (fun _ s''=>CX outer H s E e s'') (fun e' s''=>CX outer H s E e' s'') s'
theorem cell_has {sc:Scope} {n:Nat} {x:Str} (h:sc.names.lookup x=some .cell):∃c,(cellsFrom n sc.names []).lookup x=some c:=by
 have q:=PySem.W.cellsFrom_some sc.names n [] (.inl h)
 exact Option.isSome_iff_exists.mp q
theorem inv_start {CX:CXT} {P:Program} {w:World} {K:PySem.W.Frag} {mg:Str->Option Value} {base:Heap} {N ps:List Str} {qual:Str} {scope:Scope} {f:Addr} {cd:Value} {A:Around} {outer:List Env} {s s1:Shared} {H:Hp} {E:XK} {us:List Value} {vs:List V}
  (S:FnScope N ps scope) (hd:A.handled=none) (e0:Env0 P w K mg base A outer s H) (hl:vs.length=ps.length) (r:Vals vs us)
  (x:InCallC s s.heap.objs.size (bindL (envOfC qual scope s.heap.objs.size f cd).kindOf (ps.zip us) fun _=>none) (cellsFrom (s.heap.objs.size+1) scope.names []) (bindC (envOfC qual scope s.heap.objs.size f cd).kindOf (ps.zip us) fun _=>none) s1) :
  Inv (cxOf CX P w K mg base N qual scope f cd A outer s H E) [] (zHp N vs) H s1:=by
 have hpl:ps.length<=N.length:=by have:=congrArg List.length S.pre;rw [List.length_take] at this;omega
 obtain ⟨h1,tk,rfl,hk⟩:=x.done
 have noA:∀b:Addr,b∉(cxOf CX P w K mg base N qual scope f cd A outer s H E).ex:=fun b z=>absurd (show b∈([]:List Addr) from z) (by simp)
 refine ⟨⟨e0.mod,S.kind,rfl,rfl,Nat.le_refl _,fun y z c h1 h2=>?_,fun y hy=>?_,fun y c _ h=>?_,fun _=>hd,Around.frames_deeper e0.frames,.inr ⟨rfl,rfl⟩,fun b z=>absurd z (noA b),e0.bs,e0.bsz,fun b _ _=>noA b,fun b z=>absurd z (noA b),e0.funs,e0.frf⟩,
  rfl,e0.bare,Un.kept hk,⟨_,x.toInCall.ns,fun i y v h1 h2 h3=>?_⟩,fun y c h=>⟨_,x.cell y c h⟩,e0.hok.fresh (Nat.le_refl _),fun y c h=>?_,fun p hp=>absurd (show p∈([]:List (Addr×Obj)) from hp) (by simp),e0.hok.kept hk,?_⟩
 ·exact name_of_addr x.apart (PySem.mem_of_lookup h1) (PySem.mem_of_lookup h2)
 ·have hy:scope.names.lookup y=some .cell\/scope.names.lookup y=some .free:=hy
  rcases hy with hy| hy
  ·exact cell_has hy
  ·exact absurd rfl (S.nofree _ (PySem.mem_of_lookup hy))
 ·exact Nat.le_of_lt (x.above y c (PySem.mem_of_lookup h))
 ·have hi:i<vs.length:=by
   unfold zHp at h2
   by_cases hi:i<vs.length
   ·exact hi
   ·rw [List.getElem?_append_right (by simpa using hi)] at h2
    rw [List.getElem?_replicate] at h2
    split at h2<;>cases h2
  have ha:vs[i]?=some v:=by
   unfold zHp at h2
   rw [List.getElem?_append_left (by simpa using hi),List.getElem?_map] at h2
   cases e:vs[i]? with
   | none=>rw [e] at h2;cases h2
   | some a=>rw [e] at h2;cases h2;rfl
  obtain ⟨u,hu,rv⟩:=r.get ha
  have hp:ps[i]?=some y:=by
   rw [<-S.pre,List.getElem?_take_of_lt (by omega)];exact h1
  have ndP:ps.Nodup:=by rw [<-S.pre];exact S.nd.sublist (List.take_sublist _ _)
  refine ⟨u,rv,?_⟩
  rcases S.par y (List.mem_of_getElem? hp) with k| k
  ·exact .inl ⟨k,bindL_get ndP hp hu k⟩
  ·obtain ⟨c,e⟩:=cell_has (n:=s.heap.objs.size+1) k
   refine .inr ⟨.inl k,c,e,?_⟩
   have q:=x.cell y c e
   rw [bindC_get ndP hp hu (by show scope.names.lookup y≠_;rw [k];decide)] at q
   exact q
 ·exact e0.hok.fresh (Nat.le_of_lt (x.above y c (PySem.mem_of_lookup h)))
 ·unfold zHp
  show _=N.length
  rw [List.length_append,List.length_map,List.length_replicate]
  omega
theorem fn_of {CX:CXT} {P:Program} {w:World} {K:PySem.W.Frag} {mg:Str->Option Value} {base:Heap} {k:Nat} {f:Addr} {name qual:Str} {params:Arguments} {body:List Stmt} {scope:Scope} {dV kV doc pm cdv ct oc:Value} {an od:Option Addr}
  {osl:Array (Option Value)} {N ps:List Str} {sp:Sp} (lk:K.lookup f=some ⟨oc,od,.func (PySem.W.fnOf name qual params body scope dV kV doc pm an cdv ct),osl⟩) (hcd:PySem.W.codeIn K cdv qual=true) (S:FnScope N ps scope)
  (len:∀vs H Q E,sp vs H Q E->vs.length=ps.length)
  (hbody:∀(A:Around) (outer:List Env) (s:Shared) (H:Hp) (vs:List V) (Q:VK) (E:XK),Room k (A.deeper (envOfC qual scope s.heap.objs.size f cdv))->sp vs H Q E ->
   ∃t,PSs (cxOf CX P w K mg base N qual scope f cdv A outer s H E) body t/\t {nx:=fun _ H'=>Q .non H',rt:=Q} (zHp N vs) H) :
  FnOk P w K mg base CX (k+1) f (PySem.W.fnOf name qual params body scope dV kV doc pm an cdv ct) ps sp:=by
 refine ⟨len,fun A outer s H args us vs Q E hr e0 hb r hsp=>?_⟩
 have hl:=len _ _ _ _ hsp
 have KX:K.In s.heap:=e0.mod.kin.keeps fun b o e=>(e0.bs b o e).1
 have lim:s.heap.NoLimit:=e0.mod.nolimit.keeps fun b o e=>(e0.bs b o e).1
 have hkind:∀y∈ps.zip us,scope.names.lookup y.1=some .local\/(scope.names.lookup y.1=some .cell/\((cellsFrom (s.heap.objs.size+1) scope.names []).lookup y.1).isSome=true):=fun ⟨n,v⟩ hy=>by
  rcases S.par n (List.of_mem_zip hy).1 with q| q
  ·exact .inl q
  ·exact .inr ⟨q,PySem.W.cellsFrom_some _ _ _ (.inl q)⟩
 refine codeAny_call_function hr.depth (KX _ _ lk) rfl S.co S.gen rfl (PySem.W.codeRec_of KX hcd) (hb _ _ _ _ ?_)
 refine wpAny_newFunctionEnv_cells S.kind hkind fun env he s1 x=>?_
 subst he
 refine ⟨lim.keeps x.toInCall.keep,codeAny_func ?_⟩
 obtain ⟨t,ht,hq⟩:=hbody A outer s H vs Q E (hr.deeper _) hsp
 have I:Inv (cxOf CX P w K mg base N qual scope f cdv A outer s H E) [] (zHp N vs) H s1:=inv_start S hr.hd e0 hl r x
 refine wpAny_mono (ht [] s1 (zHp N vs) H _ I hq) (fun fl s' hs=>?_) fun e s' hs=>hs
 have fin:∀{σ':St} {H':Hp} {v:V} {u:Value},Inv (cxOf CX P w K mg base N qual scope f cdv A outer s H E) [] σ' H' s'->RelV v u->Q v H'->CE outer P w H s Q u s' :=
  fun {σ' H' v u} J rv q=>⟨v,H',J.os,J.bare,J.base,J.hok,rv,q⟩
 cases fl with
 | ret u =>
  obtain ⟨v,σ',H',J,rv,q⟩:=hs
  exact fin J rv q
 | next =>
  obtain ⟨σ',H',J,q⟩:=hs
  exact fin (v:=V.non) (u:=Value.none) J rfl q
 | brk =>
  obtain ⟨_,_,_,q⟩:=hs
  exact False.elim q
 | cont =>
  obtain ⟨_,_,_,q⟩:=hs
  exact False.elim q
section
variable {X:Cx} {x:Str} {p pos:Pos} {e:Expr} {es:List Expr} {t:TA} {id T:String} {r:List V->Hp->VK->Prop}
def tCB (r:List V->Hp->VK->Prop) (t:TA):TE:=fun σ H Q=>t σ H fun vs H1=>r vs H1 Q
theorem zAf (hc:zCr X (.builtin id) r) (hg:Gl X x) (hm:X.mg x=none) (hv:bootBuiltins x=some (.builtin id)) (ha:PA X (e::es) t) (hn:x≠ "__name__" := by decide) (hdb:(x==("__debug__" : Str))=false:=by decide)
  (he:starEach (e::es) X.env=(false,eval e X.env)::starEach es X.env:=by rfl) (hpl:(backTo pos (starEach es X.env)).any (·.1)=false:=by rfl):PE X (.Call (.Name x p) (e::es) [] pos) (tCB r t):=by
 intro pins s σ H Q I h
 refine wpAny_Call_Name_kw (ld_blt I hg hm hv ?_ hn hdb)
 exact PyProof.Rows.callWith_builtin1 (thn (ha pos pins s σ H _ I h) fun us s1 ⟨vs,H1,I1,r1,q1⟩=>hc pins s1 σ H1 vs us Q I1 r1 q1) he hpl
theorem zAy (hc:zCr X (.type T) r) (hg:Gl X x) (hm:X.mg x=none) (hv:bootBuiltins x=some (.type T)) (ha:PA X (e::es) t) (hn:x≠ "__name__" := by decide) (hdb:(x==("__debug__" : Str))=false:=by decide)
  (he:starEach (e::es) X.env=(false,eval e X.env)::starEach es X.env:=by rfl) (hpl:(backTo pos (starEach es X.env)).any (·.1)=false:=by rfl):PE X (.Call (.Name x p) (e::es) [] pos) (tCB r t):=by
 intro pins s σ H Q I h
 refine wpAny_Call_Name_kw (ld_blt I hg hm hv ?_ hn hdb)
 exact PyProof.Rows.callWith_type1 (thn (ha pos pins s σ H _ I h) fun us s1 ⟨vs,H1,I1,r1,q1⟩=>hc pins s1 σ H1 vs us Q I1 r1 q1) he hpl
end
end L2
namespace HT
open PySem PyProof.Rows
section
open PySem.SeqAt
open PySem.AutoSeq1 (wpAny_loadPart')
open PySem.MeetsSeq PySem.MeetsSeq2 PySem.MeetsSeq3
end
section
variable {prog:Program} {w:World} {A:Around} {E:Value->Shared->Prop} {s:Shared}
def sIx (n d:Nat):Option Int->Nat
 | none=>d
 | some v=>if v<0 then (v+(n:Int)).toNat else min v.toNat n
theorem sIx_none (n d:Nat):sIx n d none=d:=rfl
theorem sIx_nat (n d k:Nat):sIx n d (some (k:Int))=min k n:=by
 show (if (k:Int)<0 then ((k:Int)+(n:Int)).toNat else min (k:Int).toNat n)=min k n
 rw [if_neg (by omega),Int.toNat_natCast]
end
end HT
namespace L2
open PySem PySem.Spec PyProof.Rows
abbrev TO:=St->Hp->(Option Int->Hp->Prop)->Prop
def PO (X:Cx) (e:Option Expr) (t:TO):Prop :=
 ∀(pins:List (Addr×Obj)) (s:Shared) (σ:St) (H:Hp) (Q:Option Int->Hp->Prop),Inv X pins σ H s->t σ H Q ->
  wpAny (model X.prog X.w) X.A (evalPart e X.env) (fun u s'=>∃o H',Inv X pins σ H' s'/\IsPart u o/\Q o H') X.xe s
def tNoPart:TO:=fun _ H Q=>Q none H
def tPart (t:TE):TO:=fun σ H Q=>t σ H fun x H1=>∃i,x= .int i/\Q (some i) H1
section
variable {X:Cx} {e:Expr} {te:TE} {lo hi:Option Expr} {tl th:TO} {pos p2:Pos}
theorem zDl:PO X none tNoPart:=by
 intro pins s σ H Q I h
 rw [evalPart_none]
 exact wpAny_pure ⟨none,H,I,.none,h⟩
theorem zDk (h:PE X e te):PO X (some e) (tPart te):=by
 intro pins s σ H Q I hw
 rw [evalPart_some]
 refine thn (h pins s σ H _ I hw) fun u s1 ⟨x,H1,I1,r1,q1⟩=>?_
 obtain ⟨i,rfl,q⟩:=q1
 obtain ⟨t,rfl⟩:=r1
 exact ⟨some i,H1,I1,.int i t,q⟩
def SlR (X:Cx) (r:V->Option Int->Option Int->Hp->VK->Prop):Prop :=
 ∀(pins:List (Addr×Obj)) (s:Shared) (σ:St) (H:Hp) (x:V) (v vl vu:Value) (lo hi:Option Int) (sl:Addr) (Q:VK),Inv X pins σ H s->RelV x v->s.heap.IsSliceOf sl vl vu .none->IsPart vl lo->IsPart vu hi->r x lo hi H Q ->
  ∃T id,typeLookup (.type T) "__getitem__" = pure (some (.builtin id))/\s.TypeIs v T/\wpAny (model X.prog X.w) X.A (getItem v (.ref sl)) (EP X pins σ Q) X.xe s
def tSl (r:V->Option Int->Option Int->Hp->VK->Prop) (te:TE) (tl th:TO):TE:=fun σ H Q=>te σ H fun x H1=>tl σ H1 fun l H2=>th σ H2 fun u H3=>r x l u H3 Q
theorem zCg {r:V->Option Int->Option Int->Hp->VK->Prop} (hr:SlR X r) (he:PE X e te) (hl:PO X lo tl) (hu:PO X hi th):PE X (.Subscript e (.Slice lo hi none p2) pos) (tSl r te tl th):=by
 intro pins s σ H Q I h
 refine Subscript_ (thn (he pins s σ H _ I h) fun v s1 ⟨x,H1,I1,r1,q1⟩=>?_)
 refine wpAny_Slice (thn (hl pins s1 σ H1 _ I1 q1) fun vl s2 ⟨l,H2,I2,pl,q2⟩=>thn (hu pins s2 σ H2 _ I2 q2) fun vu s3 ⟨u,H3,I3,pu,q3⟩=>?_)
 rw [evalPart_none]
 refine wpAny_pure ?_
 have I4:Inv X pins σ H3 {s3 with heap:=s3.heap.push {cls:=.type "slice",data:=.fields #[vl,vu,.none]}}:=I3.kept (t':=s3.toks) fun b ob q=>Heap.get?_push_of_some _ q
 obtain ⟨T,id,hT,ht,hg⟩:=hr pins {s3 with heap:=s3.heap.push {cls:=.type "slice",data:=.fields #[vl,vu,.none]}} σ H3 x v vl vu l u s3.heap.objs.size Q I4 r1 (Heap.IsSliceOf.new ..) pl pu q3
 show wpAny (model X.prog X.w) X.A (subscriptTail e (.Slice lo hi none p2) v (.ref s3.heap.objs.size)) (EP X pins σ Q) X.xe {s3 with heap:=s3.heap.push {cls:=.type "slice",data:=.fields #[vl,vu,.none]}}
 exact tail_any (ops:=[.ref s3.heap.objs.size,v]) ht hT hg (by with_unfolding_all rfl)
def cutV (xs:List V) (lo hi:Option Int):List V:=(xs.drop (HT.sIx xs.length 0 lo)).take (HT.sIx xs.length xs.length hi - HT.sIx xs.length 0 lo)
theorem cutV_length (xs:List V) (lo hi:Option Int):(cutV xs lo hi).length<=xs.length:=by
 unfold cutV
 rw [List.length_take,List.length_drop]
 omega
end
def ixN (n:Nat) (i:Int):Option Nat:=if 0<=i then (if i<n then some i.toNat else none) else if -(n:Int)<=i then some (i+n).toNat else none
def atI {α:Type} (xs:List α) (i:Int):Option α:=(ixN xs.length i).bind fun j=>xs[j]?
theorem ixN_seq {n:Nat} {i:Int} {j:Nat} (h:ixN n i=some j):seqIndex? i n=some j/\j<n/\-(n:Int)<=i/\i<n:=by
 unfold ixN at h
 by_cases h0:0<=i
 ·rw [if_pos h0] at h
  by_cases h1:i<n
  ·rw [if_pos h1] at h
   have e:i.toNat=j:=Option.some.inj h
   exact ⟨by rw [seqIndex_of h0 h1,e],by omega,by omega,h1⟩
  ·rw [if_neg h1] at h;cases h
 ·rw [if_neg h0] at h
  by_cases h1:-(n:Int)<=i
  ·rw [if_pos h1] at h
   have e:(i+n).toNat=j:=Option.some.inj h
   exact ⟨by rw [seqIndex_neg (by omega) h1,e],by omega,h1,by omega⟩
  ·rw [if_neg h1] at h;cases h
theorem atI_get {α:Type} {xs:List α} {i:Int} {v:α} (h:atI xs i=some v):∃j,seqIndex? i xs.length=some j/\xs[j]?=some v/\j<xs.length/\-(xs.length:Int)<=i/\i<xs.length:=by
 unfold atI at h
 cases e:ixN xs.length i with
 | none=>rw [e] at h;cases h
 | some j =>
  rw [e] at h
  obtain ⟨h1,h2,h3,h4⟩:=ixN_seq e
  exact ⟨j,h1,h,h2,h3,h4⟩
def PlainIx (b:Expr):Prop:=∀o i,subscripted b false o i=operate [o,i] (getItem o i)
def IxR (X:Cx) (r:R2):Prop :=
 ∀(value slice:Expr) (pins:List (Addr×Obj)) (s:Shared) (σ:St) (H:Hp) (x y:V) (v u:Value) (Q:VK),Inv X pins σ H s->RelV x v->RelV y u->r x y H Q ->
  subscripted slice false v u=operate [v,u] (getItem v u)->wpAny (model X.prog X.w) X.A (subscriptTail value slice v u) (EP X pins σ Q) X.xe s
def MtR (X:Cx) (id:String) (r:V->List V->Hp->VK->Prop):Prop :=
 ∀(pins:List (Addr×Obj)) (s:Shared) (σ:St) (H:Hp) (x:V) (xs:List V) (v:Value) (us:List Value) (Q:VK),Inv X pins σ H s->RelV x v->Vals xs us->r x xs H Q ->
  wpAny (model X.prog X.w) X.A (call (.builtin id) (v::us)) (EP X pins σ Q) X.xe s
section
variable {X:Cx} {a b:Expr} {ta tb:TE} {pos:Pos}
theorem zA9 {r:R2} (hr:IxR X r) (ha:PE X a ta) (hb:PE X b tb) (hs:PlainIx b):PE X (.Subscript a b pos) (tOp r ta tb):=by
 intro pins s σ H Q I h
 exact Subscript_ (binT ha hb I h fun v u s2 x y H2 I2 rx ry q=>hr a b pins s2 σ H2 x y v u Q I2 rx ry q (hs _ _))
def rIxL (K:PySem.W.Frag):R2:=fun x y H Q=>∃p xs i v,x= .ref p/\y= .int i/\SqL K H p xs/\atI xs i=some v/\Q v H
def rIxT (K:PySem.W.Frag):R2:=fun x y H Q=>∃p xs i v,x= .ref p/\y= .int i/\SqT K H p xs/\atI xs i=some v/\Q v H
def rIxS:R2:=fun x y H Q=>∃z i c,x= .str z/\y= .int i/\z.length<=sizeLine/\atI z.cps.toList i=some c/\Q (.str ⟨#[c]⟩) H
theorem zA1:IxR X (rIxL X.K):=by
 intro value slice pins s σ H x y v u Q I rx ry h hs
 obtain ⟨p,xs,i,z,rfl,rfl,hq,he,q⟩:=h
 cases rx
 obtain ⟨t,rfl⟩:=ry
 obtain ⟨its,r,pl,hz⟩:=I.list hq
 obtain ⟨j,h1,h2,h3,h4,h5⟩:=atI_get he
 obtain ⟨w,ew,rw'⟩:=r.get h2
 have hl:=r.length
 have hn:=zG9
 have fin:EP X pins σ Q w s:=⟨z,H,I,rw',q⟩
 by_cases h0:0<=i
 ·have hj:i.toNat=j:=by
   rw [seqIndex_of h0 h5] at h1
   exact Option.some.inj h1
  exact item_listR pl.isList h0 (by omega) (by rw [hj];simpa using ew) fin hs
 ·have hj:(i+(its.toArray.size:Int)).toNat=j:=by
   rw [seqIndex_neg (by omega) h4] at h1
   rw [List.size_toArray,<-hl]
   exact Option.some.inj h1
  exact subscriptTail_builtinR (x:=w) pl.isList.typeIs slot_list_getitem.lookup
   (wpAny_getItem_list_neg (Q:=fun r s'=>r=w/\EP X pins σ Q r s') pl.isList (by omega) (by rw [List.size_toArray]<;>omega) (by omega) (by rw [hj];simpa using ew) ⟨rfl,fin⟩) hs
theorem zHc:IxR X (rIxT X.K):=by
 intro value slice pins s σ H x y v u Q I rx ry h hs
 obtain ⟨p,xs,i,z,rfl,rfl,hq,he,q⟩:=h
 cases rx
 obtain ⟨t,rfl⟩:=ry
 obtain ⟨its,r,pl,hz⟩:=I.tuple hq
 obtain ⟨j,h1,h2,h3,h4,h5⟩:=atI_get he
 obtain ⟨w,ew,rw'⟩:=r.get h2
 have hl:=r.length
 have hn:=zG9
 have fin:EP X pins σ Q w s:=⟨z,H,I,rw',q⟩
 exact subscriptTail_builtinR (x:=w) pl.typeIs slot_tuple_getitem.lookup
  (getItem_tuple (j:=j) (Q:=fun r s'=>r=w/\EP X pins σ Q r s') pl (by omega) (by omega) (by rw [List.size_toArray,<-hl];exact h1) (by simpa using ew) ⟨rfl,fin⟩) hs
theorem ix_str:IxR X rIxS:=by
 intro value slice pins s σ H x y v u Q I rx ry h hs
 obtain ⟨z,i,c,rfl,rfl,hz,he,q⟩:=h
 obtain ⟨t,rfl⟩:=rx
 obtain ⟨t',rfl⟩:=ry
 obtain ⟨j,h1,h2,h3,h4,h5⟩:=atI_get he
 have hl:z.cps.toList.length=z.length:=by simp [Str.length]
 rw [hl] at h1 h4 h5
 have hn:=zG9
 exact tail_any (typeIs_str s z t) slot_str_getitem.lookup (getItem_str (c:=c) (by
  have e1:decide (i< -(2^63:Int))=false:=decide_eq_false (by omega)
  have e2:decide (i>=2^63)=false:=decide_eq_false (by omega)
  rw [e1,e2,Bool.or_false]) (by rw [h1];simpa using h2) ⟨.str ⟨#[c]⟩,H,I.tok _,⟨_,rfl⟩,q⟩) hs
theorem mapSeq_set (its:List Value) (n j:Nat) (u:Value):Obj.mapSeq (·.setIfInBounds j u) {cls:=.type "list",data:=.seq its.toArray n}={cls:=.type "list",data:=.seq (its.set j u).toArray n}:=by
 simp [Obj.mapSeq]
theorem Inv.lst {pins:List (Addr×Obj)} {σ:St} {H:Hp} {s:Shared} {p:Addr} {xs:List V} (I:Inv X pins σ H s) (h:H p=some (.lst xs)) :
  ∃(its:List Value) (n:Nat),Vals xs its/\s.heap.get? p=some {cls:=.type "list",data:=.seq its.toArray n}/\xs.length<=sizeLine:=by
 obtain ⟨z,its,n,r,e⟩:=I.hok p _ h
 exact ⟨its,n,r,e,z⟩
theorem Inv.lstUpd {pins:List (Addr×Obj)} {σ:St} {H:Hp} {s:Shared} {p:Addr} {xs ys:List V} {its its':List Value} {n n':Nat} {f:Obj->Obj} (I:Inv X pins σ H s) (h:H p=some (.lst xs))
  (ho:s.heap.get? p=some {cls:=.type "list",data:=.seq its.toArray n}) (hf:f {cls:=.type "list",data:=.seq its.toArray n}={cls:=.type "list",data:=.seq its'.toArray n'}) (r:Vals ys its') (hz:ys.length<=sizeLine) (t:Nat) :
  Inv X pins σ (upd H p (.lst ys)) {s with heap:=s.heap.update p f,toks:=t}:=by
 have e:(s.heap.update p f).get? p=some {cls:=.type "list",data:=.seq its'.toArray n'}:=by
  rw [Heap.get?_update_self f ho (by rw [hf]<;>rfl),hf]
 refine I.write (x:=p) (e:=p) (by rw [h];trivial) (.inl rfl) (fun b u hb q=>(Heap.get?_update_other _ _ (Ne.symm hb)).trans q) ⟨_,e⟩ ?_
 exact ⟨hz,its',n',r,e⟩
def rSetL:V->V->V->Hp->(Hp->Prop)->Prop:=fun o i v H Q=>∃p xs k j,o= .ref p/\i= .int k/\H p=some (.lst xs)/\ixN xs.length k=some j/\Q (upd H p (.lst (xs.set j v)))
theorem zGm:PSet X rSetL:=by
 intro pins s σ H o i v ov iv u Q I ro ri rv h
 obtain ⟨p,xs,k,j,rfl,rfl,hp,hj,q⟩:=h
 cases ro
 obtain ⟨t,rfl⟩:=ri
 obtain ⟨its,n,r,ho,hz⟩:=I.lst hp
 obtain ⟨h1,h2,h3,h4⟩:=ixN_seq hj
 have hl:=r.length
 have hn:=zG9
 have I':Inv X pins σ (upd H p (.lst (xs.set j v))) {s with heap:=s.heap.update p (Obj.mapSeq (·.setIfInBounds j u))} :=
  I.lstUpd hp ho (mapSeq_set its n j u) (r.set rv j) (by rw [List.length_set];exact hz) s.toks
 by_cases h0:0<=k
 ·have hk:k.toNat=j:=by
   rw [seqIndex_of h0 h4] at h1
   exact Option.some.inj h1
  exact PySem.W.ki_setAt ho h0 (by omega) (by rw [List.size_toArray,<-hl];exact h4) (by rw [hk];exact ⟨_,I',q⟩)
 ·have hk:(k+(its.toArray.size:Int)).toNat=j:=by
   rw [seqIndex_neg (by omega) h3] at h1
   rw [List.size_toArray,<-hl]
   exact Option.some.inj h1
  exact PySem.W.ki_setBack ho (by omega) (by rw [List.size_toArray,<-hl];exact h3) (by omega) (by rw [hk];exact ⟨_,I',q⟩)
theorem slice_bounds (lo hi:Option Int) (n:Nat):(sliceBounds lo hi none n).1=((HT.sIx n 0 lo:Nat):Int)/\(sliceBounds lo hi none n).2.1=((HT.sIx n n hi:Nat):Int)/\(sliceBounds lo hi none n).2.2=1:=by
 refine ⟨?_,?_,rfl⟩
 ·cases lo with
  | none=>simp [sliceBounds,HT.sIx]
  | some i =>
   simp only [sliceBounds,HT.sIx,Option.getD_none,show (1:Int)>0 by decide,if_true]
   by_cases h:i<0
   ·simp only [h,if_true]<;>omega
   ·simp only [h,if_false]<;>omega
 ·cases hi with
  | none=>simp [sliceBounds,HT.sIx]
  | some i =>
   simp only [sliceBounds,HT.sIx,Option.getD_none,show (1:Int)>0 by decide,if_true]
   by_cases h:i<0
   ·simp only [h,if_true]<;>omega
   ·simp only [h,if_false]<;>omega
theorem zIu (its:List Value) (lo hi:Option Int):slicePick its.toArray lo hi none=((its.drop (HT.sIx its.length 0 lo)).take (HT.sIx its.length its.length hi - HT.sIx its.length 0 lo)).toArray:=by
 obtain ⟨h1,h2,h3⟩:=slice_bounds lo hi its.toArray.size
 unfold slicePick
 rw [h1,h2,h3]
 simp only [sliceRange_one,pick_run,List.size_toArray]<;>rfl
def rSlL (K:PySem.W.Frag):V->Option Int->Option Int->Hp->VK->Prop:=fun x lo hi H Q=>∃a xs,x= .ref a/\SqL K H a xs/\∀p,H p=none->Q (.ref p) (upd H p (.lst (cutV xs lo hi)))
theorem zIv:SlR X (rSlL X.K):=by
 intro pins s σ H x v vl vu lo hi sl Q I rx hs pl pu h
 obtain ⟨a,xs,rfl,hx,q⟩:=h
 cases rx
 obtain ⟨its,r,ht,hz⟩:=I.list hx
 have hlen:=r.length
 refine ⟨"list",_,slot_list_getitem.lookup,ht.isList.typeIs,?_⟩
 refine wpAny_getItem_list_slice ht.isList hs pl pu .none (by simp) ?_ (by rw [List.size_toArray]<;>omega)
 rw [zIu,<-hlen]
 refine ⟨.ref s.heap.objs.size,_,I.laid (t':=s.toks) (o:=.lst (cutV xs lo hi)) (fun b ob q=>Heap.get?_push_of_some _ q) (Nat.le_refl _) ?_,rfl,q _ (I.hok.fresh (Nat.le_refl _))⟩
 exact ⟨Nat.le_trans (cutV_length xs lo hi) hz,_,0,(r.drop (HT.sIx xs.length 0 lo)).take (HT.sIx xs.length xs.length hi - HT.sIx xs.length 0 lo),Heap.get?_push_size _ rfl⟩
def zE9:V->Bool
 | .non=>true
 | .bl _=>true
 | .int _=>true
 | .str _=>true
 | _=>false
def eqV:V->V->Bool
 | .non,.non=>true
 | .bl a,.bl b=>a==b
 | .bl a,.int b=>(if a then 1 else 0)==b
 | .int a,.bl b=>a==(if b then 1 else 0)
 | .int a,.int b=>a==b
 | .str a,.str b=>a==b
 | _,_=>false
theorem eqAt_V {A:Around} {s:Shared} {y x:V} {u v:Value} (ry:RelV y u) (rx:RelV x v) (fy:zE9 y=true) (fx:zE9 x=true):SeqAt.EqAt A s u v (eqV y x):=by
 cases y with
 | non =>
  cases ry
  cases x with
  | non=>cases rx;exact SeqAt.EqAt.same _
  | bl b=>cases rx;exact SeqAt.EqAt.none_bool b
  | int b=>obtain ⟨t,rfl⟩:=rx;exact SeqAt.EqAt.none_int b t
  | str b=>obtain ⟨t,rfl⟩:=rx;exact SeqAt.EqAt.none_str b t
  | _=>exact absurd (show false=true from fx) Bool.false_ne_true
 | bl a =>
  cases ry
  cases x with
  | non=>cases rx;exact SeqAt.EqAt.bool_none a
  | bl b=>cases rx;exact SeqAt.EqAt.bool_bool a b
  | int b=>obtain ⟨t,rfl⟩:=rx;exact SeqAt.EqAt.bool_int a b t
  | str b=>obtain ⟨t,rfl⟩:=rx;exact SeqAt.EqAt.bool_str a b t
  | _=>exact absurd (show false=true from fx) Bool.false_ne_true
 | int a =>
  obtain ⟨t',rfl⟩:=ry
  cases x with
  | non=>cases rx;exact SeqAt.EqAt.int_none a t'
  | bl b=>cases rx;exact SeqAt.EqAt.int_bool a t' b
  | int b=>obtain ⟨t,rfl⟩:=rx;exact SeqAt.EqAt.int_int a t' b t
  | str b=>obtain ⟨t,rfl⟩:=rx;exact SeqAt.EqAt.int_str a t' b t
  | _=>exact absurd (show false=true from fx) Bool.false_ne_true
 | str a =>
  obtain ⟨t',rfl⟩:=ry
  cases x with
  | non=>cases rx;exact SeqAt.EqAt.str_none a t'
  | bl b=>cases rx;exact SeqAt.EqAt.str_bool a t' b
  | int b=>obtain ⟨t,rfl⟩:=rx;exact SeqAt.EqAt.str_int a t' b t
  | str b=>obtain ⟨t,rfl⟩:=rx;exact SeqAt.EqAt.str_str a t' b t
  | _=>exact absurd (show false=true from fx) Bool.false_ne_true
 | _=>exact absurd (show false=true from fy) Bool.false_ne_true
def eqU (x:V) (u:Value):Bool:=match u with
 | .none=>eqV .non x
 | .bool b=>eqV (.bl b) x
 | .int i _=>eqV (.int i) x
 | .str z _=>eqV (.str z) x
 | _=>false
theorem eqU_of {x y:V} {u:Value} (r:RelV y u) (f:zE9 y=true):eqU x u=eqV y x:=by
 cases y with
 | non=>cases r;rfl
 | bl b=>cases r;rfl
 | int i=>obtain ⟨t,rfl⟩:=r;rfl
 | str z=>obtain ⟨t,rfl⟩:=r;rfl
 | _=>exact absurd (show false=true from f) Bool.false_ne_true
theorem zHl {x:V}:∀{xs:List V} {us:List Value},Vals xs us->xs.all zE9=true->us.any (eqU x)=xs.any fun y=>eqV y x
 | _,_,.nil,_=>rfl
 | y::xs,u::us,.cons r t,f=>by
  rw [List.all_cons,Bool.and_eq_true] at f
  rw [List.any_cons,List.any_cons,eqU_of r f.1,zHl t f.2]
theorem zEp {A:Around} {s:Shared} {x:V} {v:Value} (rx:RelV x v) (fx:zE9 x=true):∀{xs:List V} {us:List Value},Vals xs us->xs.all zE9=true->∀u∈us,SeqAt.EqAt A s u v (eqU x u)
 | _,_,.nil,_=>fun u hu=>by cases hu
 | y::xs,u::us,.cons r t,f=>fun u' hu=>by
  rw [List.all_cons,Bool.and_eq_true] at f
  rcases List.mem_cons.mp hu with rfl| hu
  ·rw [eqU_of r f.1];exact eqAt_V r rx f.1 fx
  ·exact zEp rx fx t f.2 u' hu
def inV (x:V) (xs:List V):Bool:=xs.any fun y=>eqV y x
def rIn (K:PySem.W.Frag) (neg:Bool):R2:=fun x y H Q=>∃p xs,y= .ref p/\(SqL K H p xs\/SqT K H p xs)/\zE9 x=true/\xs.all zE9=true/\Q (.bl (if neg then !inV x xs else inV x xs)) H
theorem zEb:OpR X (compareOp .In) (rIn X.K false):=by
 intro pins s σ H x y v u Q I rx ry h
 obtain ⟨p,xs,rfl,hq,fx,fs,q⟩:=h
 cases ry
 rcases hq with hq| hq
 ·obtain ⟨its,r,pl,hz⟩:=I.list hq
  refine SeqAt.in_listAt (eqU x) pl.isList (fun w hw=>zEp rx fx r fs w (by simpa using hw)) ⟨.bl _,H,I,rfl,?_⟩
  rw [show its.toArray.any (eqU x)=its.any (eqU x) by simp,zHl r fs]
  exact q
 ·obtain ⟨its,r,pl,hz⟩:=I.tuple hq
  refine SeqAt.in_tupleAt (eqU x) pl (fun w hw=>zEp rx fx r fs w (by simpa using hw)) ⟨.bl _,H,I,rfl,?_⟩
  rw [show its.toArray.any (eqU x)=its.any (eqU x) by simp,zHl r fs]
  exact q
theorem zDd:OpR X (compareOp .NotIn) (rIn X.K true):=by
 intro pins s σ H x y v u Q I rx ry h
 obtain ⟨p,xs,rfl,hq,fx,fs,q⟩:=h
 cases ry
 rcases hq with hq| hq
 ·obtain ⟨its,r,pl,hz⟩:=I.list hq
  refine SeqAt.notIn_listAt (eqU x) pl.isList (fun w hw=>zEp rx fx r fs w (by simpa using hw)) ⟨.bl _,H,I,rfl,?_⟩
  rw [show its.toArray.any (eqU x)=its.any (eqU x) by simp,zHl r fs]
  exact q
 ·obtain ⟨its,r,pl,hz⟩:=I.tuple hq
  refine SeqAt.notIn_tupleAt (eqU x) pl (fun w hw=>zEp rx fx r fs w (by simpa using hw)) ⟨.bl _,H,I,rfl,?_⟩
  rw [show its.toArray.any (eqU x)=its.any (eqU x) by simp,zHl r fs]
  exact q
theorem zAp:zCr X (.builtin "len") (fun xs H Q=>∃p ys,xs=[.ref p]/\(SqL X.K H p ys\/SqT X.K H p ys)/\Q (.int ys.length) H):=by
 intro pins s σ H xs us Q I r h
 obtain ⟨p,ys,rfl,hq,q⟩:=h
 obtain ⟨u,rfl,rx⟩:=zHo r
 cases rx
 have hn:=zG9
 rcases hq with hq| hq
 ·obtain ⟨its,r',pl,hz⟩:=I.list hq
  have hlen:=r'.length
  exact Calls.call_len_list pl.isList (by simp only [List.size_toArray]<;>omega) ⟨.int ys.length,H,I.tok _,⟨s.toks+1,by rw [List.size_toArray,hlen]⟩,q⟩
 ·obtain ⟨its,r',pl,hz⟩:=I.tuple hq
  have hlen:=r'.length
  exact len_tuple pl (by simp only [List.size_toArray]<;>omega) ⟨.int ys.length,H,I.tok _,⟨s.toks+1,by rw [List.size_toArray,hlen]⟩,q⟩
theorem zDi:zCr X (.builtin "len") (fun xs H Q=>∃z,xs=[.str z]/\z.length<=sizeLine/\Q (.int z.length) H):=by
 intro pins s σ H xs us Q I r h
 obtain ⟨z,rfl,hz,q⟩:=h
 obtain ⟨u,rfl,t,rfl⟩:=zHo r
 have hn:=zG9
 exact len_str (by omega) ⟨.int z.length,H,I.tok _,⟨_,rfl⟩,q⟩
theorem zCo:zCr X (.type "list") (fun xs H Q=>∃p ys,xs=[.ref p]/\(SqL X.K H p ys\/SqT X.K H p ys)/\∀l,H l=none->Q (.ref l) (upd H l (.lst ys))):=by
 intro pins s σ H xs us Q I r h
 obtain ⟨p,ys,rfl,hq,q⟩:=h
 obtain ⟨u,rfl,rx⟩:=zHo r
 cases rx
 have fin:∀(its:List Value),Vals ys its->ys.length<=sizeLine->∀(h':Heap) (c':Nat),(∀b o',s.heap.get? b=some o'->h'.get? b=some o') ->
   h'.get? s.heap.objs.size=some {cls:=.type "list",dict:=none,data:=.seq its.toArray c',slots:=#[]}->EP X pins σ Q (.ref s.heap.objs.size) {s with heap:=h'}:=fun its r' hz h' c' kp e =>
  ⟨.ref s.heap.objs.size,_,I.laid (t':=s.toks) kp (Nat.le_refl _) (show zA7 X.prog X.w _ h' _ (.lst ys) from ⟨hz,its,c',r',e⟩),rfl,q _ (I.hok.fresh (Nat.le_refl _))⟩
 rcases hq with hq| hq
 ·obtain ⟨its,r',pl,hz⟩:=I.list hq
  have hlen:=r'.length
  obtain ⟨o,ho,hc,n,hd⟩:=pl.isList
  exact call_list_seq p (.inl rfl) ho hc hd (fun h' c' kp e=>fin its r' hz h' c' kp e) (by simp only [List.size_toArray]<;>omega)
 ·obtain ⟨its,r',pl,hz⟩:=I.tuple hq
  have hlen:=r'.length
  obtain ⟨o,ho,hc,n,hd⟩:=pl
  exact call_list_seq p (.inr rfl) ho hc hd (fun h' c' kp e=>fin its r' hz h' c' kp e) (by simp only [List.size_toArray]<;>omega)
theorem zJp:zCr X (.type "tuple") (fun xs H Q=>∃p ys,xs=[.ref p]/\((SqL X.K H p ys/\∀l,H l=none->Q (.ref l) (upd H l (.tup ys)))\/(SqT X.K H p ys/\Q (.ref p) H))):=by
 intro pins s σ H xs us Q I r h
 obtain ⟨p,ys,rfl,h⟩:=h
 obtain ⟨u,rfl,rx⟩:=zHo r
 cases rx
 rcases h with ⟨hq,q⟩| ⟨hq,q⟩
 ·obtain ⟨its,r',pl,hz⟩:=I.list hq
  have hlen:=r'.length
  refine call_tuple_list pl.isList (fun h' kp=>?_) (by simp only [List.size_toArray]<;>omega)
  have I1:Inv X pins σ H {s with heap:=h'}:=I.kept (t':=s.toks) kp
  have I2:Inv X pins σ (upd H h'.objs.size (.tup ys)) {s with heap:=h'.push {cls:=.type "tuple",data:=.seq its.toArray}} :=
   I1.laid (t':=s.toks) (fun b o e=>Heap.get?_push_of_some _ e) (Nat.le_refl _) (show zA7 X.prog X.w _ _ _ (.tup ys) from ⟨hz,its,r',IsTup.new _ _⟩)
  exact ⟨.ref h'.objs.size,_,I2,rfl,q _ (I1.hok.fresh (Nat.le_refl _))⟩
 ·obtain ⟨its,r',pl,hz⟩:=I.tuple hq
  exact call_tuple_same pl ⟨.ref p,H,I,rfl,q⟩
def tyV (K:PySem.W.Frag) (T:String) (x:V) (H:Hp):Prop:=match x with
 | .str _=>T= "str"
 | .int _=>T= "int"
 | .ref p=>(T= "list" /\∃xs,SqL K H p xs)\/(T= "tuple" /\∃o,K.lookup p=some o/\o.cls= .type "tuple" /\o.dict=none) \/
   (T= "dict" /\((∃kvs,H p=some (.dK kvs))\/∃kvs,H p=some (.dT kvs)))\/(T= "set" /\∃S n,H p=some (.set S n))
 | _=>False
theorem tyV_is {pins:List (Addr×Obj)} {σ:St} {H:Hp} {s:Shared} {T:String} {x:V} {v:Value} (I:Inv X pins σ H s) (r:RelV x v) (ty:tyV X.K T x H) :
  s.TypeIs v T/\∀a,v= .ref a->∃ob,s.heap.get? a=some ob/\ob.dict=none:=by
 cases x with
 | str z =>
  obtain ⟨t,rfl⟩:=r
  cases (show T= "str" from ty)
  exact ⟨typeIs_str s z t,fun _ e=>nomatch e⟩
 | int i =>
  obtain ⟨t,rfl⟩:=r
  cases (show T= "int" from ty)
  exact ⟨typeIs_int s i t,fun _ e=>nomatch e⟩
 | ref p =>
  cases r
  rcases ty with ⟨rfl,xs,hq⟩| ⟨rfl,o,hk,hc,hd⟩| ⟨rfl,hk⟩| ⟨rfl,S,n,hk⟩
  ·obtain ⟨its,_,pl,_⟩:=I.list hq
   refine ⟨pl.isList.typeIs,fun a e=>?_⟩
   cases e
   obtain ⟨o,n,e,c,hd,_⟩:=pl
   exact ⟨o,e,hd⟩
  ·refine ⟨⟨o,I.kIn p o hk,hc⟩,fun a e=>?_⟩
   cases e
   exact ⟨o,I.kIn _ o hk,hd⟩
  ·have z:∃o,s.heap.get? p=some o/\o.ExactDict:=by
    rcases hk with ⟨kvs,hk⟩| ⟨kvs,hk⟩
    ·obtain ⟨_,_,_,_,o,_,_,e,ex,_⟩:=I.hok p _ hk
     exact ⟨o,e,ex⟩
    ·obtain ⟨_,_,_,_,o,_,_,e,ex,_⟩:=I.hok p _ hk
     exact ⟨o,e,ex⟩
   obtain ⟨o,e,ex⟩:=z
   refine ⟨⟨o,e,ex.1⟩,fun a e2=>?_⟩
   cases e2
   exact ⟨o,e,ex.2.1⟩
  ·obtain ⟨o,_,_,_,e,ex,_⟩:=I.hok p _ hk
   refine ⟨⟨o,e,ex.1⟩,fun a e2=>?_⟩
   cases e2
   exact ⟨o,e,ex.2.1⟩
 | _=>exact False.elim ty
def tBM (K:PySem.W.Frag) (T:String) (r:V->List V->Hp->VK->Prop) (to:TE) (t:TA):TE:=fun σ H Q=>to σ H fun x H1=>tyV K T x H1/\t σ H1 fun xs H2=>r x xs H2 Q
variable {o e:Expr} {es:List Expr} {to:TE} {t:TA} {name:Str} {apos cpos:Pos} {T id:String} {r:V->List V->Hp->VK->Prop}
theorem zDm (pa:PlainAttrs T) (slot:Slot T name id) (hty:typeOf (.builtin id)=pure (.type "method_descriptor")) (hm:MtR X id r) (ho:PE X o to) (ha:PA X (e::es) t)
  (hbase:attributeBase o name X.env (eval o X.env)=eval o X.env:=by rfl)
  (hfew:((backTo cpos (starEach (e::es) X.env)).all (fun x=>!x.1)&&(backToKw cpos (keywordEach [] X.env)).all (fun x=>x.1.isSome)
   &&decide ((e::es).length+([]:List Keyword).length+(if ([]:List Keyword).isEmpty then 0 else 1)<30))=true:=by rfl)
  (hline:(apos.endLine==cpos.line)=true:=by rfl) (hs:starEach (e::es) X.env=(false,eval e X.env)::starEach es X.env:=by rfl) (hplain:(backTo cpos (starEach es X.env)).any (·.1)=false:=by rfl) :
  PE X (.Call (.Attribute o name apos) (e::es) [] cpos) (tBM X.K T r to t):=by
 intro pins s σ H Q I h
 refine wpAny_Call_method_late hbase hfew hline rfl (thn (ho pins s σ H _ I h) fun v s1 ⟨x,H1,I1,r1,ty,q1⟩=>?_)
 obtain ⟨h1,h2⟩:=tyV_is I1 r1 ty
 refine ⟨T,id,pa,slot,hty,h1,h2,?_⟩
 have hA:=ha cpos pins s1 σ H1 _ I1 q1
 rw [hs] at hA ⊢
 refine Calls.callWith_builtin (by show (false||(backTo cpos (starEach es X.env)).any (·.1))=false;rw [hplain]<;>rfl) (Calls.evalArgs_plain ?_)
 exact thn hA fun us s2 ⟨vs,H2,I2,r2,q2⟩=>hm pins s2 σ H2 x vs v us Q I2 r1 r2 q2
end
def MtM (X:Cx) (id:String) (r:V->List V->Hp->VK->Prop):Prop :=
 ∀(pins:List (Addr×Obj)) (s:Shared) (σ:St) (H:Hp) (x:V) (xs:List V) (v:Value) (us:List Value) (Q:VK),Inv X pins σ H s->RelV x v->Vals xs us->r x xs H Q ->
  wpAny (model X.prog X.w) X.A (call (.builtin id) (v::us)) (EP X pins σ Q) X.xe s
theorem Vals.one:∀{x:V} {us:List Value},Vals [x] us->∃u,us=[u]/\RelV x u
 | _,_,.cons r .nil=>⟨_,rfl,r⟩
theorem Vals.two:∀{x y:V} {us:List Value},Vals [x,y] us->∃u v,us=[u,v]/\RelV x u/\RelV y v
 | _,_,_,.cons r (.cons q .nil)=>⟨_,_,rfl,r,q⟩
theorem Vals.rep {xs:List V} {us:List Value} (h:Vals xs us):∀k:Nat,Vals (List.replicate k xs).flatten (List.replicate k us).flatten
 | 0=>.nil
 | k+1=>by
  rw [List.replicate_succ,List.replicate_succ,List.flatten_cons,List.flatten_cons]
  exact Vals.append h (Vals.rep h k)
theorem foldl_rep (its:List Value):∀(k:Nat) (acc:List Value),
  List.foldl (fun x1 x2=>x1++x2) acc.toArray (List.replicate k its.toArray)=(acc++(List.replicate k its).flatten).toArray
 | 0,acc=>by simp
 | k+1,acc=>by
  have e:acc.toArray++its.toArray=(acc++its).toArray:=by simp
  have e2:(acc++its)++(List.replicate k its).flatten=acc++(List.replicate (k+1) its).flatten:=by
   rw [List.replicate_succ,List.flatten_cons,List.append_assoc]
  rw [<-e2,<-foldl_rep its k (acc++its),<-e,List.replicate_succ,List.foldl_cons]
section
variable {X:Cx} {pins:List (Addr×Obj)} {σ:St} {H:Hp} {s:Shared} {l b:Addr} {xs ys zs:List V}
theorem Inv.lset {its its':List Value} {n:Nat} {f:Array Value->Array Value} {t':Nat} (I:Inv X pins σ H s) (hH:H l=some (.lst xs))
  (e:s.heap.get? l=some {cls:=.type "list",data:=.seq its.toArray n}) (hf:f its.toArray=its'.toArray) (hv:Vals ys its') (hz:ys.length<=sizeLine) :
  Inv X pins σ (upd H l (.lst ys)) {s with heap:=s.heap.update l (Obj.mapSeq f),toks:=t'}:=by
 have q:=PySem.IsL.update e f
 rw [hf] at q
 refine I.write (x:=l) (e:=l) (by rw [hH];exact trivial) (.inl rfl) (fun b' u hb hu=>(Heap.get?_update_other s.heap (Obj.mapSeq f) (Ne.symm hb)).trans hu) ⟨_,q⟩ ?_
 exact ⟨hz,its',_,hv,q⟩
theorem Inv.lnew {its:List Value} {t':Nat} (I:Inv X pins σ H s) (hv:Vals ys its) (hz:ys.length<=sizeLine) :
  Inv X pins σ (upd H s.heap.objs.size (.lst ys)) {s with heap:=s.heap.push {cls:=.type "list",data:=.seq its.toArray},toks:=t'} :=
 I.laid (fun _ _ q=>Heap.get?_push_of_some _ q) (Nat.le_refl _) ⟨hz,its,0,hv,Heap.get?_push_size _ rfl⟩
theorem Inv.fresh (I:Inv X pins σ H s):H s.heap.objs.size=none:=I.hok.fresh (Nat.le_refl _)
theorem Inv.lstM (I:Inv X pins σ H s) (hH:H l=some (.lst xs)):xs.length<=sizeLine/\∃(its:List Value) (n:Nat),Vals xs its/\xs.length=its.length/\s.heap.get? l=some {cls:=.type "list",data:=.seq its.toArray n}:=by
 obtain ⟨z,its,n,r,e⟩:=I.hok l _ hH
 exact ⟨z,its,n,r,r.length,e⟩
theorem notLongL {n:Nat} (h:n<=sizeLine):Builtin.List.listTooLong n=false:=by
 unfold Builtin.List.listTooLong
 exact decide_eq_false (by omega)
end
section
variable {X:Cx}
def rAppend:V->List V->Hp->VK->Prop:=fun x vs H Q=>∃l xs y,x= .ref l/\vs=[y]/\H l=some (.lst xs)/\xs.length<sizeLine/\Q .non (upd H l (.lst (xs++[y])))
theorem zC4:MtM X "list.append" rAppend:=by
 intro pins s σ H x vs v us Q I rx rv h
 obtain ⟨l,xs,y,rfl,rfl,hH,hz,q⟩:=h
 cases rx
 obtain ⟨u,rfl,ru⟩:=rv.one
 obtain ⟨z,its,n,r,hl,e⟩:=I.lstM hH
 refine call_meets F.slot_list_append ⟨_,e,rfl⟩ F.entry_list_append (F.args_list_append_2 _ _) (PySem.list_append l its.toArray n u (by rw [List.size_toArray];omega)) ⟨e,?_⟩
 refine ⟨.non,_,I.lset (its':=its++[u]) hH e (by simp) (r.append (.cons ru .nil)) ?_,rfl,q⟩
 rw [List.length_append,List.length_singleton]
 omega
def rExtend:V->List V->Hp->VK->Prop:=fun x vs H Q=>∃l b xs zs,x= .ref l/\vs=[.ref b]/\H l=some (.lst xs)/\H b=some (.lst zs)/\xs.length+zs.length<=sizeLine/\Q .non (upd H l (.lst (xs++zs)))
theorem mt_extend:MtM X "list.extend" rExtend:=by
 intro pins s σ H x vs v us Q I rx rv h
 obtain ⟨l,b,xs,zs,rfl,rfl,hH,hB,hz,q⟩:=h
 cases rx
 obtain ⟨u,rfl,ru⟩:=rv.one
 cases ru
 obtain ⟨z,its,n,r,hl,e⟩:=I.lstM hH
 obtain ⟨z2,its2,n2,r2,hl2,e2⟩:=I.lstM hB
 have hsz:its.toArray.size+its2.toArray.size<=sizeLine:=by rw [List.size_toArray,List.size_toArray];omega
 have hlong:¬(!its.toArray.isEmpty&&Builtin.List.listTooLong (its.toArray.size+its2.toArray.size))=true:=by
  rw [notLongL hsz,Bool.and_false]
  exact Bool.false_ne_true
 refine call_meets F.slot_list_extend ⟨_,e,rfl⟩ F.entry_list_extend (F.args_list_extend_2 _ _)
  (AutoSeq1.list_extend_list_list_0 l its.toArray n b its2.toArray n2 hlong (by rw [List.size_toArray];omega) (by omega)) ⟨e,e2,?_⟩
 refine ⟨.non,_,I.lset (its':=its++its2) hH e (by simp) (r.append r2) ?_,rfl,q⟩
 rw [List.length_append]
 omega
def rCat:R2:=fun x y H Q=>∃l b xs zs,x= .ref l/\y= .ref b/\H l=some (.lst xs)/\H b=some (.lst zs)/\xs.length+zs.length<=sizeLine/\∀p,H p=none->Q (.ref p) (upd H p (.lst (xs++zs)))
theorem op_cat:OpR X (binaryOp .Add) rCat:=by
 intro pins s σ H x y v u Q I rx ry h
 obtain ⟨l,b,xs,zs,rfl,rfl,hH,hB,hz,q⟩:=h
 cases rx
 cases ry
 obtain ⟨z,its,n,r,hl,e⟩:=I.lstM hH
 obtain ⟨z2,its2,n2,r2,hl2,e2⟩:=I.lstM hB
 refine PySem.P.add_list e e2 ?_ (by rw [List.size_toArray,List.size_toArray];omega)
 have ea:its.toArray++its2.toArray=(its++its2).toArray:=by simp
 rw [ea]
 exact ⟨.ref _,_,I.lnew (t':=s.toks) (r.append r2) (by rw [List.length_append];omega),rfl,q _ I.fresh⟩
def rRep:R2:=fun x y H Q=>∃l k xs,x= .ref l/\y= .int k/\H l=some (.lst xs)/\-(2^63)<=k/\k<2^63/\xs.length*k.toNat<=sizeLine /\
 ∀p,H p=none->Q (.ref p) (upd H p (.lst (List.replicate k.toNat xs).flatten))
theorem len_rep {α:Type} (xs:List α) (k:Nat):(List.replicate k xs).flatten.length=k*xs.length:=by
 induction k with
 | zero=>simp
 | succ k ih=>rw [List.replicate_succ,List.flatten_cons,List.length_append,ih,Nat.succ_mul,Nat.add_comm]
theorem op_rep:OpR X (binaryOp .Mult) rRep:=by
 intro pins s σ H x y v u Q I rx ry h
 obtain ⟨l,k,xs,rfl,rfl,hH,h1,h2,hz,q⟩:=h
 cases rx
 obtain ⟨t,rfl⟩:=ry
 obtain ⟨z,its,n,r,hl,e⟩:=I.lstM hH
 have hlen:its.toArray.size*k.toNat<=sizeLine:=by rw [List.size_toArray,<-hl];exact hz
 have hcap:¬its.toArray.size*k.toNat>(2^63 - 1) / 8:=by
  have:(sizeLine:Nat)<=(2^63 - 1) / 8:=by decide
  omega
 have hfit:¬(!Builtin.List.listFitsIndex k)=true:=by
  rw [fitsIndex_both h1 h2]
  exact Bool.false_ne_true
 have hlong:¬Builtin.List.listTooLong (its.toArray.size*k.toNat)=true:=by
  rw [notLongL hlen]
  exact Bool.false_ne_true
 have hnew:List.foldl (fun x1 x2=>x1++x2) #[] (List.replicate (if its.toArray.isEmpty=true then 0 else k.toNat) its.toArray)=(List.replicate k.toNat its).flatten.toArray:=by
  have f0:∀m:Nat,List.foldl (fun x1 x2=>x1++x2) #[] (List.replicate m its.toArray)=(List.replicate m its).flatten.toArray:=fun m=>by
   have:=foldl_rep its m []
   rw [List.nil_append] at this
   exact this
  rw [f0]
  cases its with
  | nil=>simp
  | cons a r'=>rw [if_neg (by simp)]
 refine wpAny_binaryOp_repeat_ref (T:= "list") (U:= "int") (by decide) ⟨_,e,rfl⟩ (fun s'=>typeIs_int s' k t) noFill_list_mul F.fills_int_mul F.slot_int_rmul repeat_list F.slot_int_index.lookup
  (call_meets F.slot_int_rmul (typeIs_int s k t) F.entry_int_rmul (F.args_int_rmul_2 _ _) (int___rmul___int_list k t l its.toArray n)
   ⟨e,rfl,⟨_,e,rfl⟩,call_meets F.slot_list_mul ⟨_,e,rfl⟩ F.entry_list_mul (F.args_list_mul_2 _ _) (AutoListH.list___mul___list_int_3 l its.toArray n k t hfit hcap hlong) ⟨e,?_⟩⟩)
 rw [hnew]
 exact ⟨.ref _,_,I.lnew (t':=s.toks) (r.rep k.toNat) (by rw [len_rep,Nat.mul_comm];exact hz),rfl,q _ I.fresh⟩
end
section
variable {prog:Program} {w:World} {A:Around} {E:Value->Shared->Prop} {s:Shared}
set_option maxRecDepth 100000 in
end
end L2
namespace Att
open PySem PySem.W PySem.Calls PyProof.Rows
theorem zHe {P:Params} {h:Heap}:∀(ns:List Int) (vs:List Value),WellAll P h vs (ns.map WData.int)->IntsAre vs ns:=by
 intro ns
 induction ns with
 | nil =>
  intro vs w
  rw [List.map_nil] at w
  cases w
  exact .nil
 | cons n ns ih =>
  intro vs w
  rw [List.map_cons] at w
  cases w with
  | cons a b =>
   cases a
   exact .cons _ _ (ih _ b)
theorem script_of {l:OpenLaw} {n:Nat} (hn:l.most=some n) {P:Params} {h:Heap} {args:List WData} {vals:List Value}
  (hpre:l.row.toRowW.claim.pre args=true) (hwl:WellAll P h vals args) :
  ∃a vs ns,vals=[Value.ref a]/\args=[WData.list (ns.map WData.int)]/\h.get? a=some {cls:=.type "list",data:=.seq vs.toArray}/\IntsAre vs ns/\ns.length<=n:=by
 have hsh:WShape.hasAll [] args [.list .int]=true:=(pre_splitW hpre).1
 have hc:l.pre.holds [] {args:=args}=true:=(pre_splitW hpre).2
 obtain ⟨d,r,rfl,h1,h2⟩:=hasAllW_cons hsh
 obtain rfl:=hasAllW_nil h2
 obtain ⟨xs,rfl,h3⟩:=hasW_list h1
 obtain ⟨ns,rfl⟩:=items_int h3
 have hlen:ns.length<=n:=by
  unfold OpenLaw.pre at hc
  have h4:(WTm.not (.lt (.lit (.int (n:Int))) (.len (.arg 0)))).holds [] {args:=[.list (ns.map .int)]}=true:=by
   have h4:=(holds_andW hc).1
   rw [hn] at h4
   exact h4
  have h5:=condW_of h4 (w_not (w_lt w_lit (w_len_list (w_arg rfl))))
  rw [List.length_map] at h5
  refine Nat.le_of_not_lt fun q=>?_
  have q':(n:Int)<((ns.length:Nat):Int):=by omega
  first
   | (rw [decide_eq_true q'] at h5;exact absurd h5 (by decide))
   | (simp at h5;omega)
 cases hwl with
 | cons w1 w2 =>
  cases w2
  cases w1 with
  | list ho hall=>exact ⟨_,_,ns,rfl,rfl,ho,zHe ns _ hall,hlen⟩
theorem post_true (l:OpenLaw) (args:List WData):l.row.toRowW.claim.post args (.bool true) args=true :=
 postW_of (r:=l.row.toRowW) (X:=(true==true))
  (show WShape.has [] (.bool true) .bool=true by first| rfl| decide| simp [WShape.has,WShape.arms,WShape.armsAll])
  (show (WTm.eq .res (.lit (.bool true))).value [] {args:=args,res:=some (.bool true),after:=args}=some (.bool (true==true)) from w_eq_bool (w_res rfl) w_lit) rfl
theorem attach_call {l:OpenLaw} {n:Nat} {q:Program} {loose:List Str} {XP:(Str->Option Value)->Heap->Prop} {YP:World->Heap->Prop} {d:DefRec}
  (hn:l.most=some n) (hdf:d.params.defaults=[])
  (call:∀(w:World) (s₀ s₁:Shared) (mg mb:Str->Option Value) (fa:Addr) (o:Obj) (pm cd doc:Value) (a:Addr) (vs:List Value) (ns:List Int),
   Ground q loose [] XP w s₀ mg mb s₁.heap->YP w s₁.heap ->
   s₁.heap.get? fa=some o->o.data= .func (docDef d.name d.params d.body d.scope pm cd doc)->s₁.heap.CodeRec cd d.name->mg d.name=some (.ref fa) ->
   s₁.heap.get? a=some {cls:=.type "list",data:=.seq vs.toArray}->IntsAre vs ns->ns.length<=n->s₁.gens=#[] ->
   codeAny (model l.prog w) callerA (.call (.ref fa) ⟨[.ref a],[]⟩) (fun r s'=>r= .ok (.ret (.bool true))/\OldK s₁.heap s'.heap/\s'.os=s₁.os/\AllBare s'.gens) s₁) :
  WalkO q loose XP YP l.row.toRowW d [] (fun f vs=>PySem.call f vs):=by
 intro w s₀ s₁ mg mb G Y fa o pm cd doc dV kV ho hd hcd hD hmg hg args vals as hpre hlay hrd hwl hlo
 obtain rfl:dV= .none:=Dflts.none hD hdf
 obtain rfl:kV= .none:=Dflts.noKw hD
 obtain ⟨a,vs,ns,rfl,rfl,hobj,hints,hlen⟩:=script_of hn hpre hwl
 refine enter_call (codeAny_mono (call w s₀ s₁ mg mb fa o pm cd doc a vs ns G Y ho (fd_plain hd) hcd hmg hobj hints hlen hg) fun r s' hq=>?_)
 obtain ⟨rfl,h2,h3,h4⟩:=hq
 exact ⟨.inl ⟨.bool true,.bool true,[],rfl,fun _=>rfl,.bool true,post_true l _,fun _=>⟨List.Pairwise.nil,fun _ hm=>(nomatch hm)⟩⟩,h2,h3,h4⟩
end Att
namespace L2
open PySem PySem.Spec PyProof.Rows
theorem vals_ints:∀{vs:List Value} {ns:List Int},IntsAre vs ns->Vals (ns.map V.int) vs
 | _,_,.nil=>.nil
 | _,_,.cons n t h=>.cons ⟨t,rfl⟩ (vals_ints h)
def Only (H:Hp):Prop:=∀b,H b=none\/∃o xs,H b=some (.frz o (.lst xs))
theorem law_call {P:Program} {w:World} {K:PySem.W.Frag} {mg mb:Str->Option Value} {CX:CXT} {k:Nat} {fa a:Addr} {fd:FuncData} {x:Str} {sp:Sp} {s₁:Shared} {vs:List Value} {ns:List Int}
  (KX:K.In s₁.heap) (hns:s₁.heap.Ns mainGlobals mg) (hb:s₁.heap.Ns builtinsNs mb) (hbb:∀x:Str,x≠ "__name__" ->mb x=bootBuiltins x) (hlim:s₁.heap.NoLimit) (hg:s₁.gens=#[])
  (ha:s₁.heap.get? a=some {cls:=.type "list",data:=.seq vs.toArray}) (hi:IntsAre vs ns) (hl:ns.length<=sizeLine) (hr:Room k callerA)
  (F:∀base:Heap,K.In base->base.Ns mainGlobals mg->FnOk P w K mg base CX k fa fd [x] sp) (hbind:∀(s:Shared) (u:Value),BindsTo s fd ⟨[u],[]⟩ [(x,u)])
  (hsp:∀H:Hp,Only H->SqL K H a (ns.map V.int)->sp [.ref a] H (fun v _=>v= .bl true) fun _ _ _=>False)
  (hCX:∀H e s',CX [] H s₁ (fun _ _ _=>False) e s'->False) :
  codeAny (model P w) callerA (.call (.ref fa) ⟨[.ref a],[]⟩) (fun r s'=>r= .ok (.ret (.bool true))/\OldK s₁.heap s'.heap/\s'.os=s₁.os/\AllBare s'.gens) s₁:=by
 have rv:=vals_ints hi
 have lenV:=hi.length
 have core:∀H:Hp,Only H->SqL K H a (ns.map V.int)->HOk P w H s₁.heap->(∀b,H b≠none->b=a)->(H a≠none->K.lookup a=none) ->
   codeAny (model P w) callerA (.call (.ref fa) ⟨[.ref a],[]⟩) (fun r s'=>r= .ok (.ret (.bool true))/\OldK s₁.heap s'.heap/\s'.os=s₁.os/\AllBare s'.gens) s₁:=by
  intro H hO hS hok hA hK
  have base_of:∀{b:Addr} {o:Obj},s₁.heap.get? b=some o->H b=none->(hidT s₁.heap H).get? b=some o:=fun e n=>hidT_get e n
  have noA:∀{b:Addr} {o:Obj} {es:Array DictEntry} {ep:Nat},s₁.heap.get? b=some o->o.data= .dict es ep->H b=none:=fun {b o es ep} e d=>by
   cases q:H b with
   | none=>rfl
   | some u =>
    have e':b=a:=hA b (by rw [q];simp)
    subst e'
    rw [ha] at e;cases e
    have d':Data.seq vs.toArray _=Data.dict es ep:=d
    cases d'
  have nsK:∀{b:Addr} {m:Str->Option Value},s₁.heap.Ns b m->(hidT s₁.heap H).Ns b m:=fun {b m} ⟨o,es,ep,e,d,r⟩=>⟨o,es,ep,base_of e (noA e d),d,r⟩
  have hKb:K.In (hidT s₁.heap H):=fun b o e=>base_of (KX b o e) (by
   cases q:H b with
   | none=>rfl
   | some u =>
    have e':b=a:=hA b (by rw [q];simp)
    subst e'
    rw [hK (by rw [q];simp)] at e;cases e)
  have hM:Mod K mg (hidT s₁.heap H):=⟨hKb,nsK hns,⟨mb,nsK hb,hbb⟩,let ⟨mc,h1,h2⟩:=hlim;⟨mc,nsK h1,h2⟩⟩
  have e0:Env0 P w K mg (hidT s₁.heap H) callerA [] s₁ H:=⟨rfl,hM,fun b o e=>of_hidT e,Nat.le_of_eq (hidT_size _ _),trivial,fun b hb=>absurd (show b∈([]:List Addr) from hb) (by simp),hok,.of_eq hg⟩
  refine codeAny_mono ((F _ hKb (nsK hns)).run callerA [] s₁ H ⟨[.ref a],[]⟩ [.ref a] [.ref a] _ _ hr e0 (hbind s₁ (.ref a)) (.cons rfl .nil) (hsp H hO hS)) fun r s' h=>?_
  cases r with
  | error e=>exact (hCX H e s' h).elim
  | ok fl =>
   cases fl with
   | next=>exact False.elim h
   | brk=>exact False.elim h
   | cont=>exact False.elim h
   | ret u =>
    obtain ⟨v,H',os,bare,un,hok',r',q⟩:=h
    have q':v= .bl true:=q
    subst q'
    obtain rfl:u=Value.bool true:=r'
    refine ⟨rfl,OldK.of_keep fun b o e=>?_,os,bare⟩
    cases q:H b with
    | none=>exact un.keep b o e q (by intro z;exact absurd (show b∈([]:List Addr) from z) (by simp)) (by simp)
    | some u =>
     rcases hO b with z| ⟨ob,xs,z⟩
     ·rw [q] at z;cases z
     ·have z2:=un.frzs b ob _ z
      obtain ⟨e1,_⟩:=hok b _ z
      obtain ⟨e2,_⟩:=hok' b _ z2
      rw [e] at e1;cases e1
      exact e2
 cases hk:K.lookup a with
 | some o =>
  have e:=KX a o hk
  rw [ha] at e
  cases e
  refine core (fun _=>none) (fun _=>.inl rfl) (.inr ⟨_,vs.toArray,_,hk,rfl,rfl,rfl,by rw [List.size_toArray,lenV];exact hl,by simpa using rv⟩) (fun b u z=>by have z':(none:Option HO)=some u:=z;cases z') (fun b z=>absurd rfl z) fun z=>absurd rfl z
 | none =>
  refine core (fun b=>if b=a then some (.frz {cls:=.type "list",data:=.seq vs.toArray} (.lst (ns.map V.int))) else none) (fun b=>?_) (.inl (.inr ⟨{cls:=.type "list",data:=.seq vs.toArray},if_pos rfl⟩)) (fun b u z=>?_) (fun b z=>?_) fun _=>hk
  ·by_cases hb:b=a
   ·exact .inr ⟨_,_,if_pos hb⟩
   ·exact .inl (if_neg hb)
  ·by_cases hb:b=a
   ·have z':=(if_pos hb).symm.trans z
    cases z'
    subst hb
    exact ⟨ha,by rw [List.length_map];exact hl,vs,_,rv,ha⟩
   ·have z':=(if_neg hb).symm.trans z
    cases z'
  ·by_cases hb:b=a
   ·exact hb
   ·exact absurd (if_neg hb) z
theorem walk_of {l:PySem.W.OpenLaw} {n k:Nat} {q:Program} {loose:List Str} {XP:(Str->Option Value)->Heap->Prop} {YP:World->Heap->Prop} {d:DefRec} {K:Params->PySem.W.Frag} {CX:World->CXT} {sp:World->Sp} {x:Str}
  (hn:l.most=some n) (hn2:n<=sizeLine) (hdf:d.params.defaults=[]) (hr:Room k callerA)
  (hY:∀(w:World) (h:Heap),YP w h->(K w.params).In h)
  (F:∀(w:World) (mg:Str->Option Value) (fa:Addr) (h:Heap),(K w.params).In h->h.Ns mainGlobals mg->mg d.name=some (.ref fa) ->
   ∃fd:FuncData,(∀(s:Shared) (u:Value),BindsTo s fd ⟨[u],[]⟩ [(x,u)]) /\
    ∀base:Heap,(K w.params).In base->base.Ns mainGlobals mg->FnOk l.prog w (K w.params) mg base (CX w) k fa fd [x] (sp w))
  (hsp:∀(w:World) (H:Hp) (a:Addr) (ns:List Int),ns.length<=n->Only H->SqL (K w.params) H a (ns.map V.int)->sp w [.ref a] H (fun v _=>v= .bl true) fun _ _ _=>False)
  (hCX:∀(w:World) (H:Hp) (s:Shared) (e:Value) (s':Shared),CX w [] H s (fun _ _ _=>False) e s'->False) :
  PySem.W.WalkO q loose XP YP l.row.toRowW d [] (fun f vs=>PySem.call f vs):=by
 refine Att.attach_call hn hdf fun w s₀ s₁ mg mb fa o pm cd doc a vs ns G Y ho hd hcd hmg hobj hints hlen hg=>?_
 have KX:=hY w _ Y
 obtain ⟨fd,hb,hF⟩:=F w mg fa _ KX G.T.g hmg
 exact law_call KX G.T.g G.T.b G.T.builtins G.T.nolimit hg hobj hints (Nat.le_trans hlen hn2) hr hF hb (fun H hO hS=>hsp w H a ns hlen hO hS) fun H e s'=>hCX w H s₁ e s'
def zF6 (s:Stmt) (j:Nat):Stmt:=match s with
 | .ClassDef _ _ _ body _ _ _ _ _ _ _=>body.getD j (.Pass ⟨0,0,0,0⟩)
 | _=>.Pass ⟨0,0,0,0⟩
def zCe (s:Stmt):Arguments:=match s with
 | .FunctionDef _ a _ _ _ _ _ _ _ _=>a
 | _=>{posonlyargs:=[],args:=[],vararg:=none,kwonlyargs:=[],kw_defaults:=[],kwarg:=none,defaults:=[]}
def zBr (s:Stmt):List Stmt:=match s with
 | .FunctionDef _ _ b _ _ _ _ _ _ _=>b
 | _=>[]
def zAe (s:Stmt):Scope:=match s with
 | .FunctionDef _ _ _ _ _ _ sc _ _ _=>sc
 | _=>{kind:=.function,names:=[],isGenerator:=false,isCoroutine:=false}
abbrev CX0:CXT:=fun _ _ _ _ _ _=>False
abbrev E0:XK:=fun _ _ _=>False
theorem pass0 {X:Cx}:Passes CX0 X E0:=fun _ _ _ _ _ _ _ h=>h.elim
structure Fun (K:PySem.W.Frag) (x qual:Str) (st:Stmt) (f:Addr) (fd:FuncData):Prop where
 ex:∃(oc:Value) (od:Option Addr) (kV doc pm:Value) (an:Option Addr) (cdv ct:Value) (osl:Array (Option Value)),
  fd=PySem.W.fnOf x qual (zCe st) (zBr st) (zAe st) .none kV doc pm an cdv ct/\K.lookup f=some ⟨oc,od,.func fd,osl⟩/\PySem.W.codeIn K cdv qual=true
 kp:PySem.W.keepIn K (.ref f)=true
section
variable {P:Program} {w:World} {K:PySem.W.Frag} {mg:Str->Option Value} {base:Heap}
theorem Fun.ok {x qual:Str} {st:Stmt} {f:Addr} {fd:FuncData} {N ps:List Str} {k:Nat} {sp:Sp} (F:Fun K x qual st f fd) (S:FnScope N ps (zAe st)) (len:∀vs H Q E,sp vs H Q E->vs.length=ps.length)
  (hbody:∀(cdv:Value) (A:Around) (outer:List Env) (s:Shared) (H:Hp) (vs:List V) (Q:VK) (E:XK),Room k (A.deeper (envOfC qual (zAe st) s.heap.objs.size f cdv))->sp vs H Q E ->
   ∃t,PSs (cxOf CX0 P w K mg base N qual (zAe st) f cdv A outer s H E).nox (zBr st) t/\t {nx:=fun _ H'=>Q .non H',rt:=Q} (zHp N vs) H):FnOk P w K mg base CX0 (k+1) f fd ps sp:=by
 obtain ⟨oc,od,kV,doc,pm,an,cdv,ct,osl,rfl,lk,hcd⟩:=F.ex
 refine fn_of lk hcd S len fun A outer s H vs Q E hr hsp=>?_
 obtain ⟨t,h,q⟩:=hbody cdv A outer s H vs Q E hr hsp
 exact ⟨t,h.nox,q⟩
theorem Fun.binds {x qual:Str} {st:Stmt} {f:Addr} {fd:FuncData} {ps:List Str} (F:Fun K x qual st f fd)
  (h:∀(kV doc pm:Value) (an:Option Addr) (cdv ct:Value) (us:List Value),us.length=ps.length->bindArgs (PySem.W.fnOf x qual (zCe st) (zBr st) (zAe st) .none kV doc pm an cdv ct) ⟨us,[]⟩=pure (ps.zip us)):zC5 K fd ps []:=by
 obtain ⟨oc,od,kV,doc,pm,an,cdv,ct,osl,rfl,lk,hcd⟩:=F.ex
 exact .all (h kV doc pm an cdv ct)
theorem fun_mk {x qual:Str} {st:Stmt} {f:Addr} {oc:Value} {od an:Option Addr} {osl:Array (Option Value)} {kV doc pm cdv ct:Value} (l:K.lookup f=some ⟨oc,od,.func (PySem.W.fnOf x qual (zCe st) (zBr st) (zAe st) .none kV doc pm an cdv ct),osl⟩)
  (c:PySem.W.codeIn K cdv qual=true) (k:PySem.W.keepIn K (.ref f)=true):Fun K x qual st f (PySem.W.fnOf x qual (zCe st) (zBr st) (zAe st) .none kV doc pm an cdv ct):=⟨⟨oc,od,kV,doc,pm,an,cdv,ct,osl,rfl,l,c⟩,k⟩
end
theorem hu_of {A:Around} {k:Nat} (hr:Room k A):A.units+1<cLine:=Nat.lt_of_le_of_lt (Nat.add_le_add_left (by decide:1<=64) _) hr.units
section
variable {X:Cx}
theorem pv (i:Nat) {x:Str} {pos:Pos} (hN:X.N[i]?=some x:=by rfl) (hv:Vis X.env.scope x:=by first| exact Or.inl rfl| exact Or.inr (Or.inl rfl)| exact Or.inr (Or.inr rfl)) (hd:(x==("__debug__" : Str))=false:=by decide)
  (hcd:(x==("__classdict__" : Str))=false:=by decide):PE X (.Name x pos) (tVar i):=pe_var hN hv hd hcd
end
theorem iteF {A B:Prop} (h:B):if false=true then A else B:=by
 rw [if_neg Bool.false_ne_true]
 exact h
theorem iteT {A B:Prop} (h:A):if true=true then A else B:=by
 rw [if_pos rfl]
 exact h
theorem ite2 {c A B:Prop} [Decidable c] (h1:c->A) (h2:¬c->B):if c then A else B:=by
 by_cases h:c
 ·rw [if_pos h]
  exact h1 h
 ·rw [if_neg h]
  exact h2 h
def Same (H H':Hp):Prop:=∀b o,H b=some o->H' b=some o
theorem Same.seq {K:PySem.W.Frag} {H H':Hp} {a:Addr} {xs:List V} (e:Same H H') (h:SqL K H a xs):SqL K H' a xs:=by
 rcases h with (h| ⟨o,h⟩)| h
 ·exact .inl (.inl (e _ _ h))
 ·exact .inl (.inr ⟨o,e _ _ h⟩)
 ·exact .inr h
section
variable {κ:Type} [DecidableEq κ]
def valV (kvs:List (κ×V)) (k:κ):Option V:=(kvs.find? fun kv=>decide (kv.1=k)).map (·.2)
def putK (kvs:List (κ×V)) (k:κ) (v:V):List (κ×V) :=
 if (kvs.any fun kv=>decide (kv.1=k))=true then kvs.map (fun kv=>if kv.1=k then (kv.1,v) else kv) else kvs++[(k,v)]
theorem zGf {p:κ×V} {r:List (κ×V)} {k:κ} (e:p.1=k):valV (p::r) k=some p.2:=by simp [valV,List.find?_cons,e]
theorem zGg {p:κ×V} {r:List (κ×V)} {k:κ} (e:¬p.1=k):valV (p::r) k=valV r k:=by simp [valV,List.find?_cons,e]
theorem zGh (k:κ):∀kvs:List (κ×V),(kvs.any fun kv=>decide (kv.1=k))=(valV kvs k).isSome
 | []=>rfl
 | p::r=>by
  rw [List.any_cons]
  by_cases e:p.1=k
  ·simp only [zGf e,decide_eq_true e,Bool.true_or,Option.isSome_some]
  ·rw [zGg e,decide_eq_false e,Bool.false_or];exact zGh k r
theorem zE7 (kvs:List (κ×V)) (k:κ) (v:V):(putK kvs k v).length<=kvs.length+1:=by
 unfold putK
 split
 ·rw [List.length_map];omega
 ·rw [List.length_append,List.length_cons,List.length_nil];omega
theorem putK_new {kvs:List (κ×V)} {k:κ} (v:V) (h:valV kvs k=none):putK kvs k v=kvs++[(k,v)]:=by
 unfold putK
 rw [zGh,h]
 exact if_neg (by decide)
theorem RelO.isSome_eq {o:Option V} {u:Option Value} (r:RelO o u):o.isSome=u.isSome:=by
 cases o with
 | none=>cases u with
  | none=>rfl
  | some _=>exact (show False from r).elim
 | some _=>cases u with
  | none=>exact (show False from r).elim
  | some _=>rfl
theorem KV.val {kvs:List (κ×V)} {vs:List (κ×Value)} (r:KV kvs vs) (k:κ):RelO (valV kvs k) (valueAt vs k):=by
 unfold KV at r
 induction r with
 | nil=>exact True.intro
 | @cons p q ps qs h t ih =>
  obtain ⟨h1,h2⟩:=h
  by_cases e:p.1=k
  ·have e':q.1=k:=h1.symm.trans e
   have b:valueAt (q::qs) k=some q.2:=by simp [valueAt,List.find?_cons,e']
   rw [zGf e,b];exact h2
  ·have e':¬q.1=k:=fun z=>e (h1.trans z)
   have b:valueAt (q::qs) k=valueAt qs k:=by simp [valueAt,List.find?_cons,e']
   rw [zGg e,b];exact ih
theorem KV.any {kvs:List (κ×V)} {vs:List (κ×Value)} (r:KV kvs vs) (k:κ):(kvs.any fun kv=>decide (kv.1=k))=vs.any fun kv=>decide (kv.1=k):=by
 unfold KV at r
 induction r with
 | nil=>rfl
 | cons h t ih=>rw [List.any_cons,List.any_cons,ih,h.1]
theorem KV.repl {kvs:List (κ×V)} {vs:List (κ×Value)} (r:KV kvs vs) (k:κ) {y:V} {u:Value} (ry:RelV y u) :
  KV (kvs.map fun kv=>if kv.1=k then (kv.1,y) else kv) (vs.map fun kv=>if kv.1=k then (kv.1,u) else kv):=by
 unfold KV at r ⊢
 induction r with
 | nil=>exact .nil
 | @cons p q ps qs h t ih =>
  rw [List.map_cons,List.map_cons]
  refine .cons ?_ ih
  obtain ⟨h1,h2⟩:=h
  by_cases e:p.1=k
  ·rw [if_pos e,if_pos (h1.symm.trans e)];exact ⟨h1,ry⟩
  ·rw [if_neg e,if_neg (fun z=>e (h1.trans z))];exact ⟨h1,h2⟩
theorem KV.put {kvs:List (κ×V)} {vs:List (κ×Value)} (r:KV kvs vs) (k:κ) {y:V} {u:Value} (ry:RelV y u):KV (putK kvs k y) (stored vs k u):=by
 unfold putK stored
 rw [r.any k]
 by_cases e:(vs.any fun kv=>decide (kv.1=k))=true
 ·rw [if_pos e,if_pos e];exact r.repl k ry
 ·rw [if_neg e,if_neg e];exact Paired.snoc r ⟨rfl,ry⟩
theorem KV.length {kvs:List (κ×V)} {vs:List (κ×Value)} (r:KV kvs vs):kvs.length=vs.length:=Paired.length r
end
theorem kV_is {P:Program} {w:World} {k:Key} {u:Value} (r:RelV (kV k) u):(zB0 P w).is k u=true:=by
 cases k with
 | inl i=>obtain ⟨t,e⟩:=(show∃t,u=Value.int i t from r);subst e;exact mixKind_int P w i t
 | inr x=>obtain ⟨t,e⟩:=(show∃t,u=Value.str x t from r);subst e;exact mixKind_str P w x t
theorem items_are {P:Program} {w:World}:∀{ks:List Key} {us:List Value},Vals (ks.map kV) us->ItemsAre (zB0 P w) ks us
 | [],_,r=>by rw [List.map_nil] at r;cases r;exact .nil
 | k::ks,_,r=>by
  rw [List.map_cons] at r
  cases r with
  | cons h t=>exact .cons (kV_is h) (items_are t)
abbrev KT (H:Hp):List (List Key×V)->List (List Key×Addr×Value)->Prop:=Paired fun p q=>p.1=q.1/\H q.2.1=some (.tup (p.1.map kV))/\RelV p.2 q.2.2
theorem KT.val {H:Hp} {kvs:List (List Key×V)} {xs:List (List Key×Addr×Value)} (r:KT H kvs xs) (k:List Key):RelO (valV kvs k) ((atKey xs k).map (·.2)):=by
 induction r with
 | nil=>exact True.intro
 | @cons p q ps qs h t ih =>
  obtain ⟨h1,_,h2⟩:=h
  by_cases e:p.1=k
  ·have e':q.1=k:=h1.symm.trans e
   have b:atKey (q::qs) k=some q.2:=by simp [atKey,List.find?_cons,e']
   rw [zGf e,b];exact h2
  ·have e':¬q.1=k:=fun z=>e (h1.trans z)
   have b:atKey (q::qs) k=atKey qs k:=by simp [atKey,List.find?_cons,e']
   rw [zGg e,b];exact ih
theorem KT.repl {H:Hp} {kvs:List (List Key×V)} {xs:List (List Key×Addr×Value)} (r:KT H kvs xs) (k:List Key) {y:V} {u:Value} (ry:RelV y u) :
  KT H (kvs.map fun kv=>if kv.1=k then (kv.1,y) else kv) (xs.map (putAt k u)):=by
 induction r with
 | nil=>exact .nil
 | @cons p q ps qs h t ih =>
  rw [List.map_cons,List.map_cons]
  refine .cons ?_ ih
  obtain ⟨h1,h2,h3⟩:=h
  unfold putAt
  by_cases e:p.1=k
  ·rw [if_pos e,if_pos (h1.symm.trans e)];exact ⟨h1,h2,ry⟩
  ·rw [if_neg e,if_neg (fun z=>e (h1.trans z))];exact ⟨h1,h2,h3⟩
theorem KT.put {H:Hp} {kvs:List (List Key×V)} {xs:List (List Key×Addr×Value)} (r:KT H kvs xs) (k:List Key) {b:Addr} {y:V} {u:Value} (hb:H b=some (.tup (k.map kV))) (ry:RelV y u) :
  KT H (putK kvs k y) (storedH xs k b u):=by
 have e:(kvs.any fun kv=>decide (kv.1=k))=(atKey xs k).isSome:=by
  rw [zGh,(r.val k).isSome_eq,Option.isSome_map]
 unfold putK storedH
 rw [e]
 by_cases q:(atKey xs k).isSome=true
 ·rw [if_pos q,if_pos q];exact r.repl k ry
 ·rw [if_neg q,if_neg q];exact Paired.snoc r ⟨rfl,hb,ry⟩
theorem KT.keeps {H H':Hp} {kvs:List (List Key×V)} {xs:List (List Key×Addr×Value)} (r:KT H kvs xs) (ht:∀b ys,H b=some (.tup ys)->H' b=some (.tup ys)):KT H' kvs xs :=
 Paired.mapP r fun _ _ z=>⟨z.1,ht _ _ z.2.1,z.2.2⟩
section
variable {P:Program} {w:World} {H:Hp} {h:Heap} {a:Addr}
theorem rd_of {u:HO} (ok:HOk P w H h) (e:Rd H a u):zA7 P w H h a u:=e.ok ok
theorem dk_rd {kvs:List (Key×V)} (ok:HOk P w H h) (e:Rd H a (.dK kvs)):kvs.length<=sizeLine/\(a==sysModules)=false/\∃vs,KV kvs vs/\h.DictOf (zB0 P w) a vs :=
 show zA7 P w H h a (.dK kvs) from rd_of ok e
theorem dk_of {kvs:List (Key×V)} (ok:HOk P w H h) (e:H a=some (.dK kvs)):kvs.length<=sizeLine/\(a==sysModules)=false/\∃vs,KV kvs vs/\h.DictOf (zB0 P w) a vs:=dk_rd ok (.inl e)
theorem key_of {ks:List Key} (ok:HOk P w H h) (e:H a=some (.tup (ks.map kV))):(tupleKind (zB0 P w)).is h ks a:=by
 obtain ⟨_,its,r,o,h1,h2,n,h3⟩:=(show zA7 P w H h a (.tup (ks.map kV)) from ok a _ e)
 exact ⟨o,its.toArray,n,h1,h2,h3,by simpa using items_are r⟩
theorem dt_rd {kvs:List (List Key×V)} (ok:HOk P w H h) (e:Rd H a (.dT kvs)):kvs.length<=sizeLine/\(a==sysModules)=false /\
  ∃xs,KT H kvs xs/\h.DictOfH (tupleKind (zB0 P w)) a xs:=by
 obtain ⟨z,y,xs,r,o,es,ep,h1,h2,h3,h4,h5⟩:=(show zA7 P w H h a (.dT kvs) from rd_of ok e)
 refine ⟨z,y,xs,r,o,es,ep,h1,h2,h3,h4,fun x hx=>?_,h5⟩
 have all:∀{l:List (List Key×V)} {m:List (List Key×Addr×Value)},KT H l m->∀x∈m,(tupleKind (zB0 P w)).is h x.1 x.2.1:=by
  intro l m q
  induction q with
  | nil=>intro x hx;exact nomatch hx
  | @cons p q ps qs hq t ih =>
   intro x hx
   rcases List.mem_cons.mp hx with e| hx
   ·subst e
    exact key_of ok (by rw [<-hq.1];exact hq.2.1)
   ·exact ih x hx
 exact all r x hx
theorem dt_of {kvs:List (List Key×V)} (ok:HOk P w H h) (e:H a=some (.dT kvs)):kvs.length<=sizeLine/\(a==sysModules)=false /\
  ∃xs,KT H kvs xs/\h.DictOfH (tupleKind (zB0 P w)) a xs:=dt_rd ok (.inl e)
end
def DGet (H:Hp) (a:Addr) (y:V) (r:Option V):Prop :=
 (∃kvs k,Rd H a (.dK kvs)/\y=kV k/\r=valV kvs k)\/∃kvs k b,Rd H a (.dT kvs)/\y= .ref b/\H b=some (.tup (k.map kV))/\r=valV kvs k
def DPut (H:Hp) (a:Addr) (y v:V) (H':Hp):Prop :=
 (∃kvs k,H a=some (.dK kvs)/\y=kV k/\kvs.length<sizeLine/\H'=upd H a (.dK (putK kvs k v))) \/
 ∃kvs k b,H a=some (.dT kvs)/\y= .ref b/\H b=some (.tup (k.map kV))/\kvs.length<sizeLine/\H'=upd H a (.dT (putK kvs k v))
theorem DGet.k {H:Hp} {a:Addr} {kvs:List (Key×V)} {k:Key} (e:H a=some (.dK kvs)):DGet H a (kV k) (valV kvs k):=.inl ⟨kvs,k,.inl e,rfl,rfl⟩
theorem DPut.k {H:Hp} {a:Addr} {kvs:List (Key×V)} {k:Key} {v:V} (e:H a=some (.dK kvs)) (hl:kvs.length<sizeLine):DPut H a (kV k) v (upd H a (.dK (putK kvs k v))):=.inl ⟨kvs,k,e,rfl,hl,rfl⟩
section
variable {X:Cx} {pins:List (Addr×Obj)} {σ:St} {H:Hp} {s:Shared} {a:Addr} {y v:V} {u r:Value} {o:Option V} {A:Around} {E:Value->Shared->Prop}
theorem Inv.big (I:Inv X pins σ H s):sysModules<s.heap.objs.size:=by
 have h:mainGlobals<s.heap.objs.size:=(I.mod.glob.keeps I.bk).lt
 exact Nat.lt_trans (by decide) h
theorem d_getItem {Q:Value->Shared->Prop} (hu:A.units+1<cLine) (I:Inv X pins σ H s) (g:DGet H a y (some v)) (ry:RelV y u) (h:∀w' s',Inv X pins σ H s'->RelV v w'->Q w' s') :
  wpAny (model X.prog X.w) A (getItem (.ref a) u) Q E s:=by
 rcases g with ⟨kvs,k,e,ey,l⟩| ⟨kvs,k,b,e,ey,eb,l⟩
 ·subst ey
  obtain ⟨z,hd,vs,rel,dd⟩:=dk_rd I.hok e
  obtain ⟨w',hw,rw'⟩:=RelO.some_of (v:=v) (o:=valueAt vs k) (by rw [l];exact rel.val k)
  exact wpAny_getItem_of (kV_is ry) dd.mapOf hw (h w' _ (I.tok _) rw')
 ·subst ey
  cases (show u=Value.ref b from ry)
  obtain ⟨z,hd,xs,rel,dd⟩:=dt_rd I.hok e
  obtain ⟨w',hw,rw'⟩:=RelO.some_of (v:=v) (o:=(atKey xs k).map (·.2)) (by rw [l];exact rel.val k)
  obtain ⟨p,hp,hp2⟩:=Option.map_eq_some_iff.mp hw
  refine wpAny_getItem_heap (tupleKind_room_in1 hu) (key_of I.hok eb) dd hp ?_
  rw [hp2]
  exact h w' _ (I.tok _) rw'
theorem d_in {Q:Value->Shared->Prop} (hu:A.units+1<cLine) (I:Inv X pins σ H s) (g:DGet H a y o) (ry:RelV y u) (h:∀s',Inv X pins σ H s'->Q (.bool o.isSome) s') :
  wpAny (model X.prog X.w) A (compareOp .In u (.ref a)) Q E s:=by
 rcases g with ⟨kvs,k,e,ey,l⟩| ⟨kvs,k,b,e,ey,eb,l⟩
 ·subst ey
  obtain ⟨z,hd,vs,rel,dd⟩:=dk_rd I.hok e
  refine wpAny_in_of (kV_is ry) hd dd.mapOf ?_
  rw [<-(rel.val k).isSome_eq,<-l]
  exact h _ (I.tok _)
 ·subst ey
  cases (show u=Value.ref b from ry)
  obtain ⟨z,hd,xs,rel,dd⟩:=dt_rd I.hok e
  refine wpAny_in_heap (tupleKind_room_in1 hu) (key_of I.hok eb) hd dd ?_
  have q:=(rel.val k).isSome_eq
  rw [Option.isSome_map] at q
  rw [<-q,<-l]
  exact h _ (I.tok _)
theorem d_notIn {Q:Value->Shared->Prop} (hu:A.units+1<cLine) (I:Inv X pins σ H s) (g:DGet H a y o) (ry:RelV y u) (h:∀s',Inv X pins σ H s'->Q (.bool (!o.isSome)) s') :
  wpAny (model X.prog X.w) A (compareOp .NotIn u (.ref a)) Q E s:=by
 rcases g with ⟨kvs,k,e,ey,l⟩| ⟨kvs,k,b,e,ey,eb,l⟩
 ·subst ey
  obtain ⟨z,hd,vs,rel,dd⟩:=dk_rd I.hok e
  refine wpAny_notIn_of (kV_is ry) hd dd.mapOf ?_
  rw [<-(rel.val k).isSome_eq,<-l]
  exact h _ (I.tok _)
 ·subst ey
  cases (show u=Value.ref b from ry)
  obtain ⟨z,hd,xs,rel,dd⟩:=dt_rd I.hok e
  refine wpAny_notIn_heap (tupleKind_room_in1 hu) (key_of I.hok eb) hd dd ?_
  have q:=(rel.val k).isSome_eq
  rw [Option.isSome_map] at q
  rw [<-q,<-l]
  exact h _ (I.tok _)
theorem d_write {h':Heap} {t':Nat} {ob:HO} (I:Inv X pins σ H s) (mu:Mut (H a)) (hs:Heap.SameBut a s.heap h') (he:∃q,h'.get? a=some q) (new:zA7 X.prog X.w (upd H a ob) h' a ob) :
  Inv X pins σ (upd H a ob) {s with heap:=h',toks:=t'} :=
 I.write (x:=a) (e:=a) mu (.inl rfl) (fun b q hb z=>(hs.2 b hb).trans z) he new
theorem dk_new {P:Program} {w:World} {H':Hp} {h':Heap} {kvs:List (Key×V)} {vs:List (Key×Value)} (z:kvs.length<=sizeLine) (hd:(a==sysModules)=false) (rel:KV kvs vs) (dd:h'.DictOf (zB0 P w) a vs) :
  zA7 P w H' h' a (.dK kvs):=⟨z,hd,vs,rel,dd⟩
theorem d_setItem {H':Hp} {Q:Unit->Shared->Prop} (hu:A.units+1<cLine) (I:Inv X pins σ H s) (g:DPut H a y v H') (ry:RelV y u) (rv:RelV v r) (h:∀s',Inv X pins σ H' s'->Q () s') :
  wpAny (model X.prog X.w) A (setItem (.ref a) u r) Q E s:=by
 rcases g with ⟨kvs,k,e,ey,l,eH⟩| ⟨kvs,k,b,e,ey,eb,l,eH⟩
 ·subst ey eH
  obtain ⟨z,hd,vs,rel,dd⟩:=dk_of I.hok e
  have hz:vs.length<=sizeLine:=by rw [<-rel.length];exact z
  have hl:(putK kvs k v).length<=sizeLine:=by have:=zE7 kvs k v;omega
  refine wpAny_setItem_pairs (hsz:=hz) (kV_is ry) dd fun h' dd' hs=>h _ ?_
  have he:∃q,h'.get? a=some q:=let ⟨q,_,_,hq,_⟩:=dd';⟨q,hq⟩
  exact d_write I (by rw [e];exact True.intro) hs he (dk_new hl hd (rel.put k rv) dd')
 ·subst ey eH
  cases (show u=Value.ref b from ry)
  obtain ⟨z,hd,xs,rel,dd⟩:=dt_of I.hok e
  have hz:xs.length<=sizeLine:=by rw [<-Paired.length rel];exact z
  have hl:(putK kvs k v).length<=sizeLine:=by have:=zE7 kvs k v;omega
  refine wpAny_setItem_heap (hsz:=hz) (tupleKind_room_in1 hu) (key_of I.hok eb) dd fun h' dd' hs=>h _ ?_
  obtain ⟨q,es,ep,hq,h2,h3,h4,_,h5⟩:=dd'
  refine d_write I (by rw [e];exact True.intro) hs ⟨q,hq⟩ ⟨hl,hd,_,(rel.put k eb rv).keeps fun c ys ec=>?_,q,es,ep,hq,h2,h3,h4,h5⟩
  rw [upd_ne (zBd ec e (fun z=>nomatch z))]
  exact ec
end
def NoSl (i:Expr):Prop:=∀ov iv,subscripted i false ov iv=operate [ov,iv] (getItem ov iv)
theorem subD_of {prog:Program} {w:World} {A:Around} {E:Value->Shared->Prop} {s:Shared} {env:Env} {value slice:Expr} {pos:Pos} {T id:String} {Q:Value->Shared->Prop}
  (hl:typeLookup (.type T) "__getitem__" = pure (some (.builtin id))) (hs:NoSl slice)
  (h:wpAny (model prog w) A (eval value env) (fun o s₁=>wpAny (model prog w) A (eval slice env) (fun i s₂=>s₂.TypeIs o T/\wpAny (model prog w) A (getItem o i) Q E s₂) E s₁) E s) :
  wpAny (model prog w) A (eval (.Subscript value slice pos) env) Q E s:=by
 refine Subscript_ (wpAny_mono h (fun o s₁ h₁=>wpAny_mono h₁ (fun i s₂ h₂=>?_) fun _ _ x=>x) fun _ _ x=>x)
 obtain ⟨hT,h₂⟩:=h₂
 unfold subscriptTail
 refine wpAny_bind ?_
 rw [getitemInPython_of_ne hT.not_modules]
 refine wpAny_bind (wpAny_specialOf hT hl ?_)
 have fin:wpAny (model prog w) A (subscripted slice false o i) (fun r s₃=>wpAny (model prog w) A (letTemporaryGo value o r >>= fun _=>pure r) Q E s₃) E s₂:=by
  rw [hs o i]
  exact wpAny_operating (wpAny_mono h₂ (fun r s₃ h₃=>wpAny_bind (wpAny_letTemporaryGo (wpAny_pure h₃))) fun _ _ x=>x)
 first
  | exact wpAny_pure (wpAny_bind fin)
  | exact wpAny_bind (wpAny_pure (wpAny_bind fin))
  | exact wpAny_bind fin
theorem dict_typeIs {X:Cx} {pins:List (Addr×Obj)} {σ:St} {H:Hp} {s:Shared} {a:Addr} {y:V} {o:Option V} (I:Inv X pins σ H s) (g:DGet H a y o):s.TypeIs (.ref a) "dict" := by
 rcases g with ⟨kvs,k,e,_,_⟩| ⟨kvs,k,b,e,_,_,_⟩
 ·obtain ⟨_,_,vs,_,dd⟩:=dk_rd I.hok e
  exact dd.typeIs
 ·obtain ⟨_,_,xs,_,dd⟩:=dt_rd I.hok e
  exact dd.typeIs
def tDGet (td ty:TE):TE:=fun σ H Q=>td σ H fun x H1=>ty σ H1 fun y H2=>∃a v,x= .ref a/\DGet H2 a y (some v)/\Q v H2
def tDIn (ty td:TE):TE:=fun σ H Q=>ty σ H fun y H1=>td σ H1 fun x H2=>∃a o,x= .ref a/\DGet H2 a y o/\Q (.bl o.isSome) H2
def tDNotIn (ty td:TE):TE:=fun σ H Q=>ty σ H fun y H1=>td σ H1 fun x H2=>∃a o,x= .ref a/\DGet H2 a y o/\Q (.bl (!o.isSome)) H2
def sDPut (td ty tv:TE):TS:=fun D σ H=>tv σ H fun v H1=>td σ H1 fun x H2=>ty σ H2 fun y H3=>∃a H4,x= .ref a/\DPut H3 a y v H4/\D.nx σ H4
section
variable {X:Cx} {o i e value:Expr} {pos pos' tpos:Pos} {td ty tv:TE}
theorem zG1 (hu:X.A.units+1<cLine) (ho:PE X o td) (hi:PE X i ty) (hs:NoSl i):PE X (.Subscript o i pos) (tDGet td ty):=by
 intro pins s σ H Q I h
 refine subD_of PySem.F.slot_dict_getitem.lookup hs (thn (ho pins s σ H _ I h) fun u s1 ⟨x,H1,I1,rx,q1⟩=>thn (hi pins s1 σ H1 _ I1 q1) fun iv s2 ⟨y,H2,I2,ry,a,v,ex,g,q2⟩=>?_)
 subst ex
 obtain rfl:u=Value.ref a:=rx
 exact ⟨dict_typeIs I2 g,d_getItem hu I2 g ry fun w' s3 I3 rw'=>⟨v,H2,I3,rw',q2⟩⟩
theorem pc_din (hu:X.A.units+1<cLine) (hi:PE X i ty) (ho:PE X o td):PC X .In i o (tDIn ty td):=by
 intro pins s σ H Q I h
 refine thn (hi pins s σ H _ I h) fun iv s1 ⟨y,H1,I1,ry,q1⟩=>thn (ho pins s1 σ H1 _ I1 q1) fun u s2 ⟨x,H2,I2,rx,a,ov,ex,g,q2⟩=>?_
 subst ex
 obtain rfl:u=Value.ref a:=rx
 exact d_in hu I2 g ry fun s3 I3=>⟨.bl ov.isSome,H2,I3,rfl,q2⟩
theorem pc_dnotin (hu:X.A.units+1<cLine) (hi:PE X i ty) (ho:PE X o td):PC X .NotIn i o (tDNotIn ty td):=by
 intro pins s σ H Q I h
 refine thn (hi pins s σ H _ I h) fun iv s1 ⟨y,H1,I1,ry,q1⟩=>thn (ho pins s1 σ H1 _ I1 q1) fun u s2 ⟨x,H2,I2,rx,a,ov,ex,g,q2⟩=>?_
 subst ex
 obtain rfl:u=Value.ref a:=rx
 exact d_notIn hu I2 g ry fun s3 I3=>⟨.bl (!ov.isSome),H2,I3,rfl,q2⟩
theorem zG0 (hu:X.A.units+1<cLine) (ho:PE X o td) (hi:PE X i ty) (hv:PE X value tv) (hs:swapsWith value (some (.Subscript o i pos')) pos.line X.env=pure false) :
  PS X (.Assign [.Subscript o i pos'] value pos) (sDPut td ty tv):=by
 intro pins s σ H D I h
 refine wpAny_Assign_Subscript (thn (hv pins s σ H _ I h) fun r s1 ⟨v,H1,I1,rv,q1⟩=>thn (ho pins s1 σ H1 _ I1 q1) fun u s2 ⟨x,H2,I2,rx,q2⟩=>thn (hi pins s2 σ H2 _ I2 q2) fun iv s3 ⟨y,H3,I3,ry,a,H4,ex,g,q3⟩=>?_) hs
 subst ex
 obtain rfl:u=Value.ref a:=rx
 exact d_setItem hu I3 g ry rv fun s4 I4=>⟨σ,H4,I4,q3⟩
end
theorem dk_empty {P:Program} {w:World} {H:Hp} (h:Heap) (hb:sysModules<h.objs.size):zA7 P w H (h.push {cls:=.type "dict",data:=.dict #[]}) h.objs.size (.dK []) :=
 ⟨Nat.zero_le _,beq_eq_false_iff_ne.mpr (Ne.symm (Nat.ne_of_lt hb)),[],.nil,Heap.DictOf.new h⟩
def tDNewK:TE:=fun _ H Q=>∀p,H p=none->Q (.ref p) (upd H p (.dK []))
section
variable {X:Cx} {pos:Pos}
theorem zEm:PE X (.Dict [] [] pos) tDNewK:=fun pins s σ H Q I h =>
 wpAny_Dict_empty ⟨.ref s.heap.objs.size,_,I.laid (a:=s.heap.objs.size) (o:=.dK []) (t':=s.toks) (fun _ _ q=>Heap.get?_push_of_some _ q) (Nat.le_refl _) (dk_empty s.heap I.big),rfl,h _ (I.hok.fresh (Nat.le_refl _))⟩
end
end L2
set_option maxHeartbeats 4000000
namespace L2
open PySem PySem.Spec PyProof.Rows
def clOf (env:Env):List (Str×NameKind)->List (Str×Addr)->List (Str×Addr)
 | [],cs=>cs
 | (n,k)::r,cs=>if (k==NameKind.free)=true then (match env.cells.lookup n with| some c=>clOf env r ((n,c)::cs)| none=>clOf env r cs) else clOf env r cs
theorem zEg {env:Env}:∀(l:List (Str×NameKind)) (cs:List (Str×Addr)),(∀x∈l,x.2= .free->∃c,env.cells.lookup x.1=some c) ->
  (forIn l cs (fun (x:Str×NameKind) (cs:List (Str×Addr))=>match x with
   | (name,kind)=>if (kind==NameKind.free)=true then (do let c<-cellOf env name;pure (ForInStep.yield ((name,c)::cs))) else pure (ForInStep.yield cs)):Sem (List (Str×Addr)))=pure (clOf env l cs)
 | [],_,_=>rfl
 | (n,k)::r,cs,h=>by
  rw [List.forIn_cons]
  have hr:∀x∈r,x.2= .free->∃c,env.cells.lookup x.1=some c:=fun x hx=>h x (List.mem_cons_of_mem _ hx)
  by_cases hk:(k==NameKind.free)=true
  ·obtain ⟨c,hc⟩:=h (n,k) List.mem_cons_self (by simpa using hk)
   have e1:clOf env ((n,k)::r) cs=clOf env r ((n,c)::cs):=by
    show (if (k==NameKind.free)=true then _ else _)=_
    rw [if_pos hk]
    have hc:env.cells.lookup n=some c:=hc
    rw [hc]
   have e2:cellOf env n=pure c:=by
    have hc:env.cells.lookup n=some c:=hc
    unfold cellOf;rw [hc]
   rw [e1,<-zEg r ((n,c)::cs) hr]
   show (if (k==NameKind.free)=true then (do let c<-cellOf env n;pure (ForInStep.yield ((n,c)::cs))) else pure (ForInStep.yield cs)) >>= _=_
   rw [if_pos hk,e2,pure_bind,pure_bind]
  ·have e1:clOf env ((n,k)::r) cs=clOf env r cs:=by
    show (if (k==NameKind.free)=true then _ else _)=_
    rw [if_neg hk]
   rw [e1,<-zEg r cs hr]
   show (if (k==NameKind.free)=true then (do let c<-cellOf env n;pure (ForInStep.yield ((n,c)::cs))) else pure (ForInStep.yield cs)) >>= _=_
   rw [if_neg hk,pure_bind]
theorem zFs {scope:Scope} {env:Env} (h:∀x∈scope.names,x.2= .free->∃c,env.cells.lookup x.1=some c):closureFor scope env=pure (clOf env scope.names []):=by
 unfold closureFor
 have e:=zEg (env:=env) scope.names [] h
 first
  | exact e
  | (refine Eq.trans ?_ e;rfl)
  | (rw [bind_pure];exact e)
  | simpa using e
theorem zDh {env:Env} {x:Str} {c:Addr}:∀{l:List (Str×NameKind)} {cs:List (Str×Addr)},(∀y d,cs.lookup y=some d->env.cells.lookup y=some d)->(clOf env l cs).lookup x=some c->env.cells.lookup x=some c
 | [],cs,h,e=>h x c e
 | (n,k)::r,cs,h,e=>by
  unfold clOf at e
  by_cases hk:(k==NameKind.free)=true
  ·rw [if_pos hk] at e
   cases q:env.cells.lookup n with
   | none=>rw [q] at e;exact zDh h e
   | some d =>
    rw [q] at e
    refine zDh (fun y z hy=>?_) e
    rw [List.lookup_cons] at hy
    cases hyn:y==n with
    | true =>
     rw [hyn] at hy
     have:y=n:=by simpa using hyn
     subst this
     rw [q];exact hy
    | false=>rw [hyn] at hy;exact h y z hy
  ·rw [if_neg hk] at e;exact zDh h e
theorem zEq {env:Env} {x:Str} {c:Addr} (hx:env.cells.lookup x=some c):∀{l:List (Str×NameKind)} {cs:List (Str×Addr)},cs.lookup x=some c->(clOf env l cs).lookup x=some c
 | [],_,h=>h
 | (n,k)::r,cs,h=>by
  unfold clOf
  by_cases hk:(k==NameKind.free)=true
  ·rw [if_pos hk]
   cases q:env.cells.lookup n with
   | none=>exact zEq hx h
   | some d =>
    refine zEq hx ?_
    rw [List.lookup_cons]
    cases hxn:x==n with
    | true =>
     have:x=n:=by simpa using hxn
     subst this
     rw [<-q,hx]
    | false=>exact h
  ·rw [if_neg hk];exact zEq hx h
theorem zFu {env:Env} {x:Str} {c:Addr} (hx:env.cells.lookup x=some c):∀{l:List (Str×NameKind)} {cs:List (Str×Addr)},(x,NameKind.free)∈l->(clOf env l cs).lookup x=some c
 | [],_,h=>nomatch h
 | (n,k)::r,cs,h=>by
  unfold clOf
  rcases List.mem_cons.mp h with e| h
  ·cases e
   rw [if_pos (show (NameKind.free==NameKind.free)=true by decide),hx]
   exact zEq hx (by rw [List.lookup_cons];simp)
  ·by_cases hk:(k==NameKind.free)=true
   ·rw [if_pos hk]
    cases q:env.cells.lookup n with
    | none=>exact zFu hx h
    | some d=>exact zFu hx h
   ·rw [if_neg hk];exact zFu hx h
theorem zD0 {x:Str}:∀{l:List (Str×NameKind)} {n:Nat} {acc:List (Str×Addr)},(∀y∈l,y.2= .cell->y.1≠x)->(cellsFrom n l acc).lookup x=acc.lookup x
 | [],_,_,_=>rfl
 | (y,k)::r,n,acc,h=>by
  have hr:∀z∈r,z.2= .cell->z.1≠x:=fun z hz=>h z (List.mem_cons_of_mem _ hz)
  unfold cellsFrom
  split
  ·rename_i hk
   rw [zD0 hr,List.lookup_cons]
   have:(x==y)=false:=by
    have:=h (y,k) List.mem_cons_self (by simpa using hk)
    exact beq_eq_false_iff_ne.mpr (fun z=>this z.symm)
   rw [this]
  ·exact zD0 hr
theorem zB3 {x:Str} {c:Addr}:∀{l:List (Str×NameKind)} {n:Nat} {acc:List (Str×Addr)},(cellsFrom n l acc).lookup x=some c->acc.lookup x=some c\/(n<=c/\(x,NameKind.cell)∈l)
 | [],_,_,h=>.inl h
 | (y,k)::r,n,acc,h=>by
  unfold cellsFrom at h
  split at h
  ·rename_i hk
   have hk':k= .cell:=by simpa using hk
   rcases zB3 h with z| ⟨z1,z2⟩
   ·rw [List.lookup_cons] at z
    cases hx:x==y with
    | true =>
     rw [hx] at z
     have e:n=c:=Option.some.inj z
     have e2:x=y:=by simpa using hx
     subst e2;subst hk'
     exact .inr ⟨Nat.le_of_eq e,List.mem_cons_self⟩
    | false=>rw [hx] at z;exact .inl z
   ·exact .inr ⟨Nat.le_trans (Nat.le_succ _) z1,List.mem_cons_of_mem _ z2⟩
  ·rcases zB3 h with z| ⟨z1,z2⟩
   ·exact .inl z
   ·exact .inr ⟨z1,List.mem_cons_of_mem _ z2⟩
theorem zD1:∀{l:List (Str×NameKind)} {n:Nat} {acc:List (Str×Addr)},(∀x y c,acc.lookup x=some c->acc.lookup y=some c->x=y)->(∀z d,acc.lookup z=some d->d<n)->∀x y c,(cellsFrom n l acc).lookup x=some c->(cellsFrom n l acc).lookup y=some c->x=y
 | [],_,_,p,_=>p
 | (w,k)::r,n,acc,p,lt=>by
  unfold cellsFrom
  split
  ·refine zD1 (l:=r) (n:=n+1) (acc:=(w,n)::acc) (fun x y c h1 h2=>?_) (fun z d h=>?_)
   ·rw [List.lookup_cons] at h1 h2
    cases hx:x==w with
    | true =>
     rw [hx] at h1
     have e1:n=c:=Option.some.inj h1
     cases hy:y==w with
     | true=>exact (by simpa using hx:x=w).trans (by simpa using hy:y=w).symm
     | false =>
      rw [hy] at h2
      have:=lt y c h2
      rw [<-e1] at this
      exact absurd this (Nat.lt_irrefl _)
    | false =>
     rw [hx] at h1
     cases hy:y==w with
     | true =>
      rw [hy] at h2
      have e2:n=c:=Option.some.inj h2
      have:=lt x c h1
      rw [<-e2] at this
      exact absurd this (Nat.lt_irrefl _)
     | false=>rw [hy] at h2;exact p x y c h1 h2
   ·rw [List.lookup_cons] at h
    cases hz:z==w with
    | true =>
     rw [hz] at h
     have e:n=d:=Option.some.inj h
     rw [<-e];exact Nat.lt_succ_self _
    | false =>
     rw [hz] at h
     exact Nat.lt_succ_of_lt (lt z d h)
  ·exact zD1 p lt
theorem zCi {x:Str} {c:Addr}:∀{l:List (Str×NameKind)} {h:Heap} {acc:List (Str×Addr)},(∀y d,acc.lookup y=some d->∃v,h.IsCell d v)->(cellsFrom h.objs.size l acc).lookup x=some c->∃v,(pushCells h l).IsCell c v
 | [],_,_,hA,e=>hA x c e
 | (y,k)::r,h,acc,hA,e=>by
  unfold cellsFrom at e
  unfold pushCells
  split at e
  ·rename_i hk
   rw [if_pos hk]
   have hs:(h.push {cls:=.type "cell",data:=.cell none}:Heap).objs.size=h.objs.size+1:=Heap.size_push ..
   rw [<-hs] at e
   refine zCi (fun z d hz=>?_) e
   rw [List.lookup_cons] at hz
   cases hzy:z==y with
   | true =>
    rw [hzy] at hz
    have e:h.objs.size=d:=Option.some.inj hz
    subst e
    exact ⟨none,_,Heap.get?_push_size _ rfl,rfl⟩
   | false =>
    rw [hzy] at hz
    obtain ⟨v,o,ho,hd⟩:=hA z d hz
    exact ⟨v,o,Heap.get?_push_of_some _ ho,hd⟩
  ·rename_i hk
   rw [if_neg hk]
   exact zCi hA e
theorem zC6 {M:Model} {A:Around} {E:Value->Shared->Prop} {s:Shared} {scope:Scope} {globals:Addr} {cl:List (Str×Addr)} {qual:Str} {outer:Env} {Q:Env->Shared->Prop}
  (h:Q (newEnv scope s.heap.objs.size globals (cellsFrom (s.heap.objs.size+1) scope.names cl) qual none .none (some outer) builtinsNs) {s with heap:=pushCells (s.heap.push {cls:=.type "dict",data:=.dict #[]}) scope.names}) :
  wpAny M A (newFunctionEnv scope globals cl [] qual none .none (some outer)) Q E s:=by
 simp only [newFunctionEnv,Option.isSome_some,if_true]
 refine wpAny_bind (wpAny_alloc ?_)
 refine wpAny_bind (wpAny_layCells _ (fun name kind cells=>by cases hkc:kind==NameKind.cell<;>simp [hkc]) _ _ _ _ ?_)
 rw [show ({s with heap:=s.heap.push {cls:=.type "dict",data:=.dict #[]}}:Shared).heap.objs.size=s.heap.objs.size+1 from Heap.size_push ..]
 rw [List.forIn_nil]
 exact wpAny_bind (wpAny_pure (wpAny_pure h))
theorem zFt {env:Env} {x:Str}:∀{l:List (Str×NameKind)} {cs:List (Str×Addr)},(∀y∈l,y.2= .free->y.1≠x)->(clOf env l cs).lookup x=cs.lookup x
 | [],_,_=>rfl
 | (n,k)::r,cs,h=>by
  have hr:∀z∈r,z.2= .free->z.1≠x:=fun z hz=>h z (List.mem_cons_of_mem _ hz)
  unfold clOf
  by_cases hk:(k==NameKind.free)=true
  ·rw [if_pos hk]
   have nx:(x==n)=false:=beq_eq_false_iff_ne.mpr fun z=>h (n,k) List.mem_cons_self (by simpa using hk) z.symm
   cases q:env.cells.lookup n with
   | none=>exact zFt hr
   | some d =>
    rw [show (clOf env r ((n,d)::cs)).lookup x=((n,d)::cs).lookup x from zFt hr,List.lookup_cons,nx]
  ·rw [if_neg hk];exact zFt hr
def Cx.block (X:Cx) (scope:Scope) (C:Addr) (s₀:Shared) (H₀:Hp) (ex:List Addr) (N:List Str):Cx where
 prog:=X.prog
 w:=X.w
 K:=X.K
 mg:=X.mg
 base:=X.base
 A:=X.A
 N:=N
 s₀:=s₀
 H₀:=H₀
 env:=compEnvC scope (cellsFrom (C+1) scope.names (clOf X.env scope.names [])) C X.env
 outer:=X.stack
 stack:=X.stack
 ex:=ex
 fn:=fun x=>scope.names.lookup x==some .cell
 calm:=X.calm
 pn:=[]
 xe:=fun _ _=>False
structure BlkSc (X:Cx) (scope:Scope):Prop where
 kind:scope.kind= .function
 apart:∀y∈scope.names,∀z∈scope.names,y.2= .cell->z.2= .free->y.1≠z.1
 owns:∀y∈scope.names,y.2= .cell->scope.names.lookup y.1=some .cell
 free:∀y∈scope.names,y.2= .free->X.env.kindOf y.1=some .cell\/X.env.kindOf y.1=some .free
 locs:∀y∈scope.names,y.2= .local->scope.names.lookup y.1=some .local
theorem zDc {scope:Scope} {env:Env} {x:Str} {k:NameKind}:∀{l:List (Str×NameKind)}, 
  (l.map fun (n,k)=>if (k==NameKind.free&&env.scope.kind== .function&&env.kindOf n==some .cell) then (n,NameKind.cell) else (n,k)).lookup x=some k ->
  k= .cell\/k= .free->∃k',(x,k')∈l/\(k'= .cell\/k'= .free)
 | [],h,_=>by simp at h
 | (n,j)::r,h,hk=>by
  have h:List.lookup x ((if (j==NameKind.free&&env.scope.kind== .function&&env.kindOf n==some .cell)=true then (n,NameKind.cell) else (n,j))::(r.map fun (n,k)=>if (k==NameKind.free&&env.scope.kind== .function&&env.kindOf n==some .cell) then (n,NameKind.cell) else (n,k)))=some k:=h
  by_cases hc:(j==NameKind.free&&env.scope.kind== .function&&env.kindOf n==some .cell)=true
  ·rw [if_pos hc,List.lookup_cons] at h
   have hj:j= .free:=by
    simp only [Bool.and_eq_true] at hc
    simpa using hc.1.1
   cases hx:x==n with
   | true =>
    have:x=n:=by simpa using hx
    subst this
    exact ⟨j,List.mem_cons_self,.inr hj⟩
   | false =>
    rw [hx] at h
    obtain ⟨k',m,q⟩:=zDc (scope:=scope) h hk
    exact ⟨k',List.mem_cons_of_mem _ m,q⟩
  ·rw [if_neg hc,List.lookup_cons] at h
   cases hx:x==n with
   | true =>
    rw [hx] at h
    have e:j=k:=Option.some.inj h
    have:x=n:=by simpa using hx
    subst this
    exact ⟨j,List.mem_cons_self,by rw [e];exact hk⟩
   | false =>
    rw [hx] at h
    obtain ⟨k',m,q⟩:=zDc (scope:=scope) h hk
    exact ⟨k',List.mem_cons_of_mem _ m,q⟩
inductive Draws (X:Cx) (scope:Scope):List Str->List (Option Nat)->Prop
 | nil:Draws X scope [] []
 | own {x:Str} {N:List Str} {ix:List (Option Nat)}:Draws X scope N ix->Draws X scope (x::N) (Option.none::ix)
 | tk {x:Str} {N:List Str} {ix:List (Option Nat)} {i:Nat} (hN:X.N[i]?=some x) (hv:Vis X.env.scope x) (hk:(relabel scope X.env).names.lookup x=some .cell\/(relabel scope X.env).names.lookup x=some .free) (hf:(x,NameKind.free)∈scope.names) :
   Draws X scope N ix->Draws X scope (x::N) (some i::ix)
def zCf (σ:St) (ix:List (Option Nat)):St:=ix.map fun o=>o.bind fun i=>(σ[i]?).join
theorem Draws.len {X:Cx} {scope:Scope} {N:List Str} {ix:List (Option Nat)} (D:Draws X scope N ix):ix.length=N.length:=by
 induction D with
 | nil=>rfl
 | own _ ih=>simp [ih]
 | tk _ _ _ _ _ ih=>simp [ih]
theorem Draws.get {X:Cx} {scope:Scope} {N:List Str} {ix:List (Option Nat)} {σ:St} (D:Draws X scope N ix):∀(j:Nat) (x:Str) (v:V),N[j]?=some x->(zCf σ ix)[j]?=some (some v) ->
  ∃(i:Nat),X.N[i]?=some x/\σ[i]?=some (some v)/\Vis X.env.scope x/\((relabel scope X.env).names.lookup x=some .cell\/(relabel scope X.env).names.lookup x=some .free)/\(x,NameKind.free)∈scope.names:=by
 induction D with
 | nil=>intro j x v h;simp at h
 | own d ih =>
  intro j x v h1 h2
  cases j with
  | zero=>simp [zCf] at h2
  | succ j=>exact ih j x v (by simpa using h1) (by simpa [zCf] using h2)
 | @tk y N ix i hN hv hk hf d ih =>
  intro j x v h1 h2
  cases j with
  | zero =>
   have e:y=x:=by simpa using h1
   subst e
   refine ⟨i,hN,?_,hv,hk,hf⟩
   have h2:((σ[i]?).join)=some v:=by simpa [zCf] using h2
   cases q:σ[i]? with
   | none=>rw [q] at h2;cases h2
   | some o=>rw [q] at h2;exact congrArg some h2
  | succ j=>exact ih j x v (by simpa using h1) (by simpa [zCf] using h2)
section
variable {X:Cx} {pins:List (Addr×Obj)} {σ:St} {H:Hp} {s:Shared} {scope:Scope} {N:List Str} {ix:List (Option Nat)} {fp:List Addr}
theorem Inv.nostk (I:Inv X pins σ H s) {b:Addr} (h1:b≠X.env.locals) (h2:b∉X.fs):b∉frs X.stack:=fun z=>(List.mem_cons.mp (I.stkSub b z)).elim h1 h2
theorem Inv.blockStart {h':Heap} {tk:Nat} {m:Str->Option Value} (I:Inv X pins σ H s) (B:BlkSc X scope) (D:Draws X scope N ix) (hfp:∀b∈fp,FpOk X pins H b) (hfo:∀b∈fp,∃o,s.heap.get? b=some o)
  (hns:h'.Ns s.heap.objs.size m) (hk:∀b o,s.heap.get? b=some o->h'.get? b=some o) (hcl:∀x c,(cellsFrom (s.heap.objs.size+1) scope.names (clOf X.env scope.names [])).lookup x=some c->∃v,h'.IsCell c v) :
  Inv (X.block scope s.heap.objs.size s H fp N) (X.pn++pins) (zCf σ ix) H {s with heap:=h',toks:=tk}:=by
 have sub:∀{x:Str} {c:Addr},(clOf X.env scope.names []).lookup x=some c->X.env.cells.lookup x=some c:=fun {x c} e=>zDh (fun y d z=>by simp at z) e
 have old:∀{x:Str} {c:Addr},(clOf X.env scope.names []).lookup x=some c->c<s.heap.objs.size:=fun {x c} e=>by
  obtain ⟨v,o,ho,_⟩:=I.cell x c (sub e)
  exact Heap.lt_size ho
 have two:∀{x:Str} {c:Addr},(cellsFrom (s.heap.objs.size+1) scope.names (clOf X.env scope.names [])).lookup x=some c->X.env.cells.lookup x=some c\/s.heap.objs.size<c:=fun {x c} e=>by
  rcases zB3 e with z| ⟨z,_⟩
  ·exact .inl (sub z)
  ·exact .inr z
 have own:∀{x:Str},(x,NameKind.free)∈scope.names->(cellsFrom (s.heap.objs.size+1) scope.names (clOf X.env scope.names [])).lookup x=(clOf X.env scope.names []).lookup x:=fun {x} hx=>zD0 fun y hy e=>B.apart y hy _ hx e rfl
 have okB:(X.block scope s.heap.objs.size s H fp N).Ok:=by
  refine ⟨I.ok.mod,B.kind,I.ok.glob,I.ok.blt,Nat.le_refl _,zD1 (fun x y c h1 h2=>I.ok.inj x y c (sub h1) (sub h2)) (fun z d h=>Nat.lt_succ_of_lt (old h)),fun x hx=>?_,(fun x c z e=>?_),I.ok.hd,I.ok.frames,.inl rfl,fun b hb=>⟨?_,fun x c e=>?_⟩,
   I.bs,Nat.le_trans I.ok.bsz I.sz,fun b o e hb=>?_,fun b hb=>I.nostk (hfp b hb).2.1 (hfp b hb).2.2.1,I.stack,I.stkFree⟩
  ·have hx':(relabel scope X.env).names.lookup x=some .cell\/(relabel scope X.env).names.lookup x=some .free:=hx
   have key:∃k',(x,k')∈scope.names/\(k'= .cell\/k'= .free):=by
    rcases hx' with e| e
    ·exact zDc (scope:=scope) e (.inl rfl)
    ·exact zDc (scope:=scope) e (.inr rfl)
   obtain ⟨k',m1,q⟩:=key
   rcases q with q| q
   ·subst q
    exact Option.isSome_iff_exists.mp (PySem.W.cellsFrom_some _ _ _ (.inl (B.owns _ m1 rfl)))
   ·subst q
    obtain ⟨c,hc⟩:=I.ok.has x (B.free _ m1 rfl)
    exact ⟨c,(own m1).trans (zFu hc m1)⟩
  ·rcases zB3 e with q| ⟨q,_⟩
   ·have z:scope.names.lookup x=some .cell:=by
     have z:(scope.names.lookup x==some NameKind.cell)=true:=z
     simpa using z
    have hm:=PySem.mem_of_lookup z
    have:(x,NameKind.free)∈scope.names\/True:=.inr trivial
    exact absurd q (by
     rw [zFt (fun y hy e1 e2=>B.apart _ hm y hy rfl e1 e2.symm)]
     intro h;cases h)
   ·exact Nat.le_of_lt q
  ·obtain ⟨o,e⟩:=hfo b hb
   exact Nat.ne_of_lt (Heap.lt_size e)
  ·rcases two e with z| z
   ·exact (hfp b hb).2.2.2.2.1 x c z
   ·obtain ⟨o,e⟩:=hfo b hb
    exact Nat.ne_of_gt (Nat.lt_trans (Heap.lt_size e) z)
  ·rcases (hfp b hb).2.2.2.1 with z| z
   ·exact I.ok.noex b o e z
   ·exact absurd (Nat.lt_of_lt_of_le (Heap.lt_size (I.ok.bs b o e).1) z) (Nat.lt_irrefl _)
 refine ⟨okB,rfl,I.bare,Un.kept hk,⟨m,hns,fun j x v h1 h2 h3=>?_⟩,fun x c e=>?_,I.hok.fresh (Nat.le_refl _),fun x c e=>(two e).elim (fun z=>I.freeC x c z) (fun z=>I.hok.fresh (Nat.le_of_lt z)),fun p hp=>?_,I.hok.kept hk,?_⟩
 ·obtain ⟨i,e1,e2,vis,kd,fr⟩:=D.get j x v h1 h2
  obtain ⟨m0,hn0,hl⟩:=I.loc
  obtain ⟨u,r,l⟩:=hl i x v e1 e2 vis
  refine ⟨u,r,?_⟩
  rcases l with ⟨k,_⟩| ⟨_,c,hc,o,ho,hd⟩
  ·rcases B.free _ fr rfl with z| z
   ·have z:X.env.kindOf x=some .cell:=z
    rw [k] at z;cases z
   ·have z:X.env.kindOf x=some .free:=z
    rw [k] at z;cases z
  ·exact .inr ⟨kd,c,(own fr).trans (zFu hc fr),o,hk c o ho,hd⟩
 ·exact hcl x c e
 ·have hp':p∈X.pn++pins:=by simpa [Cx.block] using hp
  obtain ⟨e,n,ne,nf,d⟩:=I.pin p hp'
  exact ⟨hk _ _ e,n,Nat.ne_of_lt (Heap.lt_size e),I.nostk ne nf,d⟩
 ·show (zCf σ ix).length=N.length
  unfold zCf
  rw [List.length_map]
  exact D.len
end
def PTs (X:Cx) (ifs:List Expr) (t:TT):Prop :=
 ∀(pins:List (Addr×Obj)) (s:Shared) (σ:St) (H:Hp) (Q:Bool->Hp->Prop),Inv X pins σ H s->t σ H Q ->
  wpAny (model X.prog X.w) X.A (forIn ifs true fun c r=>if r=true then do let ok<-isTrue c X.env (eval c X.env);pure (ForInStep.yield ok) else pure (ForInStep.yield r)) (TP X pins σ Q) X.xe s
def zIl:TT:=fun _ H Q=>Q true H
theorem zB8 {X:Cx}:PTs X [] zIl:=fun _ _ _ H _ I h=>wpAny_tests_nil ⟨H,I,h⟩
theorem zF1 {X:Cx} {c:Expr} {t:TT} (h:PT X c t):PTs X [c] t:=fun pins s σ H Q I hw=>wpAny_tests_one (h pins s σ H Q I hw)
theorem comp_loop {prog:Program} {w:World} {A:Around} {R:Result->Shared->Prop} {s:Shared} {elt target iter:Expr} {ifs:List Expr} {scope:Scope} {pos:Pos} {it acc:Value} {env:Env} (I:Nat->Shared->Prop)
  (turn:∀n s,I n s->wpAny (model prog w) A (pyNext it) (fun r s₁=>match r with
   | none=>R (.ok .next) s₁
   | some v=>wpAny (model prog w) A (letOwnedTupleGo target it v) (fun _ s₁'=>wpAny (model prog w) A (assign target env v) (fun _ s₂ =>
     wpAny (model prog w) A (forIn ifs true fun c r=>if r=true then do let ok<-isTrue c env (eval c env);pure (ForInStep.yield ok) else pure (ForInStep.yield r)) (fun ok s₃ =>
      if ok=true then wpAny (model prog w) A (eval elt env) (fun x s₄ =>
       wpAny (model prog w) A (call (.builtin "list.append") [acc,x]) (fun _ s₅=>∃m,m<n/\I m s₅) (fun _ _=>False) s₄) (fun _ _=>False) s₃
      else∃m,m<n/\I m s₃) (fun _ _=>False) s₂) (fun _ _=>False) s₁') (fun _ _=>False) s₁) (fun _ _=>False) s)
  (n:Nat) (h:I n s) :
  codeAny (model prog w) A (.compLoop (.ListComp elt [⟨target,iter,ifs,0⟩] scope pos) 0 it acc env) R s:=by
 refine codeAny_loop rfl I (fun n s hI=>?_) n h
 show wpAny _ A ((compTurn (.ListComp elt [⟨target,iter,ifs,0⟩] scope pos) 0 it acc env).onRaise (fun x=>do noteFrame x env;theTreesLotGoes x)) _ _ s
 refine wpAny_noted ?_
 rw [compTurn_list]
 refine wpAny_bind (wpAny_standAt (wpAny_bind (wpAny_mono (turn n s hI) (fun r s₁ h₁=>?_) fun _ _ h'=>h'.elim)))
 cases r with
 | none=>exact wpAny_pure h₁
 | some v =>
  refine wpAny_bind (wpAny_mono h₁ (fun _ s₁' h₁'=>?_) fun _ _ h'=>h'.elim)
  refine wpAny_bind (wpAny_mono h₁' (fun _ s₂ h₂=>wpAny_bind (wpAny_mono h₂ (fun ok s₃ h₃=>?_) fun _ _ h'=>h'.elim)) fun _ _ h'=>h'.elim)
  cases ok with
  | false=>exact wpAny_pure ⟨rfl,h₃⟩
  | true =>
   exact wpAny_bind (wpAny_bind (wpAny_mono h₃ (fun x s₄ h₄=>wpAny_bind (wpAny_mono h₄ (fun _ s₅ h₅=>wpAny_pure (wpAny_pure ⟨rfl,h₅⟩)) fun _ _ h'=>h'.elim)) fun _ _ h'=>h'.elim))
def tComp (wi:TI) (ix:List (Option Nat)) (g:TG) (tt:TT) (te:TE):TE:=fun σ H Q=>wi σ H fun J H1=>∀D,H1 D=none->∃W:Nat->Nat->List V->St->Hp->Prop,
 (∃m,W 0 m [] (zCf σ ix) (upd H1 D (.lst [])))/\∀i m ys τ H2,W i m ys τ H2 ->
  (J.stop i H2/\Q (.ref D) H2)\/(J.go i H2/\∃N:List V->St->Hp->Prop,(∀ys' τ' H',N ys' τ' H'->∃m',m'<m/\W (i+1) m' ys' τ' H')/\∀x H3,J.yld i H2 x H3->g x τ H3 fun τ' H4=>tt τ' H4 fun b H5 =>
   if b=true then te τ' H5 fun v H6=>H6 D=some (.lst ys)/\ys.length<sizeLine/\N (ys++[v]) τ' (upd H6 D (.lst (ys++[v])))
   else N ys τ' H5)
theorem block_loop {Y:Cx} {tg elt iter:Expr} {ifs:List Expr} {scope:Scope} {pos:Pos} {g:TG} {tt:TT} {te:TE} {J:It} {fp:List Addr} {it D:Addr} {tn:Nat->Heap->Prop} {P:List (Addr×Obj)} {W:Nat->Nat->List V->St->Hp->Prop} {m0:Nat}
  {R:Result->Shared->Prop} {QD:Hp->Prop} {s4:Shared} {τ0:St} {H4:Hp}
  (hc:Y.calm=true) (hx:∀e s,Y.xe e s->False) (hg:PG Y tg g) (ht:PTs Y ifs tt) (he:PE Y elt te) (T:Turn Y.prog Y.w Y.K tg J fp it tn)
  (stat:∀{H':Hp},(∀b∈fp,H' b=none)->∀b∈fp,FpOk Y P H' b)
  (turn:∀i m ys τ H2,W i m ys τ H2->(J.stop i H2/\QD H2)\/(J.go i H2/\∃N:List V->St->Hp->Prop,(∀ys' τ' H',N ys' τ' H'->∃m',m'<m/\W (i+1) m' ys' τ' H')/\∀x H3,J.yld i H2 x H3->g x τ H3 fun τ' H4=>tt τ' H4 fun b H5 =>
   if b=true then te τ' H5 fun v H6=>H6 D=some (.lst ys)/\ys.length<sizeLine/\N (ys++[v]) τ' (upd H6 D (.lst (ys++[v])))
   else N ys τ' H5))
  (fin:∀τ H' s',Inv Y P τ H' s'->QD H'->R (.ok .next) s')
  (I0:Inv Y P τ0 H4 s4) (t0:tn 0 s4.heap) (n0:∀b∈fp,H4 b=none) (w0:W 0 m0 [] τ0 H4) :
  codeAny (model Y.prog Y.w) Y.A (.compLoop (.ListComp elt [⟨tg,iter,ifs,0⟩] scope pos) 0 (.ref it) (.ref D) Y.env) R s4:=by
 have nx:∀{α:Type} {t:Sem α} {Q:α->Shared->Prop} {s:Shared},wpAny (model Y.prog Y.w) Y.A t Q Y.xe s->wpAny (model Y.prog Y.w) Y.A t Q (fun _ _=>False) s:=fun h=>wpAny_mono h (fun _ _ q=>q) hx
 refine comp_loop (fun n s'=>∃i ys τ H',Inv Y P τ H' s'/\tn i s'.heap/\(∀b∈fp,H' b=none)/\W i n ys τ H') ?_ m0 ⟨0,[],τ0,H4,I0,t0,n0,w0⟩
 rintro n s5 ⟨i,ys,τ,H5,I5,st5,fr5,w5⟩
 rcases turn i n ys τ H5 w5 with ⟨stop,q⟩| ⟨go,N,hN,step⟩
 ·refine thn (T.done Y rfl rfl rfl hc i P s5 τ H5 _ I5 (stat fr5) st5 stop) fun r s6 ⟨hr,I6⟩=>?_
  subst hr
  exact fin τ H5 s6 I6 q
 ·refine thn (T.item Y rfl rfl rfl hc i P s5 τ H5 _ I5 (stat fr5) st5 go) fun r s6 ⟨u,hr,h6⟩=>?_
  subst hr
  refine thn h6 fun _ s7 ⟨x,H7,I7,r7,y7,st7,fr7⟩=>?_
  have I7':=I7.pinned (stat fr7) (T.obj _ _ st7)
  refine nx (thn (hg _ s7 τ H7 x u _ I7' r7 (step x H7 y7)) fun _ s8 ⟨τ8,H8,I8,q8⟩=>?_)
  refine nx (thn (ht _ s8 τ8 H8 _ I8 q8) fun ok s9 ⟨H9,I9,q9⟩=>?_)
  have again:∀{ys':List V} {H':Hp} {s':Shared},Inv Y (P++zH8 fp s7.heap) τ8 H' s'->(∃m',m'<n/\W (i+1) m' ys' τ8 H')->∃m,m<n/\∃i ys τ H',Inv Y P τ H' s'/\tn i s'.heap/\(∀b∈fp,H' b=none)/\W i m ys τ H':=fun {ys' H' s'} I' ⟨m',hm,w'⟩=>by
   refine ⟨m',hm,i+1,ys',τ8,H',I'.unpinned,T.keep _ _ _ st7 fun b hb o e=>(I'.pin (b,o) (List.mem_append_right _ (List.mem_append_right _ (zCx hb e)))).1,fun b hb=>?_,w'⟩
   obtain ⟨o,e,d⟩:=T.obj _ _ st7 b hb
   exact (I'.pin (b,o) (List.mem_append_right _ (List.mem_append_right _ (zCx hb e)))).2.1
  cases ok with
  | false =>
   rw [if_neg Bool.false_ne_true] at q9 ⊢
   exact again I9 (hN _ _ _ q9)
  | true =>
   rw [if_pos rfl] at q9 ⊢
   refine nx (thn (he _ s9 τ8 H9 _ I9 q9) fun y s10 ⟨v,H10,I10,r10,hD,hz,w10⟩=>?_)
   refine nx (thn (zC4 (X:=Y) _ s10 τ8 H10 (.ref D) [v] (.ref D) [y] (fun _ H'=>H'=upd H10 D (.lst (ys++[v]))) I10 rfl (.cons r10 .nil) ⟨D,ys,v,rfl,rfl,hD,hz,rfl⟩) fun _ s11 ⟨z,H11,I11,_,e11⟩=>?_)
   subst e11
   exact again I11 (hN _ _ _ w10)
theorem run_comp {X:Cx} {elt tg iter:Expr} {ifs:List Expr} {scope:Scope} {pos p1:Pos} {N:List Str} {ix:List (Option Nat)} {wi:TI} {g:TG} {tt:TT} {te:TE} {pins:List (Addr×Obj)} {s:Shared} {σ:St} {H:Hp} {Q:VK} {use:Option (Value->Sem Unit)}
  {Z:Value->Shared->Prop}
  (hc:X.calm=true) (B:BlkSc X scope) (Dr:Draws X scope N ix) (hi:PI X tg iter wi)
  (hg:∀C s₀ H₀ ex,PG (X.block scope C s₀ H₀ ex N) tg g) (ht:∀C s₀ H₀ ex,PTs (X.block scope C s₀ H₀ ex N) ifs tt) (he:∀C s₀ H₀ ex,PE (X.block scope C s₀ H₀ ex N) elt te)
  (hs:∀x,foldedSetIterable iter X.env x=pure x)
  (I:Inv X pins σ H s) (h:tComp wi ix g tt te σ H Q)
  (fin:∀(D C:Addr) (H':Hp) (s':Shared) (m:Str->Option Value),Inv X pins σ H' s'->Q (.ref D) H'->s'.heap.Ns C m->(∀h',Heap.SameBut C s'.heap h'->Inv X pins σ H' {s' with heap:=h'})->C≠X.env.locals->(∀x c,X.env.cells.lookup x=some c->c≠C)->H' C=none ->
   (∀p∈X.pn++pins,p.1≠C)->X.s₀.heap.objs.size<=C->compPost (model X.prog X.w) X.A X.xe use Z (.ref D) C (.ok .next) s') :
  wpAny (model X.prog X.w) X.A (comprehension (.ListComp elt [⟨tg,iter,ifs,0⟩] scope pos) scope X.env p1 (newList []) false (eval iter X.env) use) Z X.xe s:=by
 have hfree:∀x∈scope.names,x.2= .free->∃c,X.env.cells.lookup x.1=some c:=fun x hx e=>I.ok.has _ (B.free x hx e)
 refine wpAny_comprehension_free (use:=use) rfl hs (zFs hfree) B.kind B.locs ?_
 refine thn (hi pins s σ H _ I h) fun v s1 h1=>thn h1 fun itv s2 h2=>?_
 obtain ⟨it,fp,tn,J,H2,e,I2,T,st2,f2,R⟩:=h2
 subst e
 have hDf:H2 s2.heap.objs.size=none:=I2.hok.fresh (Nat.le_refl _)
 obtain ⟨W,⟨m0,w0⟩,turn⟩:=R _ hDf
 refine wpAny_newObj_type ?_ (by show (0:Nat)<=sizeLine;exact Nat.zero_le _)
 have I3:Inv X pins σ (upd H2 s2.heap.objs.size (.lst [])) {s2 with heap:=s2.heap.push {cls:=.type "list",data:=.seq ([]:List Value).toArray}}:=I2.lnew (t':=s2.toks) (ys:=[]) (its:=[]) .nil (Nat.zero_le _)
 generalize hD:s2.heap.objs.size=D at *
 have fpo:∀b∈fp,∃o,s2.heap.get? b=some o:=fun b hb=>let ⟨o,q,_⟩:=T.obj _ _ st2 b hb;⟨o,q⟩
 have fpD:∀b∈fp,b≠D:=fun b hb=>by
  obtain ⟨o,q⟩:=fpo b hb
  rw [<-hD];exact Nat.ne_of_lt (Heap.lt_size q)
 have f3:∀b∈fp,FpOk X pins (upd H2 D (.lst [])) b:=fun b hb=>⟨by rw [upd_ne (fpD b hb)];exact (f2 b hb).1,(f2 b hb).2⟩
 generalize hs3:({s2 with heap:=s2.heap.push {cls:=.type "list",data:=.seq ([]:List Value).toArray}}:Shared)=s3 at I3 ⊢
 have k23:∀b o,s2.heap.get? b=some o->s3.heap.get? b=some o:=fun b o q=>by rw [<-hs3];exact Heap.get?_push_of_some _ q
 have fpo3:∀b∈fp,∃o,s3.heap.get? b=some o:=fun b hb=>let ⟨o,q⟩:=fpo b hb;⟨o,k23 b o q⟩
 have st3:tn 0 s3.heap:=T.keep _ _ _ st2 fun b hb o q=>k23 b o q
 refine zC6 ?_
 have k34:∀b o,s3.heap.get? b=some o->(pushCells (s3.heap.push {cls:=.type "dict",data:=.dict #[]}) scope.names).get? b=some o:=fun b o q=>pushCells_keeps _ _ b o (Heap.get?_push_of_some _ q)
 have hns4:(pushCells (s3.heap.push {cls:=.type "dict",data:=.dict #[]}) scope.names).Ns s3.heap.objs.size (fun _=>none):=(Heap.Ns.new s3.heap (.type "dict")).keeps (pushCells_keeps _ _)
 have hcl4:∀x c,(cellsFrom (s3.heap.objs.size+1) scope.names (clOf X.env scope.names [])).lookup x=some c->∃v,(pushCells (s3.heap.push {cls:=.type "dict",data:=.dict #[]}) scope.names).IsCell c v:=fun x c e=>by
  refine zCi (h:=s3.heap.push {cls:=.type "dict",data:=.dict #[]}) (acc:=clOf X.env scope.names []) (fun y d hy=>?_) (by rw [Heap.size_push];exact e)
  obtain ⟨v,o,ho,hd⟩:=I3.cell y d (zDh (fun y d z=>by simp at z) hy)
  exact ⟨v,o,Heap.get?_push_of_some _ ho,hd⟩
 have IB:=I3.blockStart (tk:=s3.toks) B Dr f3 fpo3 hns4 k34 hcl4
 generalize hh4:pushCells (s3.heap.push {cls:=.type "dict",data:=.dict #[]}) scope.names=h4 at *
 generalize hC:s3.heap.objs.size=C at *
 have hCX:X.s₀.heap.objs.size<=C:=by rw [<-hC];exact I3.sz
 have CL:C≠X.env.locals:=by rw [<-hC];exact Nat.ne_of_gt I3.lt
 have Cc:∀x c,X.env.cells.lookup x=some c->c≠C:=fun x c q=>by
  obtain ⟨v,o,ho,_⟩:=I3.cell x c q
  rw [<-hC];exact Nat.ne_of_lt (Heap.lt_size ho)
 have Cp:∀p∈X.pn++pins,p.1≠C:=fun p hp=>by
  rw [<-hC];exact Nat.ne_of_lt (Heap.lt_size (I3.pin p hp).1)
 have fpC:∀b∈fp,b≠C:=fun b hb=>by
  obtain ⟨o,q⟩:=fpo3 b hb
  rw [<-hC];exact Nat.ne_of_lt (Heap.lt_size q)
 have stat:∀{H':Hp},(∀b∈fp,H' b=none)->∀b∈fp,FpOk (X.block scope C s3 (upd H2 D (.lst [])) fp N) (X.pn++pins) H' b:=fun {H'} hn b hb=>by
  obtain ⟨_,q1,q2,q3,q4,q5⟩:=f2 b hb
  exact ⟨hn b hb,fpC b hb,I3.nostk q1 q2,.inl hb,fun x c e=>(zB3 e).elim (fun z=>q4 x c (zDh (fun y d z=>by simp at z) z)) (fun z=>by obtain ⟨o,q⟩:=fpo3 b hb;have:=Heap.lt_size q;rw [hC] at this;exact Nat.ne_of_gt (Nat.lt_of_lt_of_le (Nat.lt_succ_of_lt this) z.1)),fun p hp=>q5 p (by simpa [Cx.block] using hp)⟩
 have st4:tn 0 h4:=T.keep _ _ _ st3 fun b hb o q=>k34 b o q
 have n4:∀b∈fp,(upd H2 D (.lst [])) b=none:=fun b hb=>(f3 b hb).1
 have loop:=block_loop (Y:=X.block scope C s3 (upd H2 D (.lst [])) fp N) (iter:=iter) (pos:=pos) (scope:=scope) (D:=D) (R:=compPost (model X.prog X.w) X.A X.xe use Z (.ref D) C) hc (fun _ _ z=>z) (hg C s3 _ fp) (ht C s3 _ fp) (he C s3 _ fp) T stat turn
  (fun τ H' s' I' q=>by
   have I5:Inv X pins σ H' s':=I3.call' (ch:=fp) I'.os I'.base I'.hok I'.bare fun b hb=>by
    obtain ⟨_,q1,q2,q3,q4,q5⟩:=f2 b hb
    exact ⟨q3,q1,q4,q5⟩
   obtain ⟨m,hn,_⟩:=I'.loc
   have hC0:H' C=none:=I'.free
   exact fin D C H' s' m I5 q hn (fun h'' hs''=>I5.turned (t':=s'.toks) (fun b o hb e=>hs''.extBut b o hb e) hC0 CL (.inr hCX) Cc Cp) CL Cc hC0 Cp hCX) IB st4 n4 w0
 exact codeAny_compStart_list loop (T.self _ 0 _ _ _ st4 loop)
theorem zBz {X:Cx} {elt tg iter:Expr} {ifs:List Expr} {scope:Scope} {pos:Pos} {N:List Str} {ix:List (Option Nat)} {wi:TI} {g:TG} {tt:TT} {te:TE} (hc:X.calm=true) (B:BlkSc X scope) (Dr:Draws X scope N ix) (hi:PI X tg iter wi)
  (hg:∀C s₀ H₀ ex,PG (X.block scope C s₀ H₀ ex N) tg g) (ht:∀C s₀ H₀ ex,PTs (X.block scope C s₀ H₀ ex N) ifs tt) (he:∀C s₀ H₀ ex,PE (X.block scope C s₀ H₀ ex N) elt te)
  (hs:∀x,foldedSetIterable iter X.env x=pure x:=by intro _;rfl):PE X (.ListComp elt [⟨tg,iter,ifs,0⟩] scope pos) (tComp wi ix g tt te):=by
 intro pins s σ H Q I h
 rw [eval_ListComp]
 exact run_comp (use:=none) hc B Dr hi hg ht he hs I h fun D C H' s' m I' q hn k _ _ _ _ _=>⟨m,hn,fun h' hs'=>⟨.ref D,H',k h' hs',rfl,q⟩⟩
theorem zI1 {X:Cx} {elt tg iter:Expr} {ifs:List Expr} {scope:Scope} {pos spos py:Pos} {N:List Str} {ix:List (Option Nat)} {wi:TI} {g:TG} {tt:TT} {te:TE} {i:Nat} {y:Str} (hc:X.calm=true) (B:BlkSc X scope) (Dr:Draws X scope N ix) (hi:PI X tg iter wi)
  (hg:∀C s₀ H₀ ex,PG (X.block scope C s₀ H₀ ex N) tg g) (ht:∀C s₀ H₀ ex,PTs (X.block scope C s₀ H₀ ex N) ifs tt) (he:∀C s₀ H₀ ex,PE (X.block scope C s₀ H₀ ex N) elt te)
  (hN:X.N.Nodup) (hy:X.N[i]?=some y) (hl:X.env.scope.names.lookup y=some .local)
  (hsw:swapsWith (.ListComp elt [⟨tg,iter,ifs,0⟩] scope pos) (some (.Name y py)) spos.line X.env=pure true:=by rfl)
  (hs:∀x,foldedSetIterable iter X.env x=pure x:=by intro _;rfl):PS X (.Assign [.Name y py] (.ListComp elt [⟨tg,iter,ifs,0⟩] scope pos) spos) (tAsg (tComp wi ix g tt te) (gName i)):=by
 intro pins s σ H Dn I h
 rw [exec_Assign_Name_used _ _ _ _ hsw]
 refine wpAny_bind (wpAny_standAt (wpAny_bind ?_))
 show wpAny _ X.A (do let _<-comprehension (.ListComp elt [⟨tg,iter,ifs,0⟩] scope pos) scope X.env _ (newList []) false (eval iter X.env) (some (assign (.Name y py) X.env))) _ _ s
 refine wpAny_bind (thn (run_comp (use:=some (assign (.Name y py) X.env)) (Z:=fun _ s'=>SP X pins Dn .next s') hc B Dr hi hg ht he hs I h fun D C H' s' m I' q hn k CL Cc C0 Cp CX=>?_) fun _ s' hq=>wpAny_pure (wpAny_pure hq))
 show wpAny _ _ (assign (.Name y py) X.env (.ref D)) _ _ s'
 refine wpAny_assign_Name (zGt I' hN hy (.inl hl) (v:=.ref D) rfl (fun s'' I'' ⟨a,sb,ha⟩=>?_) (.inr hl))
 have aC:C≠a:=by
  rcases ha with z| z
  ·rw [z];exact CL
  ·exact (Cc _ _ z).symm
 exact ⟨m,hn.sameBut sb aC,fun h' hs'=>⟨_,H',I''.turned (t':=s''.toks) (fun b o hb e=>hs'.extBut b o hb e) C0 CL (.inr CX) Cc Cp,q⟩⟩
theorem comp_by {J:It} {ix:List (Option Nat)} {g:TG} {tt:TT} {te:TE} {Q:VK} {σ:St} {H1:Hp} {D:Addr} (xs:List V) (Pv:Nat->List V->St->Hp->Prop) (h0:Pv 0 [] (zCf σ ix) (upd H1 D (.lst [])))
  (hJ:∀i ys τ H,Pv i ys τ H->(∀x,xs[i]?=some x->J.go i H/\∀y H',J.yld i H y H'->H'=H/\y=x)/\(i=xs.length->J.stop i H))
  (hs:∀i x ys τ H,xs[i]?=some x->Pv i ys τ H->g x τ H fun τ' H4=>tt τ' H4 fun b H5=>if b=true then te τ' H5 fun v H6=>H6 D=some (.lst ys)/\ys.length<sizeLine/\Pv (i+1) (ys++[v]) τ' (upd H6 D (.lst (ys++[v]))) else Pv (i+1) ys τ' H5)
  (hd:∀ys τ H,Pv xs.length ys τ H->Q (.ref D) H) :
  ∃W:Nat->Nat->List V->St->Hp->Prop,(∃m,W 0 m [] (zCf σ ix) (upd H1 D (.lst [])))/\∀i m ys τ H2,W i m ys τ H2 ->
   (J.stop i H2/\Q (.ref D) H2)\/(J.go i H2/\∃N:List V->St->Hp->Prop,(∀ys' τ' H',N ys' τ' H'->∃m',m'<m/\W (i+1) m' ys' τ' H')/\∀x H3,J.yld i H2 x H3->g x τ H3 fun τ' H4=>tt τ' H4 fun b H5 =>
    if b=true then te τ' H5 fun v H6=>H6 D=some (.lst ys)/\ys.length<sizeLine/\N (ys++[v]) τ' (upd H6 D (.lst (ys++[v])))
    else N ys τ' H5):=by
 refine ⟨fun i m ys τ H=>m=xs.length - i/\i<=xs.length/\Pv i ys τ H,⟨xs.length,by simp,Nat.zero_le _,h0⟩,?_⟩
 rintro i m ys τ H ⟨rfl,hi,p⟩
 obtain ⟨j1,j2⟩:=hJ i ys τ H p
 by_cases hlt:i<xs.length
 ·have hx:xs[i]?=some xs[i]:=by simp [hlt]
  obtain ⟨go,yl⟩:=j1 _ hx
  refine .inr ⟨go,Pv (i+1),fun ys' τ' H' p'=>⟨xs.length - (i+1),by omega,rfl,hlt,p'⟩,fun y H' yd=>?_⟩
  obtain ⟨e1,e2⟩:=yl y H' yd
  subst e1 e2
  exact hs i _ ys τ _ hx p
 ·have e:i=xs.length:=by omega
  subst e
  exact .inl ⟨j2 rfl,hd ys τ H p⟩
def blkOk (scope sc:Scope):Bool:=(scope.kind== .function)&&(scope.names.all (fun y=>scope.names.all fun z=>y.2 != .cell||z.2 != .free||y.1 != z.1)&&scope.names.all (fun y=>y.2 != .cell||scope.names.lookup y.1==some .cell))&&scope.names.all (fun y=>y.2 != .free||sc.names.lookup y.1==some .cell||sc.names.lookup y.1==some .free)&&scope.names.all (fun y=>y.2 != .local||scope.names.lookup y.1==some .local)
theorem zB4 {X:Cx} {scope sc:Scope} (hsc:X.env.scope=sc) (h:blkOk scope sc=true):BlkSc X scope:=by
 unfold blkOk at h
 simp only [Bool.and_eq_true,List.all_eq_true,Bool.or_eq_true] at h
 obtain ⟨⟨⟨h1,h2,h5⟩,h3⟩,h4⟩:=h
 refine ⟨by simpa using h1,fun y hy z hz e1 e2=>?_,fun y hy e=>?_,fun y hy e=>?_,fun y hy e=>?_⟩
 ·rcases h2 y hy z hz with (q| q)| q
  ·rw [e1] at q;simp at q
  ·rw [e2] at q;simp at q
  ·simpa using q
 ·rcases h5 y hy with q| q
  ·rw [e] at q;simp at q
  ·simpa using q
 ·have q:=h3 y hy
  show X.env.scope.names.lookup y.1=some .cell\/X.env.scope.names.lookup y.1=some .free
  rw [hsc]
  rcases q with (q| q)| q
  ·rw [e] at q;simp at q
  ·exact .inl (by simpa using q)
  ·exact .inr (by simpa using q)
 ·have q:=h4 y hy
  rcases q with q| q
  ·rw [e] at q;simp at q
  ·simpa using q
def relS (scope sc:Scope):Scope:={scope with names:=scope.names.map fun (n,k)=>if (k== .free&&sc.kind== .function&&sc.names.lookup n==some .cell) then (n,.cell) else (n,k)}
theorem blk_in {X:Cx} {e0:Env} {outer scope sc:Scope} (hX:X.env.scope=relabel outer e0) (h0:e0.scope=sc) (h:blkOk scope (relS outer sc)=true):BlkSc X scope :=
 zB4 (sc:=relS outer sc) (by rw [hX];subst h0;rfl) h
def Its (z:Str):It:=⟨fun i _=>i<z.cps.size,fun i H x H'=>H'=H/\∃c,z.cps[i]?=some c/\x= .str ⟨#[c]⟩,fun i _=>z.cps.size<=i⟩
theorem turn_str {P:Program} {w:World} {K:PySem.W.Frag} {tg:Expr} (it:Addr) (z:Str) (t:Tok) (ty:String) (hty:ty= "str_ascii_iterator" \/ty= "str_iterator"):Turn P w K tg (Its z) [it] it (fun i h=>h.IsStrIter it ty z t i) where
 mem:=by simp
 obj:=fun i h st b hb=>by
  have e:b=it:=by simpa using hb
  subst e
  obtain ⟨o,e,c,d⟩:=st
  exact ⟨o,e,fun v z=>by rw [d] at z;cases z⟩
 keep:=fun i h h' st k=>by
  obtain ⟨o,e,c,d⟩:=st
  exact ⟨o,k it (by simp) o e,c,d⟩
 item:=by
  intro X hP hw hK hc i pins s σ H E I hf st hg
  subst hP hw hK
  obtain ⟨f0,f1,f2,f3,f4,f5⟩:=hf it (by simp)
  have hlt:i<z.cps.size:=hg
  have hx:z.cps[i]?=some z.cps[i]:=by simp [hlt]
  have fin:∀h':Heap,h'.IsStrIter it ty z t (i+1)->Heap.SameBut it s.heap h'->∃u,some (Value.str ⟨#[z.cps[i]]⟩ s.toks)=some u /\
    wpAny (model X.prog X.w) X.A (letOwnedTupleGo tg (.ref it) u) (fun _ s2=>∃x H',Inv X pins σ H' s2/\RelV x u/\(Its z).yld i H x H'/\s2.heap.IsStrIter it ty z t (i+1)/\∀b∈[it],H' b=none) E {s with heap:=h',toks:=s.toks+1}:=fun h' st' sb=>by
   have I1:Inv X pins σ H {s with heap:=h',toks:=s.toks+1}:=I.turned (t':=s.toks+1) (fun b o hb e=>(sb.2 b hb).trans e) f0 f1 f3 f4 f5
   obtain ⟨o,e,c,d⟩:=id st'
   exact ⟨_,rfl,go_of (s:={s with heap:=h',toks:=s.toks+1}) e c d (by rcases hty with rfl| rfl<;>decide) ⟨.str ⟨#[z.cps[i]]⟩,H,I1,⟨_,rfl⟩,⟨rfl,_,hx,rfl⟩,st',fun b hb=>(hf b hb).1⟩⟩
  rcases hty with rfl| rfl
  ·exact wpAny_pyNext_ascii_item st hx fin
  ·exact wpAny_pyNext_wide_item st hx fin
 done:=by
  intro X hP hw hK hc i pins s σ H E I hf st hg
  subst hP hw hK
  obtain ⟨f0,f1,f2,f3,f4,f5⟩:=hf it (by simp)
  have hle:z.cps.size<=i:=hg
  have hx:z.cps[i]?=none:=by simp [hle]
  have fin:∀h':Heap,Heap.ExtBut it s.heap h'->(none:Option Value)=none/\Inv X pins σ H {s with heap:=h'}:=fun h' eb=>⟨rfl,I.turned (t':=s.toks) (fun b o hb e=>eb b o hb e) f0 f1 f3 f4 f5⟩
  rcases hty with rfl| rfl
  ·exact wpAny_pyNext_ascii_end (I.ok.hd hc) st hx fin
  ·exact wpAny_pyNext_wide_end (I.ok.hd hc) st hx fin
 self:=fun _ _ _ _ _ st h=>by
  rcases hty with rfl| rfl
  ·exact wpAny_pyIter_striter_ascii st h
  ·exact wpAny_pyIter_striter_wide st h
def iStr (tl:TE):TI:=fun σ H R=>tl σ H fun x H1=>∃z,x= .str z/\R (Its z) H1
theorem pi_str {X:Cx} {tg l:Expr} {tl:TE} (hl:PE X l tl):PI X tg l (iStr tl):=by
 intro pins s σ H R I h
 refine thn (hl pins s σ H _ I h) fun v s1 ⟨x,H1,I1,r1,q1⟩=>?_
 obtain ⟨z,e,q⟩:=q1
 subst e
 obtain ⟨t,rfl⟩:=r1
 have fin:∀(ty:String),(ty= "str_ascii_iterator" \/ty= "str_iterator")->PIE X pins σ tg R (.ref s1.heap.objs.size) {s1 with heap:=s1.heap.push {cls:=.type ty,data:=.fields #[.str z t,.int 0 0]}}:=fun ty hty =>
  ⟨s1.heap.objs.size,[s1.heap.objs.size],_,_,H1,rfl,I1.kept (t':=s1.toks) fun b o e=>Heap.get?_push_of_some _ e,turn_str _ z t ty hty,⟨_,Heap.get?_push_size _ rfl,rfl,rfl⟩,fun b hb=>by
   have e:b=s1.heap.objs.size:=by simpa using hb
   subst e
   exact I1.fpOk (Nat.le_refl _) (I1.hok.fresh (Nat.le_refl _)),q⟩
 cases ha:z.cps.all (·<128)
 ·exact wpAny_pyIter_wide ha (fin _ (.inr rfl))
 ·exact wpAny_pyIter_ascii ha (fin _ (.inl rfl))
theorem bls_get {bs:List Bool} {its:List Value} (r:Vals (bs.map V.bl) its) {i:Nat} {v:Value} (h:its[i]?=some v):v= .bool (bs.getD i false)/\i<bs.length:=by
 have hl:=r.length
 rw [List.length_map] at hl
 have hi:i<its.length:=(List.getElem?_eq_some_iff.mp h).1
 have hb:i<bs.length:=by omega
 have e:(bs.map V.bl)[i]?=some (V.bl bs[i]):=by simp [hb]
 obtain ⟨u,hu,ru⟩:=r.get e
 rw [h] at hu
 cases hu
 refine ⟨?_,hb⟩
 have:v= .bool bs[i]:=ru
 rw [this,List.getD_eq_getElem?_getD]
 simp [hb]
theorem all_range (bs:List Bool):(List.range bs.length).all (fun i=>bs.getD i false)=bs.all id:=by
 rw [Bool.eq_iff_iff]
 simp only [List.all_eq_true,List.mem_range]
 constructor
 ·intro h x hx
  obtain ⟨i,hi,rfl⟩:=List.mem_iff_getElem.mp hx
  have:=h i hi
  simpa [List.getD_eq_getElem?_getD,hi] using this
 ·intro h i hi
  have:=h bs[i] (List.getElem_mem hi)
  simpa [List.getD_eq_getElem?_getD,hi] using this
theorem any_range (bs:List Bool):(List.range bs.length).any (fun i=>bs.getD i false)=bs.any id:=by
 rw [Bool.eq_iff_iff]
 simp only [List.any_eq_true,List.mem_range]
 constructor
 ·rintro ⟨i,hi,h⟩
  exact ⟨bs[i],List.getElem_mem hi,by simpa [List.getD_eq_getElem?_getD,hi] using h⟩
 ·rintro ⟨x,hx,h⟩
  obtain ⟨i,hi,rfl⟩:=List.mem_iff_getElem.mp hx
  exact ⟨i,hi,by simpa [List.getD_eq_getElem?_getD,hi] using h⟩
theorem zD2 (X:Cx) (hc:X.calm=true):zCr X (.builtin "all") (fun xs H Q=>∃(p:Addr) (bs:List Bool),xs=[.ref p]/\SqL X.K H p (bs.map V.bl)/\Q (.bl (bs.all id)) H):=by
 intro pins s σ H xs us Q I rv h
 obtain ⟨p,bs,rfl,hq,q⟩:=h
 obtain ⟨u,rfl,ru⟩:=rv.one
 cases ru
 obtain ⟨its,r,pl,hz⟩:=I.list hq
 have hl:=r.length
 rw [List.length_map] at hl
 refine call_all_walk (wpAny_pyIter_list pl.isList ?_)
 have hp:p<s.heap.objs.size:=by obtain ⟨o,n,e,_⟩:=pl;exact Heap.lt_size e
 have I1:Inv X pins σ H {s with heap:=s.heap.push {cls:=.type "list_iterator",data:=.fields #[.ref p,.int 0 0]}}:=I.kept (t':=s.toks) fun b o e=>Heap.get?_push_of_some _ e
 refine ⟨s.heap.objs.size,_,_,_,_,_,fun i=>bs.getD i false,rfl,Walks.list (A:=X.A.in1) (show X.A.in1.handled=none from I.ok.hd hc) s.heap.objs.size p (Nat.ne_of_lt hp) its.toArray,⟨⟨_,Heap.get?_push_size _ rfl,rfl,rfl⟩,pl.isList.at fun o e=>Heap.get?_push_of_some _ e⟩,?_,fun h' tk hk=>?_⟩
 ·intro i v s' E' Q' hv hq'
  obtain ⟨rfl,_⟩:=bls_get r (by simpa using hv)
  exact wpAny_truthy_bool hq'
 ·have e:(List.range its.toArray.size).all (fun i=>bs.getD i false)=bs.all id:=by
   rw [List.size_toArray,<-hl];exact all_range bs
  refine ⟨.bl (bs.all id),H,?_,by rw [e];rfl,q⟩
  obtain ⟨f0,f1,f2,f3,f4,f5⟩:=I.fpOk (b:=s.heap.objs.size) (Nat.le_refl _) (I.hok.fresh (Nat.le_refl _))
  exact I1.turned (t':=tk) (fun b o hb e=>hk b o (by simpa using hb) e) f0 f1 f3 f4 f5
theorem call_any (X:Cx) (hc:X.calm=true):zCr X (.builtin "any") (fun xs H Q=>∃(p:Addr) (bs:List Bool),xs=[.ref p]/\SqL X.K H p (bs.map V.bl)/\Q (.bl (bs.any id)) H):=by
 intro pins s σ H xs us Q I rv h
 obtain ⟨p,bs,rfl,hq,q⟩:=h
 obtain ⟨u,rfl,ru⟩:=rv.one
 cases ru
 obtain ⟨its,r,pl,hz⟩:=I.list hq
 have hl:=r.length
 rw [List.length_map] at hl
 refine call_any_walk (wpAny_pyIter_list pl.isList ?_)
 have hp:p<s.heap.objs.size:=by obtain ⟨o,n,e,_⟩:=pl;exact Heap.lt_size e
 have I1:Inv X pins σ H {s with heap:=s.heap.push {cls:=.type "list_iterator",data:=.fields #[.ref p,.int 0 0]}}:=I.kept (t':=s.toks) fun b o e=>Heap.get?_push_of_some _ e
 refine ⟨s.heap.objs.size,_,_,_,_,_,fun i=>bs.getD i false,rfl,Walks.list (A:=X.A.in1) (show X.A.in1.handled=none from I.ok.hd hc) s.heap.objs.size p (Nat.ne_of_lt hp) its.toArray,⟨⟨_,Heap.get?_push_size _ rfl,rfl,rfl⟩,pl.isList.at fun o e=>Heap.get?_push_of_some _ e⟩,?_,fun h' tk hk=>?_⟩
 ·intro i v s' E' Q' hv hq'
  obtain ⟨rfl,_⟩:=bls_get r (by simpa using hv)
  exact wpAny_truthy_bool hq'
 ·have e:(List.range its.toArray.size).any (fun i=>bs.getD i false)=bs.any id:=by
   rw [List.size_toArray,<-hl];exact any_range bs
  refine ⟨.bl (bs.any id),H,?_,by rw [e];rfl,q⟩
  obtain ⟨f0,f1,f2,f3,f4,f5⟩:=I.fpOk (b:=s.heap.objs.size) (Nat.le_refl _) (I.hok.fresh (Nat.le_refl _))
  exact I1.turned (t':=tk) (fun b o hb e=>hk b o (by simpa using hb) e) f0 f1 f3 f4 f5
theorem zCj {X:Cx}:zCr X (.builtin "isinstance") (fun xs H Q=>∃x n t b,xs=[x,.ty n]/\TyOf X.K H x t/\PySem.W.kitOne X.K t (.type n)=some b/\Q (.bl b) H):=by
 intro pins s σ H xs us Q I rv h
 obtain ⟨x,n,t,b,rfl,ty,e,q⟩:=h
 obtain ⟨u,c,rfl,rx,rc⟩:=rv.two
 cases (show c=Value.type n from rc)
 exact isinst_ok I rx ty e fun tk=>⟨.bl b,H,I.tok tk,rfl,q⟩
theorem call_isC {X:Cx}:zCr X (.builtin "isinstance") (fun xs H Q=>∃x C t b,xs=[x,.ref C]/\TyOf X.K H x t/\PySem.W.kitOne X.K t (.ref C)=some b/\Q (.bl b) H):=by
 intro pins s σ H xs us Q I rv h
 obtain ⟨x,n,t,b,rfl,ty,e,q⟩:=h
 obtain ⟨u,c,rfl,rx,rc⟩:=rv.two
 cases (show c=Value.ref n from rc)
 exact isinst_ok I rx ty e fun tk=>⟨.bl b,H,I.tok tk,rfl,q⟩
theorem op_le_str {X:Cx}:OpR X (compareOp .LtE) (fun x y H Q=>∃i j,x= .str i/\y= .str j/\Q (.bl (!(decide (j.cps.toList<i.cps.toList)))) H):=by
 intro pins s σ H x y v u Q I rx ry h
 obtain ⟨i,j,rfl,rfl,q⟩:=h
 obtain ⟨t,rfl⟩:=rx
 obtain ⟨t',rfl⟩:=ry
 exact PySem.P.le_str ⟨.bl _,H,I,rfl,q⟩
theorem zH0:∀{ts:List Str} {us:List Value},Vals (ts.map V.str) us->StrsAre us ts
 | [],_,.nil=>.nil
 | t::ts,_,.cons r rr=>by
  obtain ⟨tk,rfl⟩:=r
  exact .cons _ _ (zH0 rr)
def rJoin (K:PySem.W.Frag):V->List V->Hp->VK->Prop:=fun x vs H Q=>∃sep p ts,x= .str sep/\vs=[.ref p]/\SqL K H p (ts.map V.str)/\(ts.map (·.length)).sum+ts.length*sep.length<=16777216/\Q (.str (Txt.join sep ts)) H
theorem mt_join {X:Cx}:MtR X "str.join" (rJoin X.K):=by
 intro pins s σ H x vs v us Q I rx rv h
 obtain ⟨sep,p,ts,rfl,rfl,hq,hz,q⟩:=h
 obtain ⟨t,rfl⟩:=rx
 obtain ⟨u,rfl,ru⟩:=rv.one
 cases ru
 obtain ⟨its,r,pl,_⟩:=I.list hq
 exact PyProof.Rows.join_list pl.isList (by simpa using zH0 r) hz fun t' k=>⟨.str _,H,I.tok k,⟨_,rfl⟩,q⟩
theorem zFa:∀(k:Nat) (ts:List Str),Vals (ts.map V.str) (strsFrom k ts)
 | _,[]=>.nil
 | k,t::ts=>.cons ⟨k,rfl⟩ (zFa (k+1) ts)
def rSplit:V->List V->Hp->VK->Prop:=fun x vs H Q=>∃z sep,x= .str z/\vs=[.str sep]/\1<=sep.length/\z.length<=1000000/\∀l,H l=none->Q (.ref l) (upd H l (.lst ((Txt.split z sep).map V.str)))
theorem zEn {X:Cx}:MtR X "str.split" rSplit:=by
 intro pins s σ H x vs v us Q I rx rv h
 obtain ⟨z,sep,rfl,rfl,h1,hz,q⟩:=h
 obtain ⟨t,rfl⟩:=rx
 obtain ⟨u,rfl,ru⟩:=rv.one
 obtain ⟨t',rfl⟩:=ru
 have hs:sizeLine=16777216:=sizeLine_eq
 have hle:=PyProof.Rows.split_le z sep
 have hy:(sep.length==0)=false:=by simp;omega
 have key:∀{its:List Value} {tk:Nat},Vals ((Txt.split z sep).map V.str) its->EP X pins σ Q (.ref s.heap.objs.size) {s with heap:=s.heap.push {cls:=.type "list",data:=.seq its.toArray},toks:=tk}:=fun {its tk} r =>
  ⟨.ref s.heap.objs.size,_,I.lnew (t':=tk) r (by rw [List.length_map,hs];omega),rfl,q _ (I.hok.fresh (Nat.le_refl _))⟩
 cases e1:(decide (z.length<sep.length)||decide (Builtin.Str.strKind z<Builtin.Str.strKind sep))
 ·cases hf:(Builtin.Str.occurrences z sep 0 z.length (z.length+1)).isEmpty
  ·have e:Txt.split z sep=Builtin.Str.partsBetween z (Builtin.Str.occurrences z sep 0 z.length (z.length+1)) sep.length:=(if_neg (ne_true_of_eq_false e1)).trans (if_neg (ne_true_of_eq_false hf))
   refine call_meets F.slot_str_split (typeIs_str _ _ _) F.entry_str_split (F.args_str_split_2 _ _) (meets_str_split_sep z sep t t' e1 hy hf (by omega) (by rw [<-e,hs];omega)) ?_
   rw [<-e]
   exact key (zFa _ _)
  ·have e:Txt.split z sep=[z]:=(if_neg (ne_true_of_eq_false e1)).trans (if_pos hf)
   refine call_meets F.slot_str_split (typeIs_str _ _ _) F.entry_str_split (F.args_str_split_2 _ _) (meets_str_split_not_found z sep t t' e1 hy hf) ?_
   rw [e] at key
   exact key (its:=[.str z t]) (tk:=s.toks) (.cons ⟨t,rfl⟩ .nil)
 ·have e:Txt.split z sep=[z]:=if_pos e1
  refine call_meets F.slot_str_split (typeIs_str _ _ _) F.entry_str_split (F.args_str_split_2 _ _) (meets_str_split_cannot_occur z sep t t' e1) ?_
  rw [e] at key
  exact key (its:=[.str z t]) (tk:=s.toks) (.cons ⟨t,rfl⟩ .nil)
inductive Alike (K:PySem.W.Frag) (H:Hp):Nat->V->V->Prop
 | flat {n:Nat} {x:V} (fx:zE9 x=true):Alike K H n x x
 | same {n:Nat} {a:Addr}:Alike K H n (.ref a) (.ref a)
 | lists {n:Nat} {a b:Addr} {xs ys:List V} (hx:SqL K H a xs) (hy:SqL K H b ys) (hl:xs.length=ys.length) (he:∀(i:Nat) (x y:V),xs[i]?=some x->ys[i]?=some y->Alike K H n x y):Alike K H (n+1) (.ref a) (.ref b)
 | tups {n:Nat} {a b:Addr} {xs ys:List V} (hx:SqT K H a xs) (hy:SqT K H b ys) (hl:xs.length=ys.length) (he:∀(i:Nat) (x y:V),xs[i]?=some x->ys[i]?=some y->Alike K H n x y):Alike K H (n+1) (.ref a) (.ref b)
theorem eqV_refl {x:V} (h:zE9 x=true):eqV x x=true:=by
 cases x<;>simp [eqV]<;>simp [zE9] at h
section
variable {X:Cx} {pins:List (Addr×Obj)} {σ:St} {H:Hp} {s:Shared}
theorem zGp (n:Nat):(List.range n).all (fun _=>true)=true:=by simp
theorem alike_at (I:Inv X pins σ H s) {n:Nat} {x y:V} (h:Alike X.K H n x y):∀{u v:Value} {A:Around},RelV x u->RelV y v->A.units+n<cLine->SeqAt.EqAt A s u v true:=by
 induction h with
 | flat fx =>
  intro u v A ru rv _
  have q:=eqAt_V (A:=A) (s:=s) ru rv fx fx
  rwa [eqV_refl fx] at q
 | same =>
  intro u v A ru rv _
  cases ru
  cases rv
  exact SeqAt.EqAt.same _
 | @lists n a b xs ys hx hy hl he ih =>
  intro u v A ru rv hu
  cases ru
  cases rv
  by_cases ab:a=b
  ·subst ab;exact SeqAt.EqAt.same _
  ·obtain ⟨its,r,pl,hz⟩:=I.list hx
   obtain ⟨its2,r2,pl2,hz2⟩:=I.list hy
   have e1:=r.length
   have e2:=r2.length
   have q:=SeqAt.RcAt.lists (A:=A) (s:=s) (e:=fun _=>true) pl.isList pl2.isList (by rw [List.size_toArray,List.size_toArray];omega) (by omega) (fun j h1 h2=>by
    rw [List.size_toArray] at h1 h2
    have hjx:xs[j]?=some (xs[j]'(by omega)):=by simp
    have hjy:ys[j]?=some (ys[j]'(by omega)):=by simp
    obtain ⟨u1,q1,ru1⟩:=r.get hjx
    obtain ⟨v1,q2,rv1⟩:=r2.get hjy
    have e3:its.toArray[j]=u1:=by
     have:its[j]?=some its[j]:=by simp
     rw [this] at q1;simpa using q1
    have e4:its2.toArray[j]=v1:=by
     have:its2[j]?=some its2[j]:=by simp
     rw [this] at q2;simpa using q2
    rw [e3,e4]
    exact ih j _ _ hjx hjy ru1 rv1 (by show A.units+1+n<cLine;omega))
   rw [zGp] at q
   exact SeqAt.EqAt.of_refs ab q
 | @tups n a b xs ys hx hy hl he ih =>
  intro u v A ru rv hu
  cases ru
  cases rv
  by_cases ab:a=b
  ·subst ab;exact SeqAt.EqAt.same _
  ·obtain ⟨its,r,pl,hz⟩:=I.tuple hx
   obtain ⟨its2,r2,pl2,hz2⟩:=I.tuple hy
   have e1:=r.length
   have e2:=r2.length
   have q:=SeqAt.RcAt.tuples (A:=A) (s:=s) (e:=fun _=>true) (show s.heap.IsTuple a its.toArray from pl) (show s.heap.IsTuple b its2.toArray from pl2) (by omega) (fun j h1 h2=>by
    rw [List.size_toArray] at h1 h2
    have hjx:xs[j]?=some (xs[j]'(by omega)):=by simp
    have hjy:ys[j]?=some (ys[j]'(by omega)):=by simp
    obtain ⟨u1,q1,ru1⟩:=r.get hjx
    obtain ⟨v1,q2,rv1⟩:=r2.get hjy
    have e3:its.toArray[j]=u1:=by
     have:its[j]?=some its[j]:=by simp
     rw [this] at q1;simpa using q1
    have e4:its2.toArray[j]=v1:=by
     have:its2[j]?=some its2[j]:=by simp
     rw [this] at q2;simpa using q2
    rw [e3,e4]
    exact ih j _ _ hjx hjy ru1 rv1 (by show A.units+1+n<cLine;omega))
   rw [zGp,Bool.true_and,List.size_toArray,List.size_toArray,<-e1,<-e2,hl,beq_self_eq_true] at q
   exact SeqAt.EqAt.of_refs ab q
theorem zHm (I:Inv X pins σ H s) {n:Nat} {xs ys:List V} {its its2:List Value} {A:Around} (r:Vals xs its) (r2:Vals ys its2) (he:∀(i:Nat) (x y:V),xs[i]?=some x->ys[i]?=some y->Alike X.K H n x y) (hu:A.units+n<cLine) :
  ∀j (h1:j<its.toArray.size) (h2:j<its2.toArray.size),SeqAt.EqAt A s its.toArray[j] its2.toArray[j] true:=fun j h1 h2=>by
 have e1:=r.length
 have e2:=r2.length
 rw [List.size_toArray] at h1 h2
 have hjx:xs[j]?=some (xs[j]'(by omega)):=by simp
 have hjy:ys[j]?=some (ys[j]'(by omega)):=by simp
 obtain ⟨u1,q1,ru1⟩:=r.get hjx
 obtain ⟨v1,q2,rv1⟩:=r2.get hjy
 have e3:its.toArray[j]=u1:=by
  have:its[j]?=some its[j]:=by simp
  rw [this] at q1;simpa using q1
 have e4:its2.toArray[j]=v1:=by
  have:its2[j]?=some its2[j]:=by simp
  rw [this] at q2;simpa using q2
 rw [e3,e4]
 exact alike_at I (he j _ _ hjx hjy) ru1 rv1 hu
end
def zH7 (K:PySem.W.Frag) (n:Nat) (b:Bool):R2:=fun x y H Q=>∃a c xs ys,x= .ref a/\y= .ref c/\SqL K H a xs/\SqL K H c ys/\xs.length=ys.length/\(∀(i:Nat) (x y:V),xs[i]?=some x->ys[i]?=some y->Alike K H n x y)/\Q (.bl b) H
def rUnlen (K:PySem.W.Frag) (b:Bool):R2:=fun x y H Q=>∃a c xs ys,x= .ref a/\y= .ref c/\SqL K H a xs/\SqL K H c ys/\xs.length≠ys.length/\Q (.bl b) H
section
variable {X:Cx}
theorem op_eqA {n:Nat} (hu:X.A.units+1+n<cLine):OpR X (compareOp .Eq) (zH7 X.K n true):=by
 intro pins s σ H x y v u Q I rx ry h
 obtain ⟨a,c,xs,ys,rfl,rfl,hx,hy,hl,he,q⟩:=h
 cases rx
 cases ry
 obtain ⟨its,r,pl,hz⟩:=I.list hx
 obtain ⟨its2,r2,pl2,hz2⟩:=I.list hy
 have e1:=r.length
 have e2:=r2.length
 refine SeqAt.eq_listAt (e:=fun _=>true) pl.isList pl2.isList (by rw [List.size_toArray,List.size_toArray];omega) (by omega) (zHm I r r2 he (by show X.A.units+1+n<cLine;omega)) ?_
 rw [zGp]
 exact ⟨.bl true,H,I,rfl,q⟩
theorem op_neA {n:Nat} (hu:X.A.units+1+n<cLine):OpR X (compareOp .NotEq) (zH7 X.K n false):=by
 intro pins s σ H x y v u Q I rx ry h
 obtain ⟨a,c,xs,ys,rfl,rfl,hx,hy,hl,he,q⟩:=h
 cases rx
 cases ry
 obtain ⟨its,r,pl,hz⟩:=I.list hx
 obtain ⟨its2,r2,pl2,hz2⟩:=I.list hy
 have e1:=r.length
 have e2:=r2.length
 refine SeqAt.RcNeAt.lists (e:=fun _=>true) pl.isList pl2.isList (by rw [List.size_toArray,List.size_toArray];omega) (by omega) (zHm I r r2 he (by show X.A.units+1+n<cLine;omega)) X.prog X.w X.xe _ ?_
 rw [zGp]
 exact ⟨.bl false,H,I,rfl,q⟩
theorem op_eqU (hu:X.A.units<cLine):OpR X (compareOp .Eq) (rUnlen X.K false):=by
 intro pins s σ H x y v u Q I rx ry h
 obtain ⟨a,c,xs,ys,rfl,rfl,hx,hy,hl,q⟩:=h
 cases rx
 cases ry
 obtain ⟨its,r,pl,hz⟩:=I.list hx
 obtain ⟨its2,r2,pl2,hz2⟩:=I.list hy
 have e1:=r.length
 have e2:=r2.length
 exact SeqAt.eq_list_lengthsAt pl.isList pl2.isList (by rw [List.size_toArray,List.size_toArray];simp;omega) hu ⟨.bl false,H,I,rfl,q⟩
theorem OpR.either {f:Value->Value->Sem Value} {r r':R2} (h:OpR X f r) (h':OpR X f r'):OpR X f (fun x y H Q=>r x y H Q\/r' x y H Q):=by
 intro pins s σ H x y v u Q I rx ry q
 rcases q with q| q
 ·exact h pins s σ H x y v u Q I rx ry q
 ·exact h' pins s σ H x y v u Q I rx ry q
end
end L2
namespace SM
open PySem PySem.StrLaws PySem.Builtin PySem.Builtin.Str
end SM
namespace L2
open PySem PySem.Spec PyProof.Rows
structure Cal (P:Program) (w:World) (K:PySem.W.Frag) (mg:Str->Option Value) (base:Heap) (x:Str) (k:Nat) (ps:List Str) (sp:Sp):Prop where
 to:∃(f:Addr) (fd:FuncData),mg x=some (.ref f)/\PySem.W.keepIn K (.ref f)=true/\zC5 K fd ps []/\FnOk P w K mg base CX0 k f fd ps sp
theorem zAi {X:Cx} {x:Str} {k:Nat} {ps:List Str} {sp:Sp} {e:Expr} {es:List Expr} {p pos:Pos} {t:TA} (C:Cal X.prog X.w X.K X.mg X.base x k ps sp) (hr:Room k X.A) (hg:Gl X x) (ha:PA X (e::es) t)
  (hdb:(x==("__debug__" : Str))=false:=by decide) (he:starEach (e::es) X.env=(false,eval e X.env)::starEach es X.env:=by rfl) (hpl:(backTo pos (starEach es X.env)).any (·.1)=false:=by rfl) :
  PE X (.Call (.Name x p) (e::es) [] pos) (tCall sp [] E0 t):=by
 obtain ⟨f,fd,h1,h2,h3,h4⟩:=C.to
 exact pe_call h4 hr hg h1 h2 h3 .nil pass0 ha hdb he hpl
theorem bo_max:bootBuiltins "max" = some (.builtin "max"):=by decide +kernel
theorem bo_min:bootBuiltins "min" = some (.builtin "min"):=by decide +kernel
theorem zHk:bootBuiltins "all" = some (.builtin "all"):=by decide +kernel
theorem bo_any:bootBuiltins "any" = some (.builtin "any"):=by decide +kernel
theorem zAh:bootBuiltins "isinstance" = some (.builtin "isinstance"):=by decide +kernel
theorem zHj:bootBuiltins "sorted" = some (.builtin "sorted"):=by decide +kernel
theorem zBv:bootBuiltins "len" = some (.builtin "len"):=by decide +kernel
theorem bo_int:bootBuiltins "int" = some (.type "int"):=by decide +kernel
theorem zIj:bootBuiltins "str" = some (.type "str"):=by decide +kernel
theorem zEh:bootBuiltins "list" = some (.type "list"):=by decide +kernel
theorem bo_tuple:bootBuiltins "tuple" = some (.type "tuple"):=by decide +kernel
theorem bo_dict:bootBuiltins "dict" = some (.type "dict"):=by decide +kernel
theorem bo_set:bootBuiltins "set" = some (.type "set"):=by decide +kernel
theorem bo_reversed:bootBuiltins "reversed" = some (.type "reversed"):=by decide +kernel
def Fre (H:Hp) (l:Addr):Prop:=H l=none
def Kp (M:List Addr) (H H':Hp):Prop:=∀b o,H b=some o->b∉M->H' b=some o
theorem Kp.refl {M:List Addr} {H:Hp}:Kp M H H:=fun _ _ h _=>h
theorem Kp.trans {M:List Addr} {H H1 H2:Hp} (a:Kp M H H1) (b:Kp M H1 H2):Kp M H H2:=fun c o h n=>b c o (a c o h n) n
theorem Kp.weak {M M':List Addr} {H H':Hp} (k:Kp M H H') (s:∀b,b∈M->b∈M'):Kp M' H H':=fun b o h n=>k b o h fun z=>n (s b z)
theorem Kp.of0 {M:List Addr} {H H':Hp} (k:Kp [] H H'):Kp M H H':=fun b o h _=>k b o h (by simp)
theorem Kp.new {M:List Addr} {H H':Hp} {l:Addr} {o:HO} (k:Kp M H H') (f:Fre H l):Kp M H (upd H' l o):=fun b u h n=>by
 rw [upd_ne (zAj h f)];exact k b u h n
theorem Kp.put {M:List Addr} {H H':Hp} {l:Addr} {o:HO} (k:Kp M H H') (f:l∈M):Kp M H (upd H' l o):=fun b u h n=>by
 rw [upd_ne (by intro e;subst e;exact n f)];exact k b u h n
theorem Kp.fre {M:List Addr} {H H':Hp} {l:Addr} (k:Kp M H H') (f:Fre H' l) (n:l∉M):Fre H l:=by
 unfold Fre
 cases q:H l with
 | none=>rfl
 | some o =>
  have:=k l o q n
  unfold Fre at f
  rw [f] at this;cases this
theorem Kp.at0 {H H':Hp} (k:Kp [] H H'):Same H H':=fun b o h=>k b o h (by simp)
theorem Kp.seq {K:PySem.W.Frag} {H H':Hp} {a:Addr} {xs:List V} (e:Kp [] H H') (h:SqL K H a xs):SqL K H' a xs:=e.at0.seq h
theorem ne_fre {H:Hp} {a b:Addr} {o:HO} (f:Fre H b) (h:H a=some o):a≠b:=zAj h f
theorem nm1 {a b:Addr} (h:a≠b):a∉[b]:=by simpa using h
theorem zA0 {α:Type} {xs:List α} {i:Int} {v:α} (h0:0<=i) (h:xs[i.toNat]?=some v):atI xs i=some v:=by
 have hl:i.toNat<xs.length:=(List.getElem?_eq_some_iff.mp h).1
 unfold atI ixN
 rw [if_pos h0,if_pos (by omega)]
 exact h
theorem hu2 {A:Around} {k n:Nat} (hr:Room k A) (h:n<=60:=by decide):A.units+1+n<cLine:=by
 have:=hr.units
 omega
theorem hu0 {A:Around} {k:Nat} (hr:Room k A):A.units<cLine:=by
 have:=hr.units
 omega
theorem op_eqL {X:Cx} {k:Nat} (hr:Room k X.A):OpR X (compareOp .Eq) (fun x y H Q=>zH7 X.K 8 true x y H Q\/rUnlen X.K false x y H Q):=(op_eqA (hu2 hr)).either (op_eqU (hu0 hr))
theorem op_neL {X:Cx} {k:Nat} (hr:Room k X.A):OpR X (compareOp .NotEq) (zH7 X.K 8 false):=op_neA (hu2 hr)
theorem zDf {K:PySem.W.Frag} {t:Value} (h:(t==t)=true:=by rfl):PySem.W.kitOne K t t=some true:=by
 unfold PySem.W.kitOne;rw [if_pos h]
theorem app_empty (x:Str):x++Str.empty=x:=Str.append_right_empty (by rfl)
theorem empty_app (x:Str):Str.empty++x=x:=Str.append_left_empty (by rfl)
theorem zDt (x y z:Str):x++y++z=x++(y++z):=by
 apply Str.ext'
 simp [Str.cps_append,Array.append_assoc]
theorem zJh (sep:Str) (xs:List Str):(Txt.join sep xs).length<=(xs.map (·.length)).sum+xs.length*sep.length:=by
 show (Builtin.Str.glued sep xs).length<=_
 rw [StrLaws.glued_eq_join];exact StrLaws.join_length_le sep xs
theorem sum_le {α:Type} (f:α->Nat) (m:Nat):∀{xs:List α},(∀x∈xs,f x<=m)->(xs.map f).sum<=xs.length*m
 | [],_=>by simp
 | x::r,h=>by
  have h1:=h x List.mem_cons_self
  have h2:=sum_le f m (xs:=r) fun y hy=>h y (List.mem_cons_of_mem _ hy)
  simp only [List.map_cons,List.sum_cons,List.length_cons]
  rw [Nat.succ_mul]
  omega
theorem seq_mid {t u:TS} {D:Ends} {σ:St} {H:Hp} (Mid:St->Hp->Prop) (h1:∀N:St->Hp->Prop,(∀σ H,Mid σ H->N σ H)->t {D with nx:=N} σ H) (h2:∀σ H,Mid σ H->u D σ H):tSeq t u D σ H:=h1 (u D) h2
theorem if_mid {tb:TS} {D:Ends} {σ:St} {H:Hp} {b:Bool} (Mid:St->Hp->Prop) (h1:∀N:St->Hp->Prop,(∀σ H,Mid σ H->N σ H)->if b=true then tb {D with nx:=N} σ H else N σ H) (h2:∀σ H,Mid σ H->D.nx σ H) :
  if b=true then tb D σ H else tNext D σ H:=h1 D.nx h2
theorem zEf {K:PySem.W.Frag} {a:Addr} {ix:List (Option Nat)} {g:TG} {tt:TT} {te:TE} {QD:Hp->Prop} {σ:St} {H1:Hp} {D:Addr} (xs:List V) (Pv:Nat->List V->St->Hp->Prop) (h0:Pv 0 [] (zCf σ ix) (upd H1 D (.lst [])))
  (hl:∀i ys τ H,Pv i ys τ H->SqL K H a xs)
  (hs:∀i x ys τ H,xs[i]?=some x->Pv i ys τ H->g x τ H fun τ' H4=>tt τ' H4 fun b H5=>if b=true then te τ' H5 fun v H6=>H6 D=some (.lst ys)/\ys.length<sizeLine/\Pv (i+1) (ys++[v]) τ' (upd H6 D (.lst (ys++[v]))) else Pv (i+1) ys τ' H5)
  (hd:∀ys τ H,Pv xs.length ys τ H->QD H) :
  ∃W:Nat->Nat->List V->St->Hp->Prop,(∃m,W 0 m [] (zCf σ ix) (upd H1 D (.lst [])))/\∀i m ys τ H2,W i m ys τ H2 ->
   ((Itl K a).stop i H2/\QD H2)\/((Itl K a).go i H2/\∃N:List V->St->Hp->Prop,(∀ys' τ' H',N ys' τ' H'->∃m',m'<m/\W (i+1) m' ys' τ' H')/\∀x H3,(Itl K a).yld i H2 x H3->g x τ H3 fun τ' H4=>tt τ' H4 fun b H5 =>
    if b=true then te τ' H5 fun v H6=>H6 D=some (.lst ys)/\ys.length<sizeLine/\N (ys++[v]) τ' (upd H6 D (.lst (ys++[v])))
    else N ys τ' H5):=by
 refine comp_by (Q:=fun _ H=>QD H) xs Pv h0 (fun i ys τ H p=>⟨fun x hx=>⟨⟨xs,x,hl i ys τ H p,hx⟩,fun y H' yl=>?_⟩,fun e=>⟨xs,hl i ys τ H p,by omega⟩⟩) hs hd
 obtain ⟨e,z⟩:=yl
 subst e
 have:=z xs (hl i ys τ _ p)
 rw [hx] at this
 exact ⟨rfl,(Option.some.inj this).symm⟩
theorem comp_tup {K:PySem.W.Frag} {a:Addr} {ix:List (Option Nat)} {g:TG} {tt:TT} {te:TE} {QD:Hp->Prop} {σ:St} {H1:Hp} {D:Addr} (xs:List V) (Pv:Nat->List V->St->Hp->Prop) (h0:Pv 0 [] (zCf σ ix) (upd H1 D (.lst [])))
  (hl:∀i ys τ H,Pv i ys τ H->SqT K H a xs)
  (hs:∀i x ys τ H,xs[i]?=some x->Pv i ys τ H->g x τ H fun τ' H4=>tt τ' H4 fun b H5=>if b=true then te τ' H5 fun v H6=>H6 D=some (.lst ys)/\ys.length<sizeLine/\Pv (i+1) (ys++[v]) τ' (upd H6 D (.lst (ys++[v]))) else Pv (i+1) ys τ' H5)
  (hd:∀ys τ H,Pv xs.length ys τ H->QD H) :
  ∃W:Nat->Nat->List V->St->Hp->Prop,(∃m,W 0 m [] (zCf σ ix) (upd H1 D (.lst [])))/\∀i m ys τ H2,W i m ys τ H2 ->
   ((Itt K a).stop i H2/\QD H2)\/((Itt K a).go i H2/\∃N:List V->St->Hp->Prop,(∀ys' τ' H',N ys' τ' H'->∃m',m'<m/\W (i+1) m' ys' τ' H')/\∀x H3,(Itt K a).yld i H2 x H3->g x τ H3 fun τ' H4=>tt τ' H4 fun b H5 =>
    if b=true then te τ' H5 fun v H6=>H6 D=some (.lst ys)/\ys.length<sizeLine/\N (ys++[v]) τ' (upd H6 D (.lst (ys++[v])))
    else N ys τ' H5):=by
 refine comp_by (Q:=fun _ H=>QD H) xs Pv h0 (fun i ys τ H p=>⟨fun x hx=>⟨⟨xs,x,hl i ys τ H p,hx⟩,fun y H' yl=>?_⟩,fun e=>⟨xs,hl i ys τ H p,by omega⟩⟩) hs hd
 obtain ⟨e,z⟩:=yl
 subst e
 have:=z xs (hl i ys τ _ p)
 rw [hx] at this
 exact ⟨rfl,(Option.some.inj this).symm⟩
theorem zIi {lo:Int} {n:Nat} {ix:List (Option Nat)} {g:TG} {tt:TT} {te:TE} {QD:Hp->Prop} {σ:St} {H1:Hp} {D:Addr} (Pv:Nat->List V->St->Hp->Prop) (h0:Pv 0 [] (zCf σ ix) (upd H1 D (.lst [])))
  (hs:∀i ys τ H,i<n->Pv i ys τ H->g (.int (lo+i)) τ H fun τ' H4=>tt τ' H4 fun b H5=>if b=true then te τ' H5 fun v H6=>H6 D=some (.lst ys)/\ys.length<sizeLine/\Pv (i+1) (ys++[v]) τ' (upd H6 D (.lst (ys++[v]))) else Pv (i+1) ys τ' H5)
  (hd:∀ys τ H,Pv n ys τ H->QD H) :
  ∃W:Nat->Nat->List V->St->Hp->Prop,(∃m,W 0 m [] (zCf σ ix) (upd H1 D (.lst [])))/\∀i m ys τ H2,W i m ys τ H2 ->
   ((Itr lo n).stop i H2/\QD H2)\/((Itr lo n).go i H2/\∃N:List V->St->Hp->Prop,(∀ys' τ' H',N ys' τ' H'->∃m',m'<m/\W (i+1) m' ys' τ' H')/\∀x H3,(Itr lo n).yld i H2 x H3->g x τ H3 fun τ' H4=>tt τ' H4 fun b H5 =>
    if b=true then te τ' H5 fun v H6=>H6 D=some (.lst ys)/\ys.length<sizeLine/\N (ys++[v]) τ' (upd H6 D (.lst (ys++[v])))
    else N ys τ' H5):=by
 refine ⟨fun i m ys τ H=>m=n - i/\i<=n/\Pv i ys τ H,⟨n,by simp,Nat.zero_le _,h0⟩,?_⟩
 rintro i m ys τ H ⟨rfl,hi,p⟩
 by_cases hlt:i<n
 ·refine .inr ⟨hlt,Pv (i+1),fun ys' τ' H' p'=>⟨n - (i+1),by omega,rfl,hlt,p'⟩,fun y H' yd=>?_⟩
  obtain ⟨e1,e2⟩:=yd
  subst e1 e2
  exact hs i ys τ _ hlt p
 ·have e:i=n:=by omega
  subst e
  exact .inl ⟨Nat.le_refl _,hd ys τ H p⟩
theorem comp_str {z:Str} {ix:List (Option Nat)} {g:TG} {tt:TT} {te:TE} {QD:Hp->Prop} {σ:St} {H1:Hp} {D:Addr} (Pv:Nat->List V->St->Hp->Prop) (h0:Pv 0 [] (zCf σ ix) (upd H1 D (.lst [])))
  (hs:∀i c ys τ H,z.cps.toList[i]?=some c->Pv i ys τ H->g (.str ⟨#[c]⟩) τ H fun τ' H4=>tt τ' H4 fun b H5=>if b=true then te τ' H5 fun v H6=>H6 D=some (.lst ys)/\ys.length<sizeLine/\Pv (i+1) (ys++[v]) τ' (upd H6 D (.lst (ys++[v]))) else Pv (i+1) ys τ' H5)
  (hd:∀ys τ H,Pv z.length ys τ H->QD H) :
  ∃W:Nat->Nat->List V->St->Hp->Prop,(∃m,W 0 m [] (zCf σ ix) (upd H1 D (.lst [])))/\∀i m ys τ H2,W i m ys τ H2 ->
   ((Its z).stop i H2/\QD H2)\/((Its z).go i H2/\∃N:List V->St->Hp->Prop,(∀ys' τ' H',N ys' τ' H'->∃m',m'<m/\W (i+1) m' ys' τ' H')/\∀x H3,(Its z).yld i H2 x H3->g x τ H3 fun τ' H4=>tt τ' H4 fun b H5 =>
    if b=true then te τ' H5 fun v H6=>H6 D=some (.lst ys)/\ys.length<sizeLine/\N (ys++[v]) τ' (upd H6 D (.lst (ys++[v])))
    else N ys τ' H5):=by
 refine ⟨fun i m ys τ H=>m=z.length - i/\i<=z.length/\Pv i ys τ H,⟨z.length,by simp,Nat.zero_le _,h0⟩,?_⟩
 rintro i m ys τ H ⟨rfl,hi,p⟩
 by_cases hlt:i<z.length
 ·refine .inr ⟨hlt,Pv (i+1),fun ys' τ' H' p'=>⟨z.length - (i+1),by omega,rfl,hlt,p'⟩,fun y H' yd=>?_⟩
  obtain ⟨e1,c,e2,e3⟩:=yd
  subst e1 e3
  exact hs i c ys τ _ (by simpa using e2) p
 ·have e:i=z.length:=by omega
  subst e
  exact .inl ⟨Nat.le_refl _,hd ys τ H p⟩
theorem zBl {K:PySem.W.Frag} {a:Addr} {ix:List (Option Nat)} {g:TG} {te:TE} {QD:Hp->Prop} {σ:St} {H1:Hp} {D:Addr} (xs:List V) (Pv:Nat->List V->St->Hp->Prop) (h0:Pv 0 [] (zCf σ ix) (upd H1 D (.lst [])))
  (hl:∀i ys τ H,Pv i ys τ H->SqL K H a xs)
  (hs:∀i x ys τ H,xs[i]?=some x->Pv i ys τ H->g x τ H fun τ' H4=>te τ' H4 fun v H6=>H6 D=some (.lst ys)/\ys.length<sizeLine/\Pv (i+1) (ys++[v]) τ' (upd H6 D (.lst (ys++[v]))))
  (hd:∀ys τ H,Pv xs.length ys τ H->QD H) :
  ∃W:Nat->Nat->List V->St->Hp->Prop,(∃m,W 0 m [] (zCf σ ix) (upd H1 D (.lst [])))/\∀i m ys τ H2,W i m ys τ H2 ->
   ((Itl K a).stop i H2/\QD H2)\/((Itl K a).go i H2/\∃N:List V->St->Hp->Prop,(∀ys' τ' H',N ys' τ' H'->∃m',m'<m/\W (i+1) m' ys' τ' H')/\∀x H3,(Itl K a).yld i H2 x H3->g x τ H3 fun τ' H4=>zIl τ' H4 fun b H5 =>
    if b=true then te τ' H5 fun v H6=>H6 D=some (.lst ys)/\ys.length<sizeLine/\N (ys++[v]) τ' (upd H6 D (.lst (ys++[v])))
    else N ys τ' H5):=zEf (tt:=zIl) xs Pv h0 hl hs hd
theorem comp_tup0 {K:PySem.W.Frag} {a:Addr} {ix:List (Option Nat)} {g:TG} {te:TE} {QD:Hp->Prop} {σ:St} {H1:Hp} {D:Addr} (xs:List V) (Pv:Nat->List V->St->Hp->Prop) (h0:Pv 0 [] (zCf σ ix) (upd H1 D (.lst [])))
  (hl:∀i ys τ H,Pv i ys τ H->SqT K H a xs)
  (hs:∀i x ys τ H,xs[i]?=some x->Pv i ys τ H->g x τ H fun τ' H4=>te τ' H4 fun v H6=>H6 D=some (.lst ys)/\ys.length<sizeLine/\Pv (i+1) (ys++[v]) τ' (upd H6 D (.lst (ys++[v]))))
  (hd:∀ys τ H,Pv xs.length ys τ H->QD H) :
  ∃W:Nat->Nat->List V->St->Hp->Prop,(∃m,W 0 m [] (zCf σ ix) (upd H1 D (.lst [])))/\∀i m ys τ H2,W i m ys τ H2 ->
   ((Itt K a).stop i H2/\QD H2)\/((Itt K a).go i H2/\∃N:List V->St->Hp->Prop,(∀ys' τ' H',N ys' τ' H'->∃m',m'<m/\W (i+1) m' ys' τ' H')/\∀x H3,(Itt K a).yld i H2 x H3->g x τ H3 fun τ' H4=>zIl τ' H4 fun b H5 =>
    if b=true then te τ' H5 fun v H6=>H6 D=some (.lst ys)/\ys.length<sizeLine/\N (ys++[v]) τ' (upd H6 D (.lst (ys++[v])))
    else N ys τ' H5):=comp_tup (tt:=zIl) xs Pv h0 hl hs hd
theorem zHi {lo:Int} {n:Nat} {ix:List (Option Nat)} {g:TG} {te:TE} {QD:Hp->Prop} {σ:St} {H1:Hp} {D:Addr} (Pv:Nat->List V->St->Hp->Prop) (h0:Pv 0 [] (zCf σ ix) (upd H1 D (.lst [])))
  (hs:∀i ys τ H,i<n->Pv i ys τ H->g (.int (lo+i)) τ H fun τ' H4=>te τ' H4 fun v H6=>H6 D=some (.lst ys)/\ys.length<sizeLine/\Pv (i+1) (ys++[v]) τ' (upd H6 D (.lst (ys++[v]))))
  (hd:∀ys τ H,Pv n ys τ H->QD H) :
  ∃W:Nat->Nat->List V->St->Hp->Prop,(∃m,W 0 m [] (zCf σ ix) (upd H1 D (.lst [])))/\∀i m ys τ H2,W i m ys τ H2 ->
   ((Itr lo n).stop i H2/\QD H2)\/((Itr lo n).go i H2/\∃N:List V->St->Hp->Prop,(∀ys' τ' H',N ys' τ' H'->∃m',m'<m/\W (i+1) m' ys' τ' H')/\∀x H3,(Itr lo n).yld i H2 x H3->g x τ H3 fun τ' H4=>zIl τ' H4 fun b H5 =>
    if b=true then te τ' H5 fun v H6=>H6 D=some (.lst ys)/\ys.length<sizeLine/\N (ys++[v]) τ' (upd H6 D (.lst (ys++[v])))
    else N ys τ' H5):=zIi (tt:=zIl) Pv h0 hs hd
theorem comp_str0 {z:Str} {ix:List (Option Nat)} {g:TG} {te:TE} {QD:Hp->Prop} {σ:St} {H1:Hp} {D:Addr} (Pv:Nat->List V->St->Hp->Prop) (h0:Pv 0 [] (zCf σ ix) (upd H1 D (.lst [])))
  (hs:∀i c ys τ H,z.cps.toList[i]?=some c->Pv i ys τ H->g (.str ⟨#[c]⟩) τ H fun τ' H4=>te τ' H4 fun v H6=>H6 D=some (.lst ys)/\ys.length<sizeLine/\Pv (i+1) (ys++[v]) τ' (upd H6 D (.lst (ys++[v]))))
  (hd:∀ys τ H,Pv z.length ys τ H->QD H) :
  ∃W:Nat->Nat->List V->St->Hp->Prop,(∃m,W 0 m [] (zCf σ ix) (upd H1 D (.lst [])))/\∀i m ys τ H2,W i m ys τ H2 ->
   ((Its z).stop i H2/\QD H2)\/((Its z).go i H2/\∃N:List V->St->Hp->Prop,(∀ys' τ' H',N ys' τ' H'->∃m',m'<m/\W (i+1) m' ys' τ' H')/\∀x H3,(Its z).yld i H2 x H3->g x τ H3 fun τ' H4=>zIl τ' H4 fun b H5 =>
    if b=true then te τ' H5 fun v H6=>H6 D=some (.lst ys)/\ys.length<sizeLine/\N (ys++[v]) τ' (upd H6 D (.lst (ys++[v])))
    else N ys τ' H5):=comp_str (tt:=zIl) Pv h0 hs hd
section
variable {X:Cx} {K:PySem.W.Frag}
theorem zCh (hK:X.K=K:=by rfl):IxR X (rIxL K):=by subst hK;exact zA1
theorem zIa (hK:X.K=K:=by rfl):OpR X (compareOp .In) (rIn K false):=by subst hK;exact zEb
theorem zI3 (hK:X.K=K:=by rfl):OpR X (compareOp .NotIn) (rIn K true):=by subst hK;exact zDd
theorem call_anyK (hc:X.calm=true) (hK:X.K=K:=by rfl):zCr X (.builtin "any") (fun xs H Q=>∃(p:Addr) (bs:List Bool),xs=[.ref p]/\SqL K H p (bs.map V.bl)/\Q (.bl (bs.any id)) H):=by subst hK;exact call_any X hc
end
theorem Kp.drop {H H1 H2:Hp} {p:Addr} (k1:Kp [] H H1) (f:Fre H p) (k2:Kp [p] H1 H2):Kp [] H H2:=fun b o h _=>k2 b o (k1 b o h (by simp)) (nm1 (ne_fre f h))
end L2
namespace Tim
open PySem PyProof.Rows
def kk (κ:KeyKind) (p:Keyed):κ.α:=(κ.keyOf p.1).getD κ.dflt
def Has (κ:KeyKind) (p:Keyed):Prop:=∃a,κ.keyOf p.1=some a
theorem Has.key {κ:KeyKind} {p:Keyed} (h:Has κ p):κ.keyOf p.1=some (kk κ p):=by
 obtain ⟨a,e⟩:=h
 unfold kk;rw [e];rfl
theorem KK_at {κ:KeyKind} {xs:Array Keyed} {i:Nat} {p:Keyed} (h:xs[i]?=some p):KK κ xs i=kk κ p:=by
 unfold KK kk;rw [h]
def CmpOk (prog:Program) (w:World) (A:Around) (s:Shared) (kd:SortKind) (κ:KeyKind):Prop :=
 ∀(E:Value->Shared->Prop) (x y:Value) (a b:κ.α) (Q:Bool->Shared->Prop),κ.keyOf x=some a->κ.keyOf y=some b->Q (κ.blt a b) s->wpAny (model prog w) A (keyLt' kd x y) Q E s
section
variable {prog:Program} {w:World} {A:Around} {E:Value->Shared->Prop} {s:Shared} {kd:SortKind} {κ:KeyKind}
theorem w_lt {st:SortSt} {x y:Keyed} {Q:Option Bool->SortSt->Prop} (C:CmpOk prog w A s kd κ) (hk:kindOf st=kd) (hx:Has κ x) (hy:Has κ y) (h:Q (some (κ.blt (kk κ x) (kk κ y))) st):wpS (model prog w) A E s (lt' x y) Q st:=by
 rw [lt'_eq]
 refine wpS_bind (wpS_get ?_)
 rw [hk]
 exact wpS_bind (wpS_lift (wpAny_attempt (C _ x.1 y.1 _ _ _ hx.key hy.key ⟨rfl,wpS_pure h⟩)))
theorem w_elem {st:SortSt} {arr:Array Keyed} {i:Nat} {p:Keyed} {Q:Keyed->SortSt->Prop} (e:arr[i]?=some p) (h:Q p st):wpS (model prog w) A E s (elem' arr i) Q st:=by
 rw [elem'_eq,e];exact wpS_pure h
theorem w_ltAt {st:SortSt} {i j:Nat} {Q:Option Bool->SortSt->Prop} (C:CmpOk prog w A s kd κ) (hk:kindOf st=kd) (hi:∃p,(arrOf st)[i]?=some p/\Has κ p) (hj:∃p,(arrOf st)[j]?=some p/\Has κ p)
  (h:Q (some (κ.blt (KK κ (arrOf st) i) (KK κ (arrOf st) j))) st):wpS (model prog w) A E s (ltAt' i j) Q st:=by
 obtain ⟨p,e1,h1⟩:=hi
 obtain ⟨q,e2,h2⟩:=hj
 rw [KK_at e1,KK_at e2] at h
 rw [ltAt'_eq]
 exact wpS_bind (wpS_get (wpS_bind (w_elem e1 (wpS_bind (w_elem e2 (w_lt C hk h1 h2 h))))))
end
section
variable {κ:KeyKind}
def le (κ:KeyKind) (x y:Keyed):Prop:=κ.kle (kk κ x) (kk κ y)
abbrev Srt (κ:KeyKind) (l:List Keyed):Prop:=l.Pairwise (le κ)
end
section
variable {prog:Program} {w:World} {A:Around} {E:Value->Shared->Prop} {s:Shared} {kd:SortKind} {κ:KeyKind} {a b:Array Keyed}
theorem has_at {a:Array Keyed} (ha:∀x∈a.toList,Has κ x) {i:Nat} (hi:i<a.size):∃p,a[i]?=some p/\Has κ p :=
 ⟨a[i],by simp,ha _ (by simp)⟩
end
section
variable {prog:Program} {w:World} {A:Around} {E:Value->Shared->Prop} {s:Shared} {kd:SortKind} {κ:KeyKind}
structure Fr (lo:Nat) (st st':SortSt):Prop where
 kd:kindOf st'=kindOf st
 pn:pendingOf st'=pendingOf st
 fl:failedOf st'=failedOf st
 perm:(arrOf st').Perm (arrOf st)
 low:∀k,k<lo->(arrOf st')[k]?=(arrOf st)[k]?
theorem Fr.refl (lo:Nat) (st:SortSt):Fr lo st st:=⟨rfl,rfl,rfl,Array.Perm.refl _,fun _ _=>rfl⟩
theorem Fr.trans {lo:Nat} {a b c:SortSt} (h:Fr lo a b) (k:Fr lo b c):Fr lo a c:=⟨k.kd.trans h.kd,k.pn.trans h.pn,k.fl.trans h.fl,k.perm.trans h.perm,fun i hi=>(k.low i hi).trans (h.low i hi)⟩
theorem Fr.size {lo:Nat} {a b:SortSt} (h:Fr lo a b):(arrOf b).size=(arrOf a).size:=h.perm.size_eq
theorem Fr.rev {lo:Nat} (st:SortSt) (i j:Nat) (hi:lo<=i) (hj:j<=(arrOf st).size):Fr lo st (setArr st (mirror (arrOf st) i j ((j - i) / 2))) :=
 ⟨rfl,rfl,rfl,mirror_perm _ _ _ _,fun k hk=>by
  show (mirror (arrOf st) i j ((j - i) / 2))[k]?=_
  rw [getElem?_mirror_all hj,if_neg (by omega)]⟩
def All (κ:KeyKind) (st:SortSt):Prop:=∀x∈(arrOf st).toList,Has κ x
theorem All.fr {lo:Nat} {a b:SortSt} (h:All κ a) (f:Fr lo a b):All κ b:=fun x hx=>h x ((Array.perm_iff_toList_perm.mp f.perm).mem_iff.mp hx)
theorem All.at {st:SortSt} (h:All κ st) {i:Nat} (hi:i<(arrOf st).size):∃p,(arrOf st)[i]?=some p/\Has κ p:=has_at h hi
def Up (κ:KeyKind) (st:SortSt) (lo n:Nat):Prop:=∀i j,i<=j->j<n->κ.kle (KK κ (arrOf st) (lo+i)) (KK κ (arrOf st) (lo+j))
def Dn (κ:KeyKind) (st:SortSt) (lo n:Nat):Prop:=∀i j,i<=j->j<n->κ.kle (KK κ (arrOf st) (lo+j)) (KK κ (arrOf st) (lo+i))
theorem Up.one (st:SortSt) (lo:Nat):Up κ st lo 1:=fun i j h1 h2=>by
 have e:i=j:=by omega
 rw [e];exact KeyOrd.kle_refl _
theorem Up.more {st:SortSt} {lo n:Nat} (h:Up κ st lo n) (h1:1<=n) (e:κ.kle (KK κ (arrOf st) (lo+n - 1)) (KK κ (arrOf st) (lo+n))):Up κ st lo (n+1):=fun i j hij hj=>by
 by_cases c:j<n
 ·exact h i j hij c
 ·have ej:j=n:=by omega
  by_cases ci:i=n
  ·rw [ej,ci];exact KeyOrd.kle_refl _
  ·rw [ej]
   have q:=h i (n - 1) (by omega) (by omega)
   rw [show lo+(n - 1)=lo+n - 1 by omega] at q
   exact KeyOrd.kle_trans q e
theorem Dn.more {st:SortSt} {lo n:Nat} (h:Dn κ st lo n) (h1:1<=n) (e:κ.kle (KK κ (arrOf st) (lo+n)) (KK κ (arrOf st) (lo+n - 1))):Dn κ st lo (n+1):=fun i j hij hj=>by
 by_cases c:j<n
 ·exact h i j hij c
 ·have ej:j=n:=by omega
  by_cases ci:i=n
  ·rw [ej,ci];exact KeyOrd.kle_refl _
  ·rw [ej]
   have q:=h i (n - 1) (by omega) (by omega)
   rw [show lo+(n - 1)=lo+n - 1 by omega] at q
   exact KeyOrd.kle_trans e q
theorem w_asc {st:SortSt} {lo nrem n0:Nat} {α:Type} {Q:α->SortSt->Prop} (C:CmpOk prog w A s kd κ) (hk:kindOf st=kd) (al:All κ st) (hn:lo+nrem<=(arrOf st).size) (h1:1<=n0) (h2:n0<=nrem) (up:Up κ st lo n0)
  (F:Nat->Option (Option Nat)×Nat->StateT SortSt Sem (ForInStep (Option (Option Nat)×Nat))) (hF:∀x n,F x (none,n)=(do
   let c<-ltAt' (lo+n) (lo+n - 1)
   match c with
   | some c=>if c=true then pure (ForInStep.done (none,n)) else pure (ForInStep.yield (none,n+1))
   | _=>pure (ForInStep.done (some none,n)))) (G:Option (Option Nat)×Nat->StateT SortSt Sem α)
  (hG:∀n,n0<=n->n<=nrem->Up κ st lo n->(n=nrem\/κ.klt (KK κ (arrOf st) (lo+n)) (KK κ (arrOf st) (lo+n - 1)))->wpS (model prog w) A E s (G (none,n)) Q st) :
  wpS (model prog w) A E s (forIn [n0:nrem] ((none,n0):Option (Option Nat)×Nat) F >>= G) Q st:=by
 refine wpS_bind (wpS_forRange (I:=fun x c st'=>st'=st/\c=(none,x)/\x<=nrem/\Up κ st lo x) ?step ?fin ⟨rfl,rfl,h2,up⟩)
 case fin =>
  rintro c st' ⟨rfl,rfl,h3,h4⟩
  rw [show max n0 nrem=nrem by omega] at h4 ⊢
  exact hG nrem h2 (Nat.le_refl _) h4 (.inl rfl)
 case step =>
  rintro x c st' hx1 hx2 ⟨rfl,rfl,h3,h4⟩
  rw [hF]
  refine wpS_bind (w_ltAt C hk (al.at (by omega)) (al.at (by omega)) ?_)
  cases e:κ.blt (KK κ (arrOf st') (lo+x)) (KK κ (arrOf st') (lo+x - 1)) with
  | true =>
   show wpS _ _ _ _ (if true=true then _ else _) _ _
   rw [if_pos rfl]
   exact wpS_pure (hG x hx1 h3 h4 (.inr e))
  | false =>
   show wpS _ _ _ _ (if false=true then _ else _) _ _
   rw [if_neg (by decide)]
   exact wpS_pure ⟨rfl,rfl,by omega,h4.more (by omega) e⟩
theorem rev_up {st:SortSt} {lo n:Nat} (h:Dn κ st lo n) (hn:lo+n<=(arrOf st).size):Up κ (setArr st (mirror (arrOf st) lo (lo+n) ((lo+n - lo) / 2))) lo n:=fun i j hij hj=>by
 show κ.kle (KK κ (mirror (arrOf st) lo (lo+n) _) (lo+i)) (KK κ (mirror (arrOf st) lo (lo+n) _) (lo+j))
 rw [KK_mirror hn,KK_mirror hn,if_pos (by omega),if_pos (by omega)]
 have q:=h (n - 1 - j) (n - 1 - i) (by omega) (by omega)
 rw [show lo+(lo+n) - 1 - (lo+i)=lo+(n - 1 - i) by omega,show lo+(lo+n) - 1 - (lo+j)=lo+(n - 1 - j) by omega]
 exact q
theorem w_tail {st:SortSt} {lo nrem n:Nat} {Q:Option Nat->SortSt->Prop} (C:CmpOk prog w A s kd κ) (hk:kindOf st=kd) (al:All κ st) (hn:lo+nrem<=(arrOf st).size) (h1:1<=n) (h2:n<=nrem) (dn:Dn κ st lo n)
  (F:Nat->Option (Option Nat)×Nat->StateT SortSt Sem (ForInStep (Option (Option Nat)×Nat))) (hF:∀x n,F x (none,n)=(do
   let c<-ltAt' (lo+n) (lo+n - 1)
   match c with
   | some c=>if c=true then pure (ForInStep.done (none,n)) else pure (ForInStep.yield (none,n+1))
   | _=>pure (ForInStep.done (some none,n)))) (G:Option (Option Nat)×Nat->StateT SortSt Sem (Option Nat)) (hG:∀n,G (none,n)=pure (some n))
  (h:∀m st',Fr lo st st'->1<=m->m<=nrem->Up κ st' lo m->Q (some m) st') :
  wpS (model prog w) A E s (reverseSlice' lo (lo+n) >>= fun _=>forIn [n:nrem] ((none,n):Option (Option Nat)×Nat) F >>= G) Q st:=by
 have f:=Fr.rev (lo:=lo) st lo (lo+n) (Nat.le_refl _) (by omega)
 refine wpS_bind (wpS_reverse ?_)
 refine w_asc C (f.kd.trans hk) (al.fr f) (by rw [f.size];exact hn) h1 h2 (rev_up dn (by omega)) F hF G fun m m1 m2 m3 _=>?_
 rw [hG]
 exact wpS_pure (h m _ f (by omega) m2 m3)
theorem eq_rev {st:SortSt} {i j:Nat} (hj:j<=(arrOf st).size) (he:∀k,i<=k->k<j->KK κ (arrOf st) k=KK κ (arrOf st) (j - 1)) (k:Nat) :
  KK κ (arrOf (setArr st (mirror (arrOf st) i j ((j - i) / 2)))) k=KK κ (arrOf st) k:=KK_mirror_equal hj he k
theorem Dn.same {st st':SortSt} {lo n:Nat} (h:Dn κ st lo n) (e:∀k,KK κ (arrOf st') k=KK κ (arrOf st) k):Dn κ st' lo n:=fun i j h1 h2=>by rw [e,e];exact h i j h1 h2
theorem w_desc {st:SortSt} {lo nrem n0:Nat} {α:Type} {Q:α->SortSt->Prop} (C:CmpOk prog w A s kd κ) (hk:kindOf st=kd) (al:All κ st) (hn:lo+nrem<=(arrOf st).size) (h1:1<=n0) (h2:n0<=nrem) (dn:Dn κ st lo n0)
  (F:Nat->Option (Option Nat)×Nat×Nat->StateT SortSt Sem (ForInStep (Option (Option Nat)×Nat×Nat))) (hF:∀x n q,F x (none,n,q)=(ltAt' (lo+n) (lo+n - 1) >>= fun c=>match c with
   | some c=>(if c=true then (if q>0 then (reverseSlice' (lo+n - (q+1)) (lo+n) >>= fun _=>pure (ForInStep.yield (none,n+1,0))) else pure (ForInStep.yield (none,n+1,0)))
    else (ltAt' (lo+n - 1) (lo+n) >>= fun d=>match d with
     | some d=>(if d=true then pure (ForInStep.done (none,n,q)) else pure (ForInStep.yield (none,n+1,q+1)))
     | _=>pure (ForInStep.done (some none,n,q))))
   | _=>pure (ForInStep.done (some none,n,q)))) (G:Option (Option Nat)×Nat×Nat->StateT SortSt Sem α)
  (hG:∀n q st',Fr lo st st'->n0<=n->n<=nrem->Dn κ st' lo n->q+1<=n->(∀k,lo+n - (q+1)<=k->k<lo+n->KK κ (arrOf st') k=KK κ (arrOf st') (lo+n - 1))->wpS (model prog w) A E s (G (none,n,q)) Q st') :
  wpS (model prog w) A E s (forIn [n0:nrem] ((none,n0,0):Option (Option Nat)×Nat×Nat) F >>= G) Q st:=by
 refine wpS_bind (wpS_forRange (I:=fun x c st'=>Fr lo st st'/\∃q,c=(none,x,q)/\x<=nrem/\Dn κ st' lo x/\q+1<=x/\∀k,lo+x - (q+1)<=k->k<lo+x->KK κ (arrOf st') k=KK κ (arrOf st') (lo+x - 1)) ?step ?fin
  ⟨Fr.refl _ _,0,rfl,h2,dn,by omega,fun k k1 k2=>by rw [show k=lo+n0 - 1 by omega]⟩)
 case fin =>
  rintro c st' ⟨f,q,rfl,h3,h4,h5,h6⟩
  have e:max n0 nrem=nrem:=by omega
  rw [e] at h4 h5 h6 ⊢
  exact hG nrem q st' f h2 (Nat.le_refl _) h4 h5 h6
 case step =>
  rintro x c st' hx1 hx2 ⟨f,q,rfl,h3,h4,h5,h6⟩
  have hz:(arrOf st').size=(arrOf st).size:=f.size
  have al':=al.fr f
  have hk':=f.kd.trans hk
  rw [hF]
  refine wpS_bind (w_ltAt C hk' (al'.at (by omega)) (al'.at (by omega)) ?_)
  cases e:κ.blt (KK κ (arrOf st') (lo+x)) (KK κ (arrOf st') (lo+x - 1)) with
  | true =>
   show wpS _ _ _ _ (if true=true then _ else _) _ _
   rw [if_pos rfl]
   have d2:Dn κ st' lo (x+1):=h4.more (by omega) (KeyOrd.kle_of_klt e)
   by_cases hq:q>0
   ·rw [if_pos hq]
    have f2:=Fr.rev (lo:=lo) st' (lo+x - (q+1)) (lo+x) (by omega) (by omega)
    exact wpS_bind (wpS_reverse (wpS_pure ⟨f.trans f2,0,rfl,by omega,d2.same (eq_rev (by omega) h6),by omega,fun k k1 k2=>by rw [show k=lo+(x+1) - 1 by omega]⟩))
   ·rw [if_neg hq]
    exact wpS_pure ⟨f,0,rfl,by omega,d2,by omega,fun k k1 k2=>by rw [show k=lo+(x+1) - 1 by omega]⟩
  | false =>
   show wpS _ _ _ _ (if false=true then _ else _) _ _
   rw [if_neg (by decide)]
   refine wpS_bind (w_ltAt C hk' (al'.at (by omega)) (al'.at (by omega)) ?_)
   cases e2:κ.blt (KK κ (arrOf st') (lo+x - 1)) (KK κ (arrOf st') (lo+x)) with
   | true =>
    show wpS _ _ _ _ (if true=true then _ else _) _ _
    rw [if_pos rfl]
    exact wpS_pure (hG x q st' f hx1 h3 h4 h5 h6)
   | false =>
    show wpS _ _ _ _ (if false=true then _ else _) _ _
    rw [if_neg (by decide)]
    have eq:KK κ (arrOf st') (lo+x)=KK κ (arrOf st') (lo+x - 1):=KeyOrd.kle_antisymm e2 e
    refine wpS_pure ⟨f,q+1,rfl,by omega,h4.more (by omega) e2,by omega,fun k k1 k2=>?_⟩
    rw [show lo+(x+1) - 1=lo+x by omega]
    by_cases ck:k=lo+x
    ·rw [ck]
    ·rw [eq];exact h6 k (by omega) (by omega)
theorem w_count {st:SortSt} {lo nrem:Nat} {Q:Option Nat->SortSt->Prop} (C:CmpOk prog w A s kd κ) (hk:kindOf st=kd) (al:All κ st) (hn:lo+nrem<=(arrOf st).size) (h1:1<=nrem)
  (h:∀m st',Fr lo st st'->1<=m->m<=nrem->Up κ st' lo m->Q (some m) st'):wpS (model prog w) A E s (countRun' lo nrem) Q st:=by
 refine w_asc C hk al hn (Nat.le_refl 1) h1 (Up.one _ _) _ (fun x n=>rfl) _ fun n n1 n2 up ho=>?_
 show wpS _ _ _ _ (if (n==nrem)=true then _ else _) _ _
 by_cases c:(n==nrem)=true
 ·rw [if_pos c]
  exact wpS_pure (h n st (Fr.refl _ _) n1 n2 up)
 rw [if_neg c]
 have c':¬n=nrem:=by simpa using c
 have hlt:=ho.resolve_left c'
 show wpS _ _ _ _ (if n>1 then _ else _) _ _
 by_cases g:n>1
 ·rw [if_pos g]
  refine wpS_bind (w_ltAt C hk (al.at (by omega)) (al.at (by omega)) ?_)
  cases e:κ.blt (KK κ (arrOf st) lo) (KK κ (arrOf st) (lo+n - 1)) with
  | true =>
   show wpS _ _ _ _ (if true=true then _ else _) _ _
   rw [if_pos rfl]
   exact wpS_pure (h n st (Fr.refl _ _) n1 n2 up)
  | false =>
   show wpS _ _ _ _ (if false=true then _ else _) _ _
   rw [if_neg (by decide)]
   have hall:∀k,lo<=k->k<lo+n->KK κ (arrOf st) k=KK κ (arrOf st) (lo+n - 1):=fun k k1 k2=>by
    have a1:=up 0 (k - lo) (by omega) (by omega)
    have a2:=up (k - lo) (n - 1) (by omega) (by omega)
    rw [show lo+(k - lo)=k by omega] at a1 a2
    rw [show lo+(n - 1)=lo+n - 1 by omega] at a2
    exact KeyOrd.kle_antisymm a2 (KeyOrd.kle_trans e a1)
   have f1:=Fr.rev (lo:=lo) st lo (lo+n) (Nat.le_refl _) (by omega)
   refine wpS_bind (wpS_reverse ?_)
   have same:=eq_rev (κ:=κ) (st:=st) (i:=lo) (j:=lo+n) (by omega) hall
   have dn:Dn κ (setArr st (mirror (arrOf st) lo (lo+n) ((lo+n - lo) / 2))) lo (n+1):=by
    have d0:Dn κ st lo n:=fun i j i1 i2=>by
     rw [hall (lo+i) (by omega) (by omega),hall (lo+j) (by omega) (by omega)];exact KeyOrd.kle_refl _
    exact (d0.more n1 (KeyOrd.kle_of_klt hlt)).same same
   refine wpS_bind (wpS_lift (wpAny_rule ⟨rfl,?_⟩))
   refine w_desc C (f1.kd.trans hk) (al.fr f1) (by rw [f1.size];exact hn) (by omega) (by omega) dn _ (fun x n q=>rfl) _ fun m q st2 f2 m1 m2 dm q1 q2=>?_
   have hz:(arrOf st2).size=(arrOf st).size:=(f1.trans f2).size
   show wpS _ _ _ _ (if q>0 then _ else _) _ _
   by_cases hq:q>0
   ·rw [if_pos hq]
    have f3:=Fr.rev (lo:=lo) st2 (lo+m - (q+1)) (lo+m) (by omega) (by omega)
    refine wpS_bind (wpS_reverse ?_)
    refine w_tail C (f3.kd.trans ((f1.trans f2).kd.trans hk)) ((al.fr (f1.trans f2)).fr f3) (by rw [f3.size,hz];exact hn) (by omega) m2 (dm.same (eq_rev (by omega) q2)) _ (fun x n=>rfl) _ (fun n=>rfl) fun m' st' f'=>h m' st' (((f1.trans f2).trans f3).trans f')
   ·rw [if_neg hq]
    refine w_tail C ((f1.trans f2).kd.trans hk) (al.fr (f1.trans f2)) (by rw [hz];exact hn) (by omega) m2 dm _ (fun x n=>rfl) _ (fun n=>rfl) fun m' st' f'=>h m' st' ((f1.trans f2).trans f')
 ·rw [if_neg g]
  have en:n=1:=by omega
  subst en
  have dn:Dn κ st lo (1+1):=Dn.more (fun i j i1 i2=>by
   have e:i=j:=by omega
   rw [e];exact KeyOrd.kle_refl _) (Nat.le_refl _) (KeyOrd.kle_of_klt hlt)
  refine wpS_bind (wpS_lift (wpAny_rule ⟨rfl,?_⟩))
  refine w_desc C hk al hn (by omega) (by omega) dn _ (fun x n q=>rfl) _ fun m q st2 f2 m1 m2 dm q1 q2=>?_
  have hz:(arrOf st2).size=(arrOf st).size:=f2.size
  show wpS _ _ _ _ (if q>0 then _ else _) _ _
  by_cases hq:q>0
  ·rw [if_pos hq]
   have f3:=Fr.rev (lo:=lo) st2 (lo+m - (q+1)) (lo+m) (by omega) (by omega)
   refine wpS_bind (wpS_reverse ?_)
   refine w_tail C (f3.kd.trans (f2.kd.trans hk)) ((al.fr f2).fr f3) (by rw [f3.size,hz];exact hn) (by omega) m2 (dm.same (eq_rev (by omega) q2)) _ (fun x n=>rfl) _ (fun n=>rfl) fun m' st' f'=>h m' st' ((f2.trans f3).trans f')
  ·rw [if_neg hq]
   refine w_tail C (f2.kd.trans hk) (al.fr f2) (by rw [hz];exact hn) (by omega) m2 dm _ (fun x n=>rfl) _ (fun n=>rfl) fun m' st' f'=>h m' st' (f2.trans f')
theorem w_ins {st:SortSt} {lo n ok:Nat} {Q:Bool->SortSt->Prop} (C:CmpOk prog w A s kd κ) (hk:kindOf st=kd) (al:All κ st) (hn:lo+n<=(arrOf st).size) (ho:ok<=n) (h1:1<=ok) (up:Up κ st lo ok)
  (h:∀st',Fr lo st st'->Up κ st' lo n->Q true st'):wpS (model prog w) A E s (binarySort' lo n ok) Q st:=by
 refine wpS_bind (wpS_mono (wpS_forRange (I:=fun k c st'=>c=(none,())/\Fr lo st st'/\k<=n/\Up κ st' lo k) (Q:=fun c st'=>c=(none,())/\Fr lo st st'/\Up κ st' lo n) ?step ?fin ⟨rfl,Fr.refl _ _,by omega,by rw [show max ok 1=ok by omega];exact up⟩) ?post)
 case post =>
  rintro c st' ⟨rfl,f,u⟩
  exact wpS_pure (h st' f u)
 case fin =>
  rintro c st' ⟨hc,f,_,u⟩
  rw [show max (max ok 1) n=n by omega] at u
  exact ⟨hc,f,u⟩
 case step =>
  rintro k c st' hk1 hk2 ⟨rfl,f,_,u⟩
  have hz:(arrOf st').size=(arrOf st).size:=f.size
  have al':=al.fr f
  have hkd:=f.kd.trans hk
  refine wpS_bind (wpS_mono (wpS_forRange (I:=fun x c st2=>st2=st'/\∃l r,c=(none,l,r)/\l<=r/\r<=k/\r - l<=k - x/\(∀i,i<l->κ.kle (KK κ (arrOf st') (lo+i)) (KK κ (arrOf st') (lo+k)))/\(∀i,r<=i->i<k->κ.klt (KK κ (arrOf st') (lo+k)) (KK κ (arrOf st') (lo+i))))
   (Q:=fun c st2=>st2=st'/\∃l r,c=(none,l,r)/\l<=k/\(∀i,i<l->κ.kle (KK κ (arrOf st') (lo+i)) (KK κ (arrOf st') (lo+k)))/\(∀i,l<=i->i<k->κ.klt (KK κ (arrOf st') (lo+k)) (KK κ (arrOf st') (lo+i)))) ?s2 ?f2
   ⟨rfl,0,k,rfl,by omega,by omega,by omega,fun i hi=>by omega,fun i i1 i2=>by omega⟩) ?p2)
  case f2 =>
   rintro c st2 ⟨rfl,l,r,rfl,a1,a2,a3,a4,a5⟩
   have e:l=r:=by omega
   subst e
   exact ⟨rfl,l,l,rfl,a2,a4,a5⟩
  case s2 =>
   rintro x c st2 _ hx ⟨rfl,l,r,rfl,a1,a2,a3,a4,a5⟩
   dsimp only
   by_cases g:l>=r
   ·rw [if_pos g]
    have e:l=r:=by omega
    subst e
    exact wpS_pure ⟨rfl,l,l,rfl,a2,a4,a5⟩
   ·rw [if_neg g]
    refine wpS_bind (w_ltAt C hkd (al'.at (by omega)) (al'.at (by omega)) ?_)
    cases e:κ.blt (KK κ (arrOf st2) (lo+k)) (KK κ (arrOf st2) (lo+(l+r) / 2)) with
    | true =>
     show wpS _ _ _ _ (if true=true then _ else _) _ _
     rw [if_pos rfl]
     exact wpS_pure ⟨rfl,l,(l+r) / 2,rfl,by omega,by omega,by omega,a4,fun i i1 i2=>KeyOrd.klt_of_klt_of_kle e (u _ _ i1 i2)⟩
    | false =>
     show wpS _ _ _ _ (if false=true then _ else _) _ _
     rw [if_neg (by decide)]
     exact wpS_pure ⟨rfl,(l+r) / 2+1,r,rfl,by omega,by omega,by omega,fun i i1=>KeyOrd.kle_trans (u i ((l+r) / 2) (by omega) (by omega)) (show κ.kle _ _ from e),a5⟩
  case p2 =>
   rintro c st2 ⟨rfl,l,r,rfl,a1,a2,a3⟩
   show wpS _ _ _ _ (moveDown' (lo+k) (lo+l) >>= fun _=>pure (ForInStep.yield (none,()))) _ _
   rw [moveDown'_eq]
   have hs:lo+k<(arrOf st2).size:=by omega
   refine wpS_bind (wpS_modify (wpS_pure ⟨rfl,f.trans ⟨rfl,rfl,rfl,bubble_perm _ _ _,fun i hi=>?_⟩,by omega,fun i j i1 i2=>?_⟩))
   ·show (bubble (arrOf st2) (lo+k) (lo+k - (lo+l)))[i]?=_
    rw [getElem?_bubble hs _ (by omega),if_neg (by omega),if_neg (by omega)]
   ·show κ.kle (KK κ (bubble (arrOf st2) (lo+k) (lo+k - (lo+l))) (lo+i)) (KK κ (bubble (arrOf st2) (lo+k) (lo+k - (lo+l))) (lo+j))
    rw [KK_bubble hs (by omega),KK_bubble hs (by omega),show lo+k - (lo+k - (lo+l))=lo+l by omega]
    by_cases c1:lo+i=lo+l
    ·rw [if_pos c1]
     by_cases c2:lo+j=lo+l
     ·rw [if_pos c2];exact KeyOrd.kle_refl _
     ·rw [if_neg c2,if_pos (by omega)]
      have q:=a3 (j - 1) (by omega) (by omega)
      rw [show lo+(j - 1)=lo+j - 1 by omega] at q
      exact KeyOrd.kle_of_klt q
    ·rw [if_neg c1]
     by_cases c2:lo+j=lo+l
     ·rw [if_pos c2,if_neg (by omega)]
      exact a2 i (by omega)
     ·rw [if_neg c2]
      by_cases c3:lo+l<lo+i/\lo+i<=lo+k
      ·rw [if_pos c3,if_pos (by omega)]
       have q:=u (i - 1) (j - 1) (by omega) (by omega)
       rw [show lo+(i - 1)=lo+i - 1 by omega,show lo+(j - 1)=lo+j - 1 by omega] at q
       exact q
      ·rw [if_neg c3]
       by_cases c4:lo+l<lo+j/\lo+j<=lo+k
       ·rw [if_pos c4]
        have q:=u i (j - 1) (by omega) (by omega)
        rw [show lo+(j - 1)=lo+j - 1 by omega] at q
        exact q
       ·rw [if_neg c4]
        exact u i j i1 (by omega)
end
section
variable {prog:Program} {w:World} {A:Around} {E:Value->Shared->Prop} {s:Shared} {kd:SortKind} {κ:KeyKind}
def seg (arr:Array Keyed) (lo n:Nat):List Keyed:=(arr.toList.drop lo).take n
theorem seg_at {arr:Array Keyed} {lo n i:Nat} (hi:i<n):(seg arr lo n)[i]?=arr[lo+i]?:=by
 unfold seg
 rw [List.getElem?_take_of_lt hi,List.getElem?_drop];simp
theorem seg_len {arr:Array Keyed} {lo n:Nat} (h:lo+n<=arr.size):(seg arr lo n).length=n:=by
 unfold seg
 rw [List.length_take,List.length_drop];simp;omega
theorem up_srt {st:SortSt} {lo n:Nat} (h:lo+n<=(arrOf st).size):Up κ st lo n↔Srt κ (seg (arrOf st) lo n):=by
 have hl:=seg_len h
 have at':∀i (hi:i<(seg (arrOf st) lo n).length),KK κ (arrOf st) (lo+i)=kk κ (seg (arrOf st) lo n)[i]:=fun i hi=>by
  have e:(seg (arrOf st) lo n)[i]?=some (seg (arrOf st) lo n)[i]:=by simp
  rw [seg_at (by omega)] at e
  exact KK_at e
 constructor
 ·intro u
  refine List.pairwise_iff_getElem.mpr fun i j hi hj hij=>?_
  show κ.kle _ _
  rw [<-at' i hi,<-at' j hj]
  exact u i j (by omega) (by omega)
 ·intro p i j hij hj
  rw [at' i (by omega),at' j (by omega)]
  by_cases e:i=j
  ·subst e;exact KeyOrd.kle_refl _
  ·exact List.pairwise_iff_getElem.mp p i j (by omega) (by omega) (by omega)
end
end Tim
namespace ST
open PySem PySem.SetTable
abbrev Rise (l:List Nat):Prop:=l.Pairwise (·<·)
theorem zEl {xs:Array Nat} (hr:Rise xs.toList) {i k:Nat} {x y:Nat} (hik:i<k) (ex:xs[i]?=some x) (ey:xs[k]?=some y):x<y:=by
 rw [<-Array.getElem?_toList] at ex ey
 obtain ⟨hi,rfl⟩:=List.getElem?_eq_some_iff.mp ex
 obtain ⟨hk,rfl⟩:=List.getElem?_eq_some_iff.mp ey
 exact List.pairwise_iff_getElem.mp hr i k hi hk hik
structure Bel (xs:Array Nat) (j r:Nat):Prop where
 le:r<=xs.size
 lo:∀i x,i<r->xs[i]?=some x->x<j
 hi:∀i x,r<=i->xs[i]?=some x->j<=x
theorem zJq {xs:Array Nat} (hr:Rise xs.toList) {j:Nat}:∀(fuel lo hi:Nat),hi - lo<=fuel->lo<=hi->hi<=xs.size->(∀i x,i<lo->xs[i]?=some x->x<j)->(∀i x,hi<=i->xs[i]?=some x->j<=x)->Bel xs j (below.go xs j fuel lo hi)
 | 0,lo,hi,h1,h2,h3,h4,h5=>by
  have e:lo=hi:=by omega
  subst e
  exact ⟨h3,h4,h5⟩
 | fuel+1,lo,hi,h1,h2,h3,h4,h5=>by
  unfold below.go
  by_cases c:lo<hi
  ·rw [if_pos c]
   have hm:(lo+hi) / 2<xs.size:=by omega
   have em:xs[(lo+hi) / 2]?=some xs[(lo+hi) / 2]:=by simp
   have eD:xs.getD ((lo+hi) / 2) j=xs[(lo+hi) / 2]:=by simp [Array.getD,hm]
   show Bel xs j (if xs.getD ((lo+hi) / 2) j<j then _ else _)
   rw [eD]
   by_cases d:xs[(lo+hi) / 2]<j
   ·rw [if_pos d]
    refine zJq hr fuel _ hi (by omega) (by omega) h3 (fun i x hi' ex=>?_) h5
    by_cases q:i=(lo+hi) / 2
    ·subst q;rw [em] at ex;cases ex;exact d
    ·have:=zEl hr (show i<(lo+hi) / 2 by omega) ex em;omega
   ·rw [if_neg d]
    refine zJq hr fuel lo _ (by omega) (by omega) (by omega) h4 (fun i x hi' ex=>?_)
    by_cases q:i=(lo+hi) / 2
    ·subst q;rw [em] at ex;cases ex;omega
    ·have:=zEl hr (show (lo+hi) / 2<i by omega) em ex;omega
  ·rw [if_neg c]
   have e:lo=hi:=by omega
   subst e
   exact ⟨h3,h4,h5⟩
theorem zEr {xs:Array Nat} (hr:Rise xs.toList) (j:Nat):Bel xs j (below xs j) :=
 zJq hr xs.size 0 xs.size (by omega) (by omega) (Nat.le_refl _) (fun i x h=>by omega) (fun i x h e=>by
  have:=(Array.getElem?_eq_some_iff.mp e).1;omega)
theorem Bel.at {xs:Array Nat} (hr:Rise xs.toList) {j r:Nat} (B:Bel xs j r) {i:Nat} (e:xs[i]?=some j):r=i:=by
 rcases Nat.lt_trichotomy r i with z| z| z
 ·have hi:i<xs.size:=(Array.getElem?_eq_some_iff.mp e).1
  have er:xs[r]?=some (xs[r]'(by omega)):=by simp
  have h1:=B.hi r _ (Nat.le_refl _) er
  have h2:=zEl hr z er e
  omega
 ·exact z
 ·have:=B.lo i j z e;omega
def Tb (mask:Nat):SetTable:={mask:=mask,place:=#[],dummies:=#[],finger:=0,led:=false,moves:=0,plain:=false}
def pr (mask:Nat) (h:Int):Nat->Probe
 | 0=>(Tb mask).probeStart h
 | n+1=>(Tb mask).advance (pr mask h n)
def rs (mask:Nat) (h:Int):Nat->Nat×Nat
 | 0=>(bits h % (mask+1),bits h)
 | r+1=>leap mask (rs mask h r).1 (rs mask h r).2
def stt (mask:Nat) (h:Int):Nat->Nat
 | 0=>0
 | r+1=>stt mask h r+(runEnd mask (rs mask h r).1 - (rs mask h r).1+1)
theorem rs_le (mask:Nat) (h:Int):∀r,(rs mask h r).1<=mask
 | 0=>Nat.le_of_lt_succ (Nat.mod_lt _ (Nat.succ_pos _))
 | r+1=>Nat.le_of_lt_succ (Nat.mod_lt _ (Nat.succ_pos _))
theorem run_le (mask i:Nat) (hi:i<=mask):i<=runEnd mask i/\runEnd mask i<=mask/\runEnd mask i - i<=9:=by
 unfold runEnd
 split<;>omega
theorem stt_le (mask:Nat) (h:Int):∀r,stt mask h r<=10*r
 | 0=>Nat.le_refl _
 | r+1=>by
  have h1:=stt_le mask h r
  have h2:=(run_le mask _ (rs_le mask h r)).2.2
  show stt mask h r+(runEnd mask (rs mask h r).1 - (rs mask h r).1+1)<=_
  omega
theorem adv_more (mask:Nat) (p:Probe) (h:p.more>0):(Tb mask).advance p={p with j:=p.j+1,more:=p.more - 1}:=by
 unfold advance;rw [if_pos h]
theorem adv_leap (mask:Nat) (p:Probe) (h:p.more=0):(Tb mask).advance p={p with j:=(leap mask p.i p.perturb).1,more:=runEnd mask (leap mask p.i p.perturb).1 - (leap mask p.i p.perturb).1,i:=(leap mask p.i p.perturb).1,perturb:=(leap mask p.i p.perturb).2}:=by
 unfold advance;rw [if_neg (by omega)];rfl
theorem zFl (mask:Nat) (h:Int):∀(r k:Nat),k<=runEnd mask (rs mask h r).1 - (rs mask h r).1 ->
  pr mask h (stt mask h r+k)={j:=(rs mask h r).1+k,more:=runEnd mask (rs mask h r).1 - (rs mask h r).1 - k,i:=(rs mask h r).1,perturb:=(rs mask h r).2,dummy:=none}
 | 0,0,_=>rfl
 | r+1,0,_=>by
  have ih:=zFl mask h r (runEnd mask (rs mask h r).1 - (rs mask h r).1) (Nat.le_refl _)
  show pr mask h (stt mask h r+(runEnd mask (rs mask h r).1 - (rs mask h r).1)+1)=_
  show (Tb mask).advance (pr mask h (stt mask h r+(runEnd mask (rs mask h r).1 - (rs mask h r).1)))=_
  rw [ih,adv_leap _ _ (by simp)]
  rfl
 | r,k+1,hk=>by
  have ih:=zFl mask h r k (by omega)
  show (Tb mask).advance (pr mask h (stt mask h r+k))=_
  rw [ih,adv_more _ _ (by show _ - k>0;omega)]
  simp only [Probe.mk.injEq]
  exact ⟨by omega,by omega,trivial,trivial,trivial⟩
theorem pr_at (mask:Nat) (h:Int) (n:Nat):∃r k,n=stt mask h r+k/\k<=runEnd mask (rs mask h r).1 - (rs mask h r).1:=by
 induction n with
 | zero=>exact ⟨0,0,rfl,Nat.zero_le _⟩
 | succ n ih =>
  obtain ⟨r,k,e,hk⟩:=ih
  by_cases c:k<runEnd mask (rs mask h r).1 - (rs mask h r).1
  ·exact ⟨r,k+1,by omega,c⟩
  ·refine ⟨r+1,0,?_,Nat.zero_le _⟩
   show n+1=stt mask h r+(runEnd mask (rs mask h r).1 - (rs mask h r).1+1)+0
   omega
theorem pr_le (mask:Nat) (h:Int) (n:Nat):(pr mask h n).j<=mask:=by
 obtain ⟨r,k,e,hk⟩:=pr_at mask h n
 rw [e,zFl mask h r k hk]
 have:=run_le mask _ (rs_le mask h r)
 show (rs mask h r).1+k<=mask
 omega
theorem pr_dummy (mask:Nat) (h:Int) (n:Nat):(pr mask h n).dummy=none:=by
 obtain ⟨r,k,e,hk⟩:=pr_at mask h n
 rw [e,zFl mask h r k hk]
theorem bits_lt (h:Int):bits h<2^64:=by
 unfold bits
 have h1:=Int.emod_nonneg h (show (2^64:Int)≠0 by decide)
 have h2:=Int.emod_lt_of_pos h (show (0:Int)<2^64 by decide)
 omega
theorem rs_pert (mask:Nat) (h:Int):∀r,(rs mask h r).2=bits h / 32^r
 | 0=>by simp [rs]
 | r+1=>by
  show (rs mask h r).2 / 32=_
  rw [rs_pert mask h r,Nat.div_div_eq_div_mul,Nat.pow_succ]
theorem rs_pert0 (mask:Nat) (h:Int) (r:Nat) (hr:13<=r):(rs mask h r).2=0:=by
 rw [rs_pert]
 have h1:=bits_lt h
 have h2:32^13<=32^r:=Nat.pow_le_pow_right (by decide) hr
 have h3:(2:Nat)^64<32^13:=by decide
 exact Nat.div_eq_of_lt (by omega)
def f5 (mask i:Nat):Nat:=(i*5+1) % (mask+1)
def it5 (mask:Nat):Nat->Nat->Nat
 | 0,i=>i
 | n+1,i=>it5 mask n (f5 mask i)
theorem zHd (mask:Nat):∀(a b i:Nat),it5 mask (a+b) i=it5 mask b (it5 mask a i)
 | 0,b,i=>by rw [Nat.zero_add];rfl
 | a+1,b,i=>by
  rw [show a+1+b=(a+b)+1 by omega]
  show it5 mask (a+b) (f5 mask i)=it5 mask b (it5 mask a (f5 mask i))
  exact zHd mask a b _
theorem rs_it5 (mask:Nat) (h:Int) (n:Nat):(rs mask h (13+n)).1=it5 mask n (rs mask h 13).1:=by
 induction n with
 | zero=>rfl
 | succ n ih =>
  show (leap mask (rs mask h (13+n)).1 (rs mask h (13+n)).2).1=_
  rw [rs_pert0 mask h (13+n) (by omega),ih,show n+1=n+1 from rfl,zHd mask n 1]
  show ((it5 mask n _)*5+1+0 / 32) % (mask+1)=f5 mask (it5 mask n _)
  unfold f5
  simp
def Msk (mask:Nat):Prop:=mask=7\/mask=31\/mask=127\/mask=511
def orb (mask:Nat):Nat->Nat->List Nat
 | 0,_=>[]
 | n+1,i=>i::orb mask n (f5 mask i)
theorem orb_mem (mask:Nat):∀(n i s:Nat),s∈orb mask n i->∃a,a<n/\it5 mask a i=s
 | 0,i,s,h=>by simp [orb] at h
 | n+1,i,s,h=>by
  rcases List.mem_cons.mp h with z| z
  ·exact ⟨0,by omega,z.symm⟩
  ·obtain ⟨a,ha,e⟩:=orb_mem mask n (f5 mask i) s z
   exact ⟨a+1,by omega,e⟩
theorem orb_all {mask:Nat} (hm:Msk mask):(List.range (mask+1)).all (fun s=>(orb mask (mask+1) 0).contains s)=true/\it5 mask (mask+1) 0=0:=by
 rcases hm with rfl| rfl| rfl| rfl
 ·exact ⟨by decide +kernel,by decide +kernel⟩
 ·exact ⟨by decide +kernel,by decide +kernel⟩
 ·exact ⟨by decide +kernel,by decide +kernel⟩
 ·exact ⟨by decide +kernel,by decide +kernel⟩
theorem cyc {mask:Nat} (hm:Msk mask) (i s:Nat) (hi:i<=mask) (hs:s<=mask):∃r,r<=mask/\it5 mask r i=s:=by
 obtain ⟨h1,h2⟩:=orb_all hm
 have get:∀x,x<=mask->∃a,a<mask+1/\it5 mask a 0=x:=fun x hx=>by
  have:=List.all_eq_true.mp h1 x (List.mem_range.mpr (by omega))
  exact orb_mem mask (mask+1) 0 x (by simpa using this)
 obtain ⟨a,ha,ea⟩:=get i hi
 obtain ⟨b,hb,eb⟩:=get s hs
 by_cases c:a<=b
 ·refine ⟨b - a,by omega,?_⟩
  rw [<-ea,<-zHd,show a+(b - a)=b by omega,eb]
 ·refine ⟨mask+1 - a+b,by omega,?_⟩
  rw [<-ea,<-zHd,show a+(mask+1 - a+b)=mask+1+b by omega,zHd,h2,eb]
theorem pr_all {mask:Nat} (hm:Msk mask) (h:Int) (s:Nat) (hs:s<=mask):∃r,r<=13+mask/\(rs mask h r).1=s:=by
 obtain ⟨r,hr,e⟩:=cyc hm (rs mask h 13).1 s (rs_le mask h 13) hs
 exact ⟨13+r,by omega,by rw [rs_it5,e]⟩
theorem free_slot {mask:Nat} {L:List Nat} (hL:L.length<=mask):∃s,s<=mask/\s∉L:=by
 apply Classical.byContradiction
 intro h
 have sub:∀s,s∈List.range (mask+1)->s∈L:=fun s hs=>by
  apply Classical.byContradiction
  intro q
  exact h ⟨s,by have:=List.mem_range.mp hs;omega,q⟩
 have:=(List.nodup_range (n:=mask+1)).length_le_of_subset sub
 rw [List.length_range] at this
 omega
theorem pr_free {mask:Nat} (hm:Msk mask) (h:Int) {L:List Nat} (hL:L.length<=mask):∃n,n<10*turns mask/\(pr mask h n).j∉L:=by
 obtain ⟨s,hs,q⟩:=free_slot hL
 obtain ⟨r,hr,e⟩:=pr_all hm h s hs
 refine ⟨stt mask h r,?_,?_⟩
 ·have:=stt_le mask h r
  unfold turns
  omega
 ·have:=zFl mask h r 0 (Nat.zero_le _)
  rw [Nat.add_zero] at this
  rw [this]
  show (rs mask h r).1+0∉L
  rw [Nat.add_zero,e];exact q
theorem zIg {mask:Nat} (hm:Msk mask) (h:Int) {L:List Nat} (hL:L.length<=mask):∃n,n<10*turns mask/\(pr mask h n).j∉L/\∀m,m<n->(pr mask h m).j∈L:=by
 obtain ⟨n,hn,q⟩:=pr_free hm h hL
 induction n using Nat.strongRecOn with
 | _ n ih =>
  by_cases c:∃m,m<n/\(pr mask h m).j∉L
  ·obtain ⟨m,hm',qm⟩:=c
   exact ih m hm' (by omega) qm
  ·refine ⟨n,hn,q,fun m hmn=>?_⟩
   apply Classical.byContradiction
   intro z
   exact c ⟨m,hmn,z⟩
structure TOk (t:SetTable) (hs:List Int):Prop where
 m:Msk t.mask
 d:t.dummies=#[]
 r:Rise t.place.toList
 l:∀j∈t.place.toList,j<=t.mask
 n:t.place.size=hs.length
 f:t.place.size<=t.mask
 reach:∀(i j:Nat) (h:Int),t.place[i]?=some j->hs[i]?=some h->∃n,(pr t.mask h n).j=j/\∀m,m<n->(pr t.mask h m).j∈t.place.toList
theorem fresh_ok (fi mo:Nat) (led:Bool):TOk (SetTable.fresh fi mo led) [] :=
 ⟨.inl rfl,rfl,List.Pairwise.nil,(fun j h=>absurd (show j∈([]:List Nat) from h) (by simp)),rfl,Nat.zero_le _,(fun i j h _ e=>by simp at e)⟩
theorem has_nil (j:Nat):has #[] j=false:=by
 unfold SetTable.has
 simp
section
variable {t:SetTable} {hs:List Int}
theorem slot_live (T:TOk t hs) {i j:Nat} (e:t.place[i]?=some j):t.slot j= .live i:=by
 have b:=(zEr T.r j).at T.r e
 unfold slot
 rw [b]
 show (if (t.place[i]?==some j)=true then _ else _)=_
 rw [e]
 simp
theorem slot_empty (T:TOk t hs) {j:Nat} (h:j∉t.place.toList):t.slot j= .empty:=by
 unfold slot
 have e:(t.place[below t.place j]?==some j)=false:=by
  rw [beq_eq_false_iff_ne]
  intro z
  exact h (List.mem_of_getElem? (i:=below t.place j) (by rw [Array.getElem?_toList];exact z))
 simp only [e,T.d,has_nil]
 simp
theorem mem_at {xs:Array Nat} {j:Nat} (h:j∈xs.toList):∃i:Nat,xs[i]?=some j:=by
 obtain ⟨i,hi,e⟩:=List.mem_iff_getElem.mp h
 exact ⟨i,by rw [<-Array.getElem?_toList];exact List.getElem?_eq_some_iff.mpr ⟨hi,e⟩⟩
def Oth (t:SetTable) (hashAt:Nat->Int) (h:Int) (m:Nat):Prop:=∃i:Nat,t.place[i]?=some (pr t.mask h m).j/\hashAt i≠h
theorem adv_pr (t:SetTable) (h:Int) (n:Nat):t.advance (pr t.mask h n)=pr t.mask h (n+1):=rfl
theorem go_ok (T:TOk t hs) (hashAt:Nat->Int) (h:Int) {N:Nat} (hN:(pr t.mask h N).j∉t.place.toList) (hb:∀m,m<N->(pr t.mask h m).j∈t.place.toList):∀(d n fuel:Nat),N=n+d->d<fuel ->
  (probe.go t hashAt h fuel (pr t.mask h n)=some (.empty (pr t.mask h N).j none)/\∀m,n<=m->m<N->Oth t hashAt h m) \/
  ∃m i,n<=m/\m<N/\t.place[i]?=some (pr t.mask h m).j/\hashAt i=h/\probe.go t hashAt h fuel (pr t.mask h n)=some (.candidate (pr t.mask h m).j i (pr t.mask h (m+1)))/\∀m',n<=m'->m'<m->Oth t hashAt h m'
 | 0,n,fuel+1,e,_=>by
  have e:N=n:=by omega
  subst e
  left
  refine ⟨?_,fun m h1 h2=>by omega⟩
  unfold probe.go
  rw [slot_empty T hN]
  show some (Met.empty _ (pr t.mask h N).dummy)=_
  rw [pr_dummy]
 | d+1,n,fuel+1,e,hf=>by
  obtain ⟨i,ei⟩:=mem_at (hb n (by omega))
  unfold probe.go
  rw [slot_live T ei]
  by_cases c:hashAt i=h
  ·right
   refine ⟨n,i,Nat.le_refl _,by omega,ei,c,?_,fun m' h1 h2=>by omega⟩
   show (if (hashAt i==h)=true then _ else _)=_
   rw [if_pos (by simpa using c),adv_pr]
  ·have q:(if (hashAt i==h)=true then some (Met.candidate (pr t.mask h n).j i (t.advance (pr t.mask h n))) else probe.go t hashAt h fuel (t.advance (pr t.mask h n)))=probe.go t hashAt h fuel (pr t.mask h (n+1)):=by
    rw [if_neg (by simpa using c),adv_pr]
   rcases go_ok T hashAt h hN hb d (n+1) fuel (by omega) (by omega) with ⟨z1,z2⟩| ⟨m,i',z1,z2,z3,z4,z5,z6⟩
   ·left
    refine ⟨q.trans z1,fun m h1 h2=>?_⟩
    by_cases cm:m=n
    ·subst cm;exact ⟨i,ei,c⟩
    ·exact z2 m (by omega) h2
   ·right
    refine ⟨m,i',by omega,z2,z3,z4,q.trans z5,fun m' h1 h2=>?_⟩
    by_cases cm:m'=n
    ·subst cm;exact ⟨i,ei,c⟩
    ·exact z6 m' (by omega) h2
 | _,_,0,_,h=>by omega
theorem zJi {α:Type} (xs:Array α) (p:Nat) (x:α) (hp:p<=xs.size):(insertAt xs p x).toList=xs.toList.take p++x::xs.toList.drop p:=by
 unfold insertAt
 rw [Array.toList_append,Array.toList_push,Array.toList_extract,Array.toList_extract,List.extract_eq_drop_take,List.extract_eq_drop_take]
 rw [List.take_of_length_le (l:=xs.toList.drop p) (by simp)]
 simp
theorem ins_rise {xs:Array Nat} (hr:Rise xs.toList) {j:Nat} (hj:j∉xs.toList):Rise (insertAt xs (below xs j) j).toList:=by
 have B:=zEr hr j
 rw [zJi _ _ _ B.le]
 refine List.pairwise_append.mpr ⟨hr.sublist (List.take_sublist _ _),List.pairwise_cons.mpr ⟨fun y hy=>?_,hr.sublist (List.drop_sublist _ _)⟩,fun x hx y hy=>?_⟩
 ·obtain ⟨i,hi,rfl⟩:=List.mem_iff_getElem.mp hy
  rw [List.length_drop] at hi
  have e:xs[below xs j+i]?=some (xs.toList.drop (below xs j))[i]:=by
   rw [<-Array.getElem?_toList,<-List.getElem?_drop];simp
  have h1:=B.hi _ _ (Nat.le_add_right _ i) e
  have h2:(xs.toList.drop (below xs j))[i]≠j:=fun z=>hj (z▸List.mem_of_mem_drop hy)
  omega
 ·have hxj:x<j:=by
   obtain ⟨i,hi,rfl⟩:=List.mem_iff_getElem.mp hx
   rw [List.length_take] at hi
   have e:xs[i]?=some (xs.toList.take (below xs j))[i]:=by
    rw [<-Array.getElem?_toList,<-List.getElem?_take_of_lt (show i<below xs j by omega)]
    exact List.getElem?_eq_getElem _
   exact B.lo i _ (by omega) e
  rcases List.mem_cons.mp hy with z| z
  ·rw [z];exact hxj
  ·obtain ⟨i,hi,rfl⟩:=List.mem_iff_getElem.mp z
   rw [List.length_drop] at hi
   have e:xs[below xs j+i]?=some (xs.toList.drop (below xs j))[i]:=by
    rw [<-Array.getElem?_toList,<-List.getElem?_drop];simp
   have h1:=B.hi _ _ (Nat.le_add_right _ i) e
   omega
theorem zF5 {α β:Type} {L:List α} {M:List β} (hl:L.length=M.length) {p:Nat} (hp:p<=L.length) {x:α} {y:β} {i:Nat} {u:α} {v:β} (h1:(L.take p++x::L.drop p)[i]?=some u) (h2:(M.take p++y::M.drop p)[i]?=some v) :
  (u=x/\v=y)\/∃i':Nat,L[i']?=some u/\M[i']?=some v:=by
 have l1:(L.take p).length=p:=by rw [List.length_take];omega
 have l2:(M.take p).length=p:=by rw [List.length_take];omega
 by_cases c:i<p
 ·rw [List.getElem?_append_left (by omega),List.getElem?_take_of_lt c] at h1 h2
  exact .inr ⟨i,h1,h2⟩
 ·rw [List.getElem?_append_right (by omega)] at h1 h2
  rw [l1] at h1
  rw [l2] at h2
  cases e:i - p with
  | zero =>
   rw [e] at h1 h2
   exact .inl ⟨(by simpa using h1.symm),(by simpa using h2.symm)⟩
  | succ k =>
   rw [e] at h1 h2
   rw [List.getElem?_cons_succ,List.getElem?_drop] at h1 h2
   exact .inr ⟨p+k,h1,h2⟩
theorem put_ok (T:TOk t hs) (h:Int) {N:Nat} (hN:(pr t.mask h N).j∉t.place.toList) (hb:∀m,m<N->(pr t.mask h m).j∈t.place.toList) (hf:t.place.size+1<=t.mask) :
  TOk (t.put (pr t.mask h N).j).1 (hs.take (t.put (pr t.mask h N).j).2++h::hs.drop (t.put (pr t.mask h N).j).2):=by
 have B:=zEr T.r (pr t.mask h N).j
 have ep:(t.put (pr t.mask h N).j).2=below t.place (pr t.mask h N).j:=rfl
 have el:(t.put (pr t.mask h N).j).1.place=insertAt t.place (below t.place (pr t.mask h N).j) (pr t.mask h N).j:=rfl
 have em:(t.put (pr t.mask h N).j).1.mask=t.mask:=rfl
 have tl:=zJi t.place (below t.place (pr t.mask h N).j) (pr t.mask h N).j B.le
 have mem:∀j,j∈t.place.toList->j∈(insertAt t.place (below t.place (pr t.mask h N).j) (pr t.mask h N).j).toList:=fun j hj=>by
  rw [tl]
  have:j∈t.place.toList.take (below t.place (pr t.mask h N).j)++t.place.toList.drop (below t.place (pr t.mask h N).j):=by rw [List.take_append_drop];exact hj
  rcases List.mem_append.mp this with z| z
  ·exact List.mem_append_left _ z
  ·exact List.mem_append_right _ (List.mem_cons_of_mem _ z)
 have sz:(insertAt t.place (below t.place (pr t.mask h N).j) (pr t.mask h N).j).size=t.place.size+1:=by
  have:=congrArg List.length tl
  simp only [Array.length_toList,List.length_append,List.length_cons,List.length_take,List.length_drop] at this
  have:=B.le
  omega
 refine ⟨T.m,?_,ins_rise T.r hN,fun j hj=>?_,?_,?_,fun i j h' e1 e2=>?_⟩
 ·show (if has t.dummies (pr t.mask h N).j then _ else t.dummies)=#[]
  rw [T.d,has_nil];rfl
 ·rw [em]
  rw [el,tl] at hj
  rcases List.mem_append.mp hj with z| z
  ·exact T.l j (List.mem_of_mem_take z)
  ·rcases List.mem_cons.mp z with z| z
   ·rw [z];exact pr_le _ _ _
   ·exact T.l j (List.mem_of_mem_drop z)
 ·rw [el,sz,ep,List.length_append,List.length_cons,List.length_take,List.length_drop]
  have:=B.le
  have:=T.n
  omega
 ·rw [el,sz];exact hf
 ·rw [em]
  rw [el,<-Array.getElem?_toList,tl] at e1
  rw [ep] at e2
  rw [el]
  rcases zF5 (L:=t.place.toList) (M:=hs) (by simpa using T.n) (by simpa using B.le) e1 e2 with ⟨z1,z2⟩| ⟨i',z1,z2⟩
  ·subst z1 z2
   exact ⟨N,rfl,fun m hm=>mem _ (hb m hm)⟩
  ·obtain ⟨n,q1,q2⟩:=T.reach i' j h' (by rw [<-Array.getElem?_toList];exact z1) z2
   exact ⟨n,q1,fun m hm=>mem _ (q2 m hm)⟩
end
structure Ow (mask:Nat) (hs:List Int) (owner:Array (Option Nat)) (sl:List Nat):Prop where
 z:owner.size=mask+1
 n:sl.length=hs.length
 nd:sl.Nodup
 l:∀j∈sl,j<=mask
 a:∀(k j:Nat),sl[k]?=some j->owner[j]?=some (some k)
 e:∀j,j<=mask->j∉sl->owner[j]?=some none
 reach:∀(k j:Nat) (h:Int),sl[k]?=some j->hs[k]?=some h->∃n,(pr mask h n).j=j/\∀m,m<n->(pr mask h m).j∈sl
theorem zJe {mask:Nat} {hs:List Int} {owner:Array (Option Nat)} {sl:List Nat} (O:Ow mask hs owner sl) {j:Nat} (hj:j<=mask):((owner.getD j (some 0)).isNone=true)↔j∉sl:=by
 have hz:j<owner.size:=by rw [O.z];omega
 have eD:owner.getD j (some 0)=owner[j]:=by simp [Array.getD,hz]
 rw [eD]
 constructor
 ·intro h q
  obtain ⟨k,hk,e⟩:=List.mem_iff_getElem.mp q
  have:=O.a k j (List.getElem?_eq_some_iff.mpr ⟨hk,e⟩)
  rw [Array.getElem?_eq_getElem hz] at this
  rw [Option.some.inj this] at h
  simp at h
 ·intro q
  have:=O.e j hj q
  rw [Array.getElem?_eq_getElem hz] at this
  rw [Option.some.inj this]
  rfl
theorem free_go {mask:Nat} {hs:List Int} {owner:Array (Option Nat)} {sl:List Nat} (hm:Msk mask) (O:Ow mask hs owner sl) (hl:sl.length<=mask) (h:Int) {N:Nat} (hN:(pr mask h N).j∉sl) (hb:∀m,m<N->(pr mask h m).j∈sl) {R:Nat} (hR:(rs mask h R).1∉sl) :
  ∀(fuel r:Nat),stt mask h r<=N->R<r+fuel->layClean.free mask owner fuel (rs mask h r).1 (rs mask h r).2=some (pr mask h N).j
 | 0,r,h1,h2=>by
  exfalso
  have key:∀d,stt mask h R<=stt mask h (R+d)/\(0<d->stt mask h R<stt mask h (R+d)):=by
   intro d
   induction d with
   | zero=>exact ⟨Nat.le_refl _,fun z=>by omega⟩
   | succ d ih =>
    have e:stt mask h (R+(d+1))=stt mask h (R+d)+(runEnd mask (rs mask h (R+d)).1 - (rs mask h (R+d)).1+1):=rfl
    exact ⟨by omega,fun _=>by omega⟩
  obtain ⟨d,rfl⟩:∃d,r=R+d:=⟨r - R,by omega⟩
  have hd:0<d:=by omega
  have:=(key d).2 hd
  have q:=hb (stt mask h R) (by omega)
  have e:=zFl mask h R 0 (Nat.zero_le _)
  rw [Nat.add_zero] at e
  rw [e] at q
  exact hR (by simpa using q)
 | fuel+1,r,h1,h2=>by
  have rl:=run_le mask _ (rs_le mask h r)
  unfold layClean.free
  cases q:(List.range (runEnd mask (rs mask h r).1+1 - (rs mask h r).1)).find? fun k=>(owner.getD ((rs mask h r).1+k) (some 0)).isNone with
  | some k =>
   have q1:=List.find?_some q
   have q2:=List.mem_of_find?_eq_some q
   rw [List.mem_range] at q2
   have q1:((owner.getD ((rs mask h r).1+k) (some 0)).isNone)=true:=q1
   rw [zJe O (by omega)] at q1
   have e:=zFl mask h r k (by omega)
   have hk:(pr mask h (stt mask h r+k)).j=(rs mask h r).1+k:=by rw [e]
   have c1:¬stt mask h r+k<N:=fun z=>q1 (hk▸hb _ z)
   have c2:¬N<stt mask h r+k:=fun z=>by
    obtain ⟨d,hd⟩:∃d,N=stt mask h r+d:=⟨N - stt mask h r,by omega⟩
    have hdk:d<k:=by omega
    rw [List.find?_eq_some_iff_append] at q
    obtain ⟨_,as,bs,e1,e2⟩:=q
    have la:as.length=k:=by
     have:=congrArg (fun l=>l[as.length]?) e1
     simp at this
     by_cases cc:as.length<runEnd mask (rs mask h r).1+1 - (rs mask h r).1
     ·rw [List.getElem?_range cc] at this
      exact Option.some.inj this
     ·rw [List.getElem?_eq_none (by simp;omega)] at this
      cases this
    have mem:d∈as:=by
     have hd':(List.range (runEnd mask (rs mask h r).1+1 - (rs mask h r).1))[d]?=some d:=List.getElem?_range (by omega)
     rw [e1,List.getElem?_append_left (by omega)] at hd'
     exact List.mem_of_getElem? hd'
    have z1:=e2 d mem
    have ed:=zFl mask h r d (by omega)
    have hjd:(pr mask h N).j=(rs mask h r).1+d:=by rw [hd,ed]
    have z2:((owner.getD ((rs mask h r).1+d) (some 0)).isNone)=true:=(zJe O (by omega)).mpr (hjd▸hN)
    rw [z2] at z1
    simp at z1
   have eN:N=stt mask h r+k:=by omega
   show some ((rs mask h r).1+k)=_
   rw [eN,hk]
  | none =>
   have q1:=List.find?_eq_none.mp q
   refine free_go hm O hl h hN hb hR fuel (r+1) ?_ (by omega)
   show stt mask h r+(runEnd mask (rs mask h r).1 - (rs mask h r).1+1)<=N
   apply Classical.byContradiction
   intro c
   obtain ⟨d,hd⟩:∃d,N=stt mask h r+d:=⟨N - stt mask h r,by omega⟩
   have ed:=zFl mask h r d (by omega)
   have hjd:(pr mask h N).j=(rs mask h r).1+d:=by rw [hd,ed]
   have z1:=q1 d (List.mem_range.mpr (by omega))
   have z2:((owner.getD ((rs mask h r).1+d) (some 0)).isNone)=true:=(zJe O (by omega)).mpr (hjd▸hN)
   exact z1 z2
theorem free_ok {mask:Nat} {hs:List Int} {owner:Array (Option Nat)} {sl:List Nat} (hm:Msk mask) (O:Ow mask hs owner sl) (hl:sl.length<=mask) (h:Int) :
  ∃N,(pr mask h N).j∉sl/\(∀m,m<N->(pr mask h m).j∈sl)/\layClean.free mask owner (turns mask) (bits h % (mask+1)) (bits h)=some (pr mask h N).j:=by
 obtain ⟨N,_,hN,hb⟩:=zIg hm h hl
 obtain ⟨s,hs',q⟩:=free_slot hl
 obtain ⟨R,hR,e⟩:=pr_all hm h s hs'
 exact ⟨N,hN,hb,free_go hm O hl h hN hb (R:=R) (by rw [e];exact q) (turns mask) 0 (Nat.zero_le _) (by unfold turns;omega)⟩
theorem Ow.more {mask:Nat} {hs:List Int} {owner:Array (Option Nat)} {sl:List Nat} (O:Ow mask hs owner sl) (h:Int) {N:Nat} (hN:(pr mask h N).j∉sl) (hb:∀m,m<N->(pr mask h m).j∈sl) :
  Ow mask (hs++[h]) (owner.setIfInBounds (pr mask h N).j (some hs.length)) (sl++[(pr mask h N).j]):=by
 have hj:=pr_le mask h N
 have hz:(pr mask h N).j<owner.size:=by rw [O.z];omega
 have one:∀{k j:Nat},(sl++[(pr mask h N).j])[k]?=some j->(k<sl.length/\sl[k]?=some j)\/(k=sl.length/\j=(pr mask h N).j):=fun {k j} e=>by
  by_cases c:k<sl.length
  ·rw [List.getElem?_append_left c] at e;exact .inl ⟨c,e⟩
  ·rw [List.getElem?_append_right (by omega)] at e
   have hk:k=sl.length:=by
    have:=(List.getElem?_eq_some_iff.mp e).1
    simp at this;omega
   subst hk
   exact .inr ⟨rfl,by simpa using e.symm⟩
 refine ⟨by rw [Array.size_setIfInBounds];exact O.z,by simp [O.n],?_,fun j hj'=>?_,fun k j e=>?_,fun j hj1 hj2=>?_,fun k j h' e1 e2=>?_⟩
 ·refine List.nodup_append.mpr ⟨O.nd,List.nodup_cons.mpr ⟨by simp,List.nodup_nil⟩,fun a ha b hb'=>?_⟩
  have:b=(pr mask h N).j:=by simpa using hb'
  subst this
  intro z;subst z;exact hN ha
 ·rcases List.mem_append.mp hj' with z| z
  ·exact O.l j z
  ·have:j=(pr mask h N).j:=by simpa using z
   rw [this];exact hj
 ·rcases one e with ⟨_,z⟩| ⟨z1,z2⟩
  ·have hne:j≠(pr mask h N).j:=fun q=>hN (q▸List.mem_of_getElem? z)
   rw [Array.getElem?_setIfInBounds_ne (Ne.symm hne)]
   exact O.a k j z
  ·subst z1 z2
   rw [Array.getElem?_setIfInBounds_self_of_lt hz,O.n]
 ·have h1:j∉sl:=fun q=>hj2 (List.mem_append_left _ q)
  have h2:j≠(pr mask h N).j:=fun q=>hj2 (List.mem_append_right _ (by simp [q]))
  rw [Array.getElem?_setIfInBounds_ne (Ne.symm h2)]
  exact O.e j hj1 h1
 ·rcases one e1 with ⟨c,z⟩| ⟨z1,z2⟩
  ·rw [List.getElem?_append_left (by rw [<-O.n];exact c)] at e2
   obtain ⟨n,q1,q2⟩:=O.reach k j h' z e2
   exact ⟨n,q1,fun m hm=>List.mem_append_left _ (q2 m hm)⟩
  ·subst z1 z2
   rw [List.getElem?_append_right (by rw [O.n];exact Nat.le_refl _),O.n] at e2
   have:h'=h:=by simpa using e2.symm
   subst this
   exact ⟨N,rfl,fun m hm=>List.mem_append_left _ (hb m hm)⟩
theorem lay_ok {mask:Nat} (hm:Msk mask) (hs:List Int) (hl:hs.length<=mask):∃owner sl,Ow mask hs owner sl/\layClean mask hs.toArray=some owner:=by
 have key:∀(rest done:List Int) (owner:Array (Option Nat)) (sl:List Nat),Ow mask done owner sl->done.length+rest.length<=mask ->
   ∃owner' sl',Ow mask (done++rest) owner' sl'/\rest.foldl (fun (acc:Option (Array (Option Nat)×Nat)) h=>do
    let (owner,k)<-acc
    let j<-layClean.free mask owner (turns mask) (bits h % (mask+1)) (bits h)
    pure (owner.setIfInBounds j (some k),k+1)) (some (owner,done.length))=some (owner',(done++rest).length):=by
  intro rest
  induction rest with
  | nil=>intro done owner sl O _;exact ⟨owner,sl,by rw [List.append_nil];exact O,by rw [List.append_nil];rfl⟩
  | cons h rest ih =>
   intro done owner sl O hl
   rw [List.length_cons] at hl
   obtain ⟨N,hN,hb,ef⟩:=free_ok hm O (by rw [O.n];omega) h
   have O2:=O.more h hN hb
   obtain ⟨o',s',O3,e3⟩:=ih (done++[h]) _ _ O2 (by rw [List.length_append];simp;omega)
   refine ⟨o',s',by simpa using O3,?_⟩
   rw [List.foldl_cons]
   have e4:(do
    let (owner,k)<-(some (owner,done.length):Option (Array (Option Nat)×Nat))
    let j<-layClean.free mask owner (turns mask) (bits h % (mask+1)) (bits h)
    pure (owner.setIfInBounds j (some k),k+1))=some (owner.setIfInBounds (pr mask h N).j (some done.length),(done++[h]).length):=by
    show (do
     let j<-layClean.free mask owner (turns mask) (bits h % (mask+1)) (bits h)
     pure (owner.setIfInBounds j (some done.length),done.length+1))=_
    rw [ef]
    simp
   rw [e4,e3]
   simp
 have O0:Ow mask [] (Array.replicate (mask+1) none) []:=⟨Array.size_replicate,rfl,List.nodup_nil,(fun j h=>absurd h List.not_mem_nil),(fun k j e=>by rw [List.getElem?_nil] at e;cases e),(fun j hj _=>by rw [Array.getElem?_replicate,if_pos (by omega)]),(fun k j h e=>by rw [List.getElem?_nil] at e;cases e)⟩
 obtain ⟨o,sl,O,e⟩:=key hs [] _ _ O0 (by simpa using hl)
 refine ⟨o,sl,by simpa using O,?_⟩
 unfold layClean
 rw [List.foldl_toArray]
 have e':=e
 simp only [List.nil_append,List.length_nil] at e'
 show Option.map _ (hs.foldl _ (some (Array.replicate (mask+1) none,0)))=_
 rw [e']
 rfl
theorem laid_ok {mask:Nat} (hm:Msk mask) (hs:List Int) (hl:hs.length<=mask) (fi mo:Nat) (led plain:Bool):∃t order,laid mask fi mo led plain hs.toArray=some (t,order)/\t.mask=mask/\t.led=led/\t.plain=plain/\order.toList.Perm (List.range hs.length) /\
  TOk t (order.toList.map fun k=>hs.getD k 0):=by
 obtain ⟨owner,sl,O,e⟩:=lay_ok hm hs hl
 have hg:∀j,j<=mask->owner.getD j none=(owner[j]?).getD none:=fun j hj=>by
  have hz:j<owner.size:=by rw [O.z];omega
  simp [Array.getD,hz]
 have el:∀j,j<=mask->((owner.getD j none).map (j,·)=none↔j∉sl):=fun j hj=>by
  rw [hg j hj]
  constructor
  ·intro q z
   obtain ⟨k,hk,ek⟩:=List.mem_iff_getElem.mp z
   rw [O.a k j (List.getElem?_eq_some_iff.mpr ⟨hk,ek⟩)] at q
   cases q
  ·intro q
   rw [O.e j hj q];rfl
 have es:∀j k,j<=mask->((owner.getD j none).map (j,·)=some (j,k)↔sl[k]?=some j):=fun j k hj=>by
  rw [hg j hj]
  constructor
  ·intro q
   by_cases c:j∈sl
   ·obtain ⟨k',hk,ek⟩:=List.mem_iff_getElem.mp c
    have ek':=List.getElem?_eq_some_iff.mpr ⟨hk,ek⟩
    rw [O.a k' j ek'] at q
    have q:some (j,k')=some (j,k):=q
    injection q with q
    injection q with _ q
    rw [<-q];exact ek'
   ·rw [O.e j hj c] at q;cases q
  ·intro q
   rw [O.a k j q];rfl
 generalize hlive:(List.range (mask+1)).filterMap (fun j=>(owner.getD j none).map (j,·))=live
 have mem:∀p,p∈live↔sl[p.2]?=some p.1:=fun p=>by
  rw [<-hlive,List.mem_filterMap]
  constructor
  ·rintro ⟨j,hj,q⟩
   have hj':j<=mask:=by have:=List.mem_range.mp hj;omega
   have:p.1=j:=by
    cases h:owner.getD j none with
    | none=>rw [h] at q;cases q
    | some k=>rw [h] at q;have q:some (j,k)=some p:=q;injection q with q;rw [<-q]
   subst this
   exact (es p.1 p.2 hj').mp q
  ·intro q
   have hj:p.1<=mask:=O.l _ (List.mem_of_getElem? q)
   exact ⟨p.1,List.mem_range.mpr (by omega),(es p.1 p.2 hj).mpr q⟩
 have rise:Rise (live.map (·.1)):=by
  have h1:(List.range (mask+1)).Pairwise (·<·):=List.pairwise_lt_range
  rw [<-hlive,List.map_filterMap]
  refine List.Pairwise.filterMap _ (fun a b hab x hx y hy=>?_) h1
  cases ha:owner.getD a none with
  | none=>rw [ha] at hx;cases hx
  | some k =>
   rw [ha] at hx
   have hx:some a=some x:=hx
   cases hb:owner.getD b none with
   | none=>rw [hb] at hy;cases hy
   | some k' =>
    rw [hb] at hy
    have hy:some b=some y:=hy
    injection hx with hx
    injection hy with hy
    omega
 have nd2:(live.map (·.2)).Nodup:=by
  have hr:live.Pairwise (fun a b=>a.1<b.1):=List.pairwise_map.mp rise
  refine List.pairwise_map.mpr (hr.imp_of_mem fun {a b} ha hb hab q=>?_)
  have h1:=(mem a).mp ha
  have h2:=(mem b).mp hb
  rw [q] at h1
  rw [h1] at h2
  have:=Option.some.inj h2
  omega
 have perm:(live.map (·.2)).Perm (List.range hs.length):=by
  refine (List.perm_ext_iff_of_nodup nd2 List.nodup_range).mpr fun k=>?_
  rw [List.mem_range,List.mem_map]
  constructor
  ·rintro ⟨p,hp,rfl⟩
   have:=(List.getElem?_eq_some_iff.mp ((mem p).mp hp)).1
   rw [O.n] at this;exact this
  ·intro hk
   have hk':k<sl.length:=by rw [O.n];exact hk
   exact ⟨(sl[k],k),(mem _).mpr (by simp),rfl⟩
 have pmem:∀j,j∈live.map (·.1)↔j∈sl:=fun j=>by
  rw [List.mem_map]
  constructor
  ·rintro ⟨p,hp,rfl⟩;exact List.mem_of_getElem? ((mem p).mp hp)
  ·intro q
   obtain ⟨k,hk,ek⟩:=List.mem_iff_getElem.mp q
   exact ⟨(j,k),(mem _).mpr (List.getElem?_eq_some_iff.mpr ⟨hk,ek⟩),rfl⟩
 have llen:live.length=hs.length:=by
  have:=perm.length_eq
  simpa using this
 refine ⟨{mask,place:=(live.map (·.1)).toArray,dummies:=#[],finger:=fi,led,moves:=mo,plain},(live.map (·.2)).toArray,?_,rfl,rfl,rfl,by simpa using perm,?_⟩
 ·unfold laid
  rw [e]
  show some (_,_)=some (_,_)
  rw [hlive]
 ·refine ⟨hm,rfl,by simpa using rise,fun j hj=>?_,by simp [llen],by simp [llen];exact hl,fun i j h e1 e2=>?_⟩
  ·exact O.l j ((pmem j).mp (by simpa using hj))
  ·have e1:(live.map (·.1))[i]?=some j:=by simpa using e1
   have e2:((live.map (·.2)).map fun k=>hs.getD k 0)[i]?=some h:=by simpa using e2
   cases q:live[i]? with
   | none=>rw [List.getElem?_map,q] at e1;cases e1
   | some p =>
    rw [List.getElem?_map,q] at e1
    rw [List.getElem?_map,List.getElem?_map,q] at e2
    have e1:p.1=j:=by simpa using e1
    have e2:hs.getD p.2 0=h:=by simpa using e2
    have hp:=(mem p).mp (List.mem_of_getElem? q)
    rw [e1] at hp
    have hk:p.2<hs.length:=by rw [<-O.n];exact (List.getElem?_eq_some_iff.mp hp).1
    have hh:hs[p.2]?=some h:=by
     rw [<-e2,List.getD_eq_getElem?_getD]
     simp [hk]
    obtain ⟨n,q1,q2⟩:=O.reach p.2 j h hp hh
    exact ⟨n,q1,fun m hm=>by
     have:=(pmem _).mpr (q2 m hm)
     simpa using this⟩
section
variable {prog:Program} {w:World} {K:Type} [DecidableEq K] {knd:KeyKind prog w K} {A:Around} {E:Value->Shared->Prop} {s:Shared}
theorem byv_noref {v:Value} (h:carriedByValue v=true):∀a,v≠.ref a:=by
 intro a e;subst e;simp [carriedByValue] at h
theorem cls_byv (n:Nat) {v:Value} (h:carriedByValue v=true):ofAClassStatement n v=pure false:=by
 cases v with
 | ref a=>exact absurd rfl (byv_noref h a)
 | _=>cases n<;>(unfold ofAClassStatement;rfl)
theorem w_cls {k:List K} {b:Addr} {Q:Bool->Shared->Prop} (hk:IsTupleKey knd s.heap k b) (h:Q false s):wpAny (model prog w) A (ofAClassStatement 8 (.ref b)) Q E s:=by
 have hT:=hk.typeIs
 obtain ⟨o,items,n,ho,_,hd,hi⟩:=hk
 unfold ofAClassStatement
 refine wpAny_bind (wpAny_typeOf hT ?_)
 show wpAny _ _ (if ("tuple" == "tuple")=true then _ else _) _ _ _
 rw [if_pos (by decide)]
 refine wpAny_bind (wpAny_pure ?_)
 show wpAny _ _ (if (!true)=true then _ else _) _ _ _
 rw [if_neg (by decide)]
 show wpAny _ _ (seqItems? (.ref b) >>= _) _ _ _
 refine wpAny_bind ?_
 show wpAny _ _ (load b >>= _) _ _ _
 refine wpAny_bind (wpAny_load ho ?_)
 rw [hd]
 refine wpAny_pure ?_
 dsimp only
 refine wpAny_bind ?_
 show wpAny _ _ (forIn items _ _) _ _ s
 rw [<-Array.forIn_toList]
 refine wpAny_forIn_list _ (fun rest r s'=>r.1=none/\s'=s/\∀v∈rest,carriedByValue v=true) _ ?_ ?_ _ _ ⟨rfl,rfl,hi.byValue⟩
 ·rintro v rest r s' ⟨hr,rfl,hall⟩
  refine wpAny_bind (wpAny_of_eq (cls_byv _ (hall v List.mem_cons_self)) ?_)
  rw [if_neg (by decide)]
  exact wpAny_pure ⟨rfl,rfl,fun u hu'=>hall u (List.mem_cons_of_mem _ hu')⟩
 ·rintro ⟨r1,r2⟩ s' ⟨hr,rfl,_⟩
  have hr:r1=none:=hr
  subst hr
  exact wpAny_pure h
theorem w_seen {k:List K} {b:Addr} {stored:List Value} {Q:Bool->Shared->Prop} (hk:IsTupleKey knd s.heap k b) (hs:∀v∈stored,∃k' b',v= .ref b'/\IsTupleKey knd s.heap k' b') (h:Q false s):wpAny (model prog w) A (searchCouldBeSeen (.ref b) stored) Q E s:=by
 unfold searchCouldBeSeen
 refine wpAny_bind ?_
 refine wpAny_forIn_list _ (fun rest r s'=>r.1=none/\s'=s/\∀v∈rest,∃k' b',v= .ref b'/\IsTupleKey knd s.heap k' b') _ ?_ ?_ _ _ ⟨rfl,rfl,hs⟩
 ·rintro v rest r s' ⟨hr,rfl,hall⟩
  obtain ⟨k',b',rfl,hk'⟩:=hall v List.mem_cons_self
  have hall':∀u∈rest,∃k' b',u= .ref b'/\IsTupleKey knd s'.heap k' b':=fun u hu'=>hall u (List.mem_cons_of_mem _ hu')
  dsimp only
  by_cases c:((b==b')||(carriedByValue (.ref b)&&carriedByValue (.ref b')))=true
  ·rw [if_pos c]
   exact wpAny_pure ⟨rfl,rfl,hall'⟩
  ·rw [if_neg c]
   refine wpAny_bind (wpAny_eqIsQuiet_tuple hk ?_)
   rw [if_neg (by decide)]
   refine wpAny_bind (wpAny_eqIsQuiet_tuple hk' ?_)
   rw [if_neg (by decide)]
   refine wpAny_bind (w_cls hk ?_)
   rw [if_neg (by decide)]
   refine wpAny_bind (w_cls hk' ?_)
   rw [if_neg (by decide)]
   exact wpAny_pure ⟨rfl,rfl,hall'⟩
 ·rintro ⟨r1,r2⟩ s' ⟨hr,rfl,_⟩
  have hr:r1=none:=hr
  subst hr
  exact wpAny_pure h
theorem hbv_byv (n:Nat) {v:Value} (h:carriedByValue v=true):∃c,hashByValue n v=pure c:=by
 cases v with
 | ref a=>exact absurd rfl (byv_noref h a)
 | _=>cases n<;>(unfold hashByValue;exact ⟨_,rfl⟩)
theorem w_hbv {k:List K} {b:Addr} {Q:Bool->Shared->Prop} (hk:IsTupleKey knd s.heap k b) (h:∀c,Q c s):wpAny (model prog w) A (hashByValue 8 (.ref b)) Q E s:=by
 have hT:=hk.typeIs
 obtain ⟨o,items,n,ho,_,hd,hi⟩:=hk
 unfold hashByValue
 refine wpAny_bind (wpAny_specialOf hT F.slot_tuple_hash.lookup ?_)
 show wpAny _ _ (seqItems? (.ref b) >>= _) _ _ _
 refine wpAny_bind ?_
 show wpAny _ _ (load b >>= _) _ _ _
 refine wpAny_bind (wpAny_load ho ?_)
 rw [hd]
 refine wpAny_pure ?_
 dsimp only
 refine wpAny_bind ?_
 show wpAny _ _ (forIn items _ _) _ _ s
 rw [<-Array.forIn_toList]
 refine wpAny_forIn_list _ (fun rest r s'=>s'=s/\∀v∈rest,carriedByValue v=true) _ ?_ ?_ _ _ ⟨rfl,hi.byValue⟩
 ·rintro v rest r s' ⟨rfl,hall⟩
  obtain ⟨c,ec⟩:=hbv_byv 7 (hall v List.mem_cons_self)
  rw [ec]
  refine wpAny_bind (wpAny_pure ?_)
  split
  ·exact wpAny_pure (wpAny_pure (h _))
  ·exact wpAny_pure ⟨rfl,fun u hu'=>hall u (List.mem_cons_of_mem _ hu')⟩
 ·rintro ⟨r1,r2⟩ s' ⟨rfl,_⟩
  cases r1 with
  | none=>exact wpAny_pure (h _)
  | some c=>exact wpAny_pure (h _)
end
section
variable {prog:Program} {w:World} {K:Type} [DecidableEq K] {knd:KeyKind prog w K} {A:Around} {E:Value->Shared->Prop} {s:Shared}
def en (knd:KeyKind prog w K) (p:List K×Addr):Int×Value:=(tupleKeyHash knd p.1,.ref p.2)
def byt (w:World):Bool:=w.params.followText "set-order"
structure SetX (knd:KeyKind prog w K) (h:Heap) (a:Addr) (xs:List (List K×Addr)) (o:Obj) (es:Array (Int×Value)) (ep:Nat) (t:SetTable):Prop where
 ho:h.get? a=some o
 ex:o.ExactSet
 hd:o.data= .set es ep t
 el:es.toList=xs.map (en knd)
 ok:TOk t (xs.map fun p=>tupleKeyHash knd p.1)
 room:xs.length*5<t.mask*3
 nd:(xs.map (·.1)).Nodup
 ky:∀p∈xs,IsTupleKey knd h p.1 p.2
 ld:t.led= !byt w
section
variable {a:Addr} {xs:List (List K×Addr)} {o:Obj} {es:Array (Int×Value)} {ep:Nat} {t:SetTable}
theorem SetX.at (X:SetX knd s.heap a xs o es ep t) (i:Nat):es[i]?=(xs[i]?).map (en knd):=by
 rw [<-Array.getElem?_toList,X.el,List.getElem?_map]
theorem SetX.size (X:SetX knd s.heap a xs o es ep t):es.size=xs.length:=by
 have:=congrArg List.length X.el
 simpa using this
theorem SetX.fits (X:SetX knd s.heap a xs o es ep t):t.fits es.size=true:=by
 unfold SetTable.fits
 have h1:t.place.size=es.size:=by rw [X.ok.n,X.size];simp
 have h2:t.fill<=t.mask:=by
  unfold fill
  rw [X.ok.d]
  exact X.ok.f
 rw [h1]
 simp [h2]
theorem SetX.state (X:SetX knd s.heap a xs o es ep t) {Q:(Array (Int×Value)×Nat×SetTable)->Shared->Prop} (h:Q (es,ep,t) s):wpAny (model prog w) A (setState a) Q E s:=wpAny_setState_of X.ho X.hd X.fits h
theorem msk_odd {m:Nat} (h:Msk m):(m % 2==0)=false:=by
 rcases h with rfl| rfl| rfl| rfl<;>decide
theorem SetX.has (X:SetX knd s.heap a xs o es ep t) {i j:Nat} (e:t.place[i]?=some j):∃p,xs[i]?=some p:=by
 have h1:i<t.place.size:=(Array.getElem?_eq_some_iff.mp e).1
 have h2:=X.ok.n
 rw [List.length_map] at h2
 exact ⟨xs[i]'(by omega),by simp⟩
theorem split_seen {α:Type} {c:Bool} {m:Sem Bool} {u:String} {jp:Unit->Sem α} {Q:α->Shared->Prop} (hm:∀f:Bool->Sem α,wpAny (model prog w) A (f false) Q E s->wpAny (model prog w) A (m >>= f) Q E s) (h:wpAny (model prog w) A (jp ()) Q E s) :
  wpAny (model prog w) A (if c=true then (m >>= fun l=>if l=true then (unsupported u >>= jp) else jp ()) else jp ()) Q E s:=by
 by_cases z:c=true
 ·rw [if_pos z]
  exact hm _ h
 ·rw [if_neg z]
  exact h
theorem w_search (hu:A.units<cLine) (X:SetX knd s.heap a xs o es ep t) {k:List K} {b:Addr} (hk:IsTupleKey knd s.heap k b) {N:Nat} (hN:(pr t.mask (tupleKeyHash knd k) N).j∉t.place.toList) (hb:∀m,m<N->(pr t.mask (tupleKeyHash knd k) m).j∈t.place.toList) (hNf:N<10*turns t.mask)
  {Q:SetFound->Shared->Prop} (h1:k∈xs.map (·.1)->Q (.there none) s) (h2:k∉xs.map (·.1)->Q (.free (pr t.mask (tupleKeyHash knd k) N).j false) s) :
  ∀(d n fuel:Nat) (stand:Option Probe),N=n+d->d<fuel->stand.getD (t.probeStart (tupleKeyHash knd k))=pr t.mask (tupleKeyHash knd k) n ->
   (∀m,m<n->∃(i:Nat) (p:List K×Addr),t.place[i]?=some (pr t.mask (tupleKeyHash knd k) m).j/\xs[i]?=some p/\p.1≠k)->wpAny (model prog w) A (setSearchFrom a (.ref b) (tupleKeyHash knd k) true fuel stand) Q E s:=by
 intro d
 induction d using Nat.strongRecOn with
 | _ d ih =>
  intro n fuel stand e hf hst hseen
  obtain ⟨fuel,rfl⟩:∃f,fuel=f+1:=⟨fuel - 1,by omega⟩
  unfold setSearchFrom
  refine wpAny_bind (X.state ?_)
  show wpAny _ _ (if (t.mask % 2==0)=true then _ else _) _ _ _
  rw [msk_odd X.ok.m,if_neg (by decide)]
  have oth:∀m,Oth t (fun i=>(es[i]?.map (·.1)).getD 0) (tupleKeyHash knd k) m->∃(i:Nat) (p:List K×Addr),t.place[i]?=some (pr t.mask (tupleKeyHash knd k) m).j/\xs[i]?=some p/\p.1≠k:=fun m ⟨i,ei,hi⟩=>by
   obtain ⟨p,ep'⟩:=X.has ei
   refine ⟨i,p,ei,ep',fun z=>hi ?_⟩
   show (es[i]?.map (·.1)).getD 0=_
   rw [X.at i,ep',<-z];rfl
  rw [hst]
  rcases go_ok X.ok (fun i=>(es[i]?.map (·.1)).getD 0) (tupleKeyHash knd k) hN hb d n (10*turns t.mask) e (by omega) with ⟨z1,z2⟩| ⟨m,i,z1,z2,z3,z4,z5,z6⟩
  ·have z1:t.probe (fun i=>(es[i]?.map (·.1)).getD 0) (tupleKeyHash knd k) (pr t.mask (tupleKeyHash knd k) n)=some (.empty (pr t.mask (tupleKeyHash knd k) N).j none):=z1
   erw [z1]
   refine wpAny_pure (h2 fun hm=>?_)
   obtain ⟨p,hp,rfl⟩:=List.mem_map.mp hm
   obtain ⟨i,hi,ei⟩:=List.mem_iff_getElem.mp hp
   have exi:xs[i]?=some p:=List.getElem?_eq_some_iff.mpr ⟨hi,ei⟩
   have hpl:i<t.place.size:=by rw [X.ok.n,List.length_map];exact hi
   have epl:t.place[i]?=some t.place[i]:=by simp
   obtain ⟨q,q1,q2⟩:=X.ok.reach i t.place[i] (tupleKeyHash knd p.1) epl (by rw [List.getElem?_map,exi];rfl)
   have hqN:q<N:=by
    apply Classical.byContradiction
    intro c
    by_cases cq:q=N
    ·subst cq
     exact hN (by rw [q1];exact List.mem_of_getElem? (i:=i) (by rw [Array.getElem?_toList];exact epl))
    ·exact hN (q2 N (by omega))
   have:∃(i':Nat) (p':List K×Addr),t.place[i']?=some (pr t.mask (tupleKeyHash knd p.1) q).j/\xs[i']?=some p'/\p'.1≠p.1:=by
    by_cases c:q<n
    ·exact hseen q c
    ·exact oth q (z2 q (by omega) hqN)
   obtain ⟨i',p',w1,w2,w3⟩:=this
   rw [q1] at w1
   have:i'=i:=by
    rcases Nat.lt_trichotomy i' i with z| z| z
    ·have:=zEl X.ok.r z w1 epl;omega
    ·exact z
    ·have:=zEl X.ok.r z epl w1;omega
   subst this
   rw [exi] at w2
   cases w2
   exact w3 rfl
  ·have z5:t.probe (fun i=>(es[i]?.map (·.1)).getD 0) (tupleKeyHash knd k) (pr t.mask (tupleKeyHash knd k) n)=some (.candidate (pr t.mask (tupleKeyHash knd k) m).j i (pr t.mask (tupleKeyHash knd k) (m+1))):=z5
   erw [z5]
   obtain ⟨p,exi⟩:=X.has z3
   have hp:=X.ky p (List.mem_of_getElem? exi)
   have eei:es[i]?=some (tupleKeyHash knd p.1,.ref p.2):=by rw [X.at i,exi];rfl
   refine split_seen (fun f hf=>wpAny_bind (w_seen hk ?_ hf)) ?_
   ·intro v hv
    obtain ⟨q,hq,rfl⟩:=List.mem_map.mp hv
    have hq:q∈es.toList:=by
     have:=(Array.mem_filter.mp (Array.mem_toList_iff.mp hq)).1
     exact Array.mem_toList_iff.mpr this
    rw [X.el] at hq
    obtain ⟨p',hp',rfl⟩:=List.mem_map.mp hq
    exact ⟨p'.1,p'.2,rfl,X.ky p' hp'⟩
   dsimp only
   rw [eei]
   dsimp only
   refine wpAny_bind (wpAny_holding (wpAny_eqBool_tuple hu hp hk ?_))
   refine wpAny_bind (X.state ?_)
   dsimp only
   by_cases c:p.1=k
   ·rw [if_pos (by simp [c])]
    exact wpAny_pure (h1 (List.mem_map.mpr ⟨p,List.mem_of_getElem? exi,c⟩))
   ·rw [if_neg (by simp [c])]
    have esm:t.sameMemory t.moves t.mask=some true:=by unfold SetTable.sameMemory;simp
    rw [esm]
    dsimp only
    rw [if_pos rfl,slot_live X.ok z3]
    dsimp only
    rw [eei]
    dsimp only
    refine wpAny_bind (wpAny_isSame_ref_self ?_)
    rw [if_pos rfl]
    refine wpAny_bind (wpAny_pure ?_)
    dsimp only
    rw [if_neg (by simp [c])]
    refine ih (N - (m+1)) (by omega) (m+1) fuel (some _) (by omega) (by omega) rfl ?_
    intro q hq
    by_cases cq:q<n
    ·exact hseen q cq
    by_cases cm:q=m
    ·subst cm
     exact ⟨i,p,z3,exi,c⟩
    ·exact oth q (z6 q (by omega) (by omega))
end
end
section
variable {prog:Program} {w:World} {K:Type} [DecidableEq K] {knd:KeyKind prog w K} {A:Around} {E:Value->Shared->Prop} {s:Shared}
variable {a:Addr} {xs:List (List K×Addr)} {o:Obj} {es:Array (Int×Value)} {ep:Nat} {t:SetTable}
theorem key_but {h h':Heap} {k:List K} {b:Addr} (x:IsTupleKey knd h k b) (ho:h.get? a=some o) (hd:o.data= .set es ep t) (hs:Heap.SameBut a h h'):IsTupleKey knd h' k b:=by
 obtain ⟨o1,its,n,p1,p2,p3,p4⟩:=x
 refine ⟨o1,its,n,(hs.2 b fun z=>?_).trans p1,p2,p3,p4⟩
 subst z
 have:=Option.some.inj (p1.symm.trans ho)
 subst this
 rw [hd] at p3
 exact nomatch p3
theorem put_get {h:Heap} (ho:h.get? a=some o) (hd:o.data= .set es ep t) (es':Array (Int×Value)) (t':SetTable):(h.update a (Obj.putSet es' t')).get? a=some {o with data:=.set es' (ep+1) t'}:=by
 have:=Heap.get?_update_self (Obj.putSet es' t') ho (by rw [putSet_of es' t' hd];rfl)
 rwa [putSet_of es' t' hd] at this
theorem put_X {h:Heap} (ho:h.get? a=some o) (ex:o.ExactSet) (hd:o.data= .set es ep t) {es':Array (Int×Value)} {t':SetTable} {ys:List (List K×Addr)} (e1:es'.toList=ys.map (en knd)) (e2:TOk t' (ys.map fun p=>tupleKeyHash knd p.1)) (e3:ys.length*5<t'.mask*3) (e4:(ys.map (·.1)).Nodup) (e5:∀p∈ys,IsTupleKey knd h p.1 p.2) (e6:t'.led= !byt w) :
  SetX knd (h.update a (Obj.putSet es' t')) a ys {o with data:=.set es' (ep+1) t'} es' (ep+1) t' :=
 ⟨put_get ho hd es' t',ex,rfl,e1,e2,e3,e4,fun p hp=>key_but (e5 p hp) ho hd (Heap.SameBut.update h a _),e6⟩
theorem not_scan (b:Addr) (es:Array (Int×Value)):byScan (.ref b) es=false:=by
 unfold byScan
 rfl
theorem grow_mask {m n:Nat} (hm:Msk m) (h0:n*5<m*3) (h1:m*3<=(n+1)*5) (hc:n+1<=306):Msk (sizeAbove (grown (n+1)) - 1)/\n+1<=sizeAbove (grown (n+1)) - 1/\(n+1)*5<(sizeAbove (grown (n+1)) - 1)*3/\sizeAbove (grown (n+1))<=512:=by
 rcases hm with rfl| rfl| rfl| rfl
 ·obtain rfl:n=4:=by omega
  refine ⟨by unfold Msk;decide +kernel,by decide +kernel,by decide +kernel,by decide +kernel⟩
 ·obtain rfl:n=18:=by omega
  refine ⟨by unfold Msk;decide +kernel,by decide +kernel,by decide +kernel,by decide +kernel⟩
 ·obtain rfl:n=76:=by omega
  refine ⟨by unfold Msk;decide +kernel,by decide +kernel,by decide +kernel,by decide +kernel⟩
 ·omega
theorem getD_hash (ys:List (List K×Addr)) (order:List Nat) (hp:order.Perm (List.range ys.length)):(order.filterMap (ys[·]?)).map (fun p=>tupleKeyHash knd p.1)=order.map (fun k=>(ys.map fun p=>tupleKeyHash knd p.1).getD k 0):=by
 have hall:∀k∈order,k<ys.length:=fun k hk=>List.mem_range.mp (hp.mem_iff.mp hk)
 clear hp
 induction order with
 | nil=>rfl
 | cons k ks ih =>
  have hk:=hall k List.mem_cons_self
  have e:ys[k]?=some ys[k]:=by simp [hk]
  rw [List.filterMap_cons,e]
  show tupleKeyHash knd ys[k].1::_=_::_
  rw [ih (fun q hq=>hall q (List.mem_cons_of_mem _ hq))]
  congr 1
  show _=(List.map (fun p=>tupleKeyHash knd p.fst) ys).getD k 0
  rw [List.getD_eq_getElem?_getD,List.getElem?_map,e]
  rfl
theorem range_get {α:Type} (ys:List α):(List.range ys.length).filterMap (ys[·]?)=ys:=by
 induction ys with
 | nil=>rfl
 | cons y ys ih =>
  rw [List.length_cons,List.range_succ_eq_map,List.filterMap_cons]
  show y::_=_
  rw [List.filterMap_map]
  congr 1
theorem perm_get {α:Type} (ys:List α) {order:List Nat} (hp:order.Perm (List.range ys.length)):(order.filterMap (ys[·]?)).Perm ys:=by
 have:=hp.filterMap (ys[·]?)
 rwa [range_get] at this
theorem w_relay {s:Shared} {m n:Nat} (ho:s.heap.get? a=some o) (ex:o.ExactSet) (hd:o.data= .set es ep t) (e1:es.toList=xs.map (en knd)) (e2:TOk t (xs.map fun p=>tupleKeyHash knd p.1)) (hn:xs.length=n+1) (h0:n*5<t.mask*3) (h1:t.mask*3<=(n+1)*5) (hc:n+1<=306)
  (e4:(xs.map (·.1)).Nodup) (e5:∀p∈xs,IsTupleKey knd s.heap p.1 p.2) (e6:t.led= !byt w) {Q:Unit->Shared->Prop} (h:∀h' ys o' es' ep' t',Heap.SameBut a s.heap h'->ys.Perm xs->SetX knd h' a ys o' es' ep' t'->Q () {s with heap:=h'}) :
  wpAny (model prog w) A (setRelay a (grown (n+1))) Q E s:=by
 obtain ⟨g1,g2,g3,g4⟩:=grow_mask e2.m h0 h1 hc
 have ez:es.size=xs.length:=by have:=congrArg List.length e1;simpa using this
 have hfit:t.fits es.size=true:=by
  unfold SetTable.fits
  have z1:t.place.size=es.size:=by rw [e2.n,ez];simp
  have z2:t.fill<=t.mask:=by unfold fill;rw [e2.d];exact e2.f
  rw [z1];simp [z2]
 unfold setRelay
 refine wpAny_bind (wpAny_setState_of ho hd hfit ?_)
 dsimp only
 have hsl:sizeAbove (grown (n+1))<=sizeLine:=Nat.le_trans g4 (by decide +kernel)
 rw [if_neg (Nat.not_lt.mpr hsl)]
 obtain ⟨t',order,l1,l2,l3,l4,l5,l6⟩:=laid_ok g1 (xs.map fun p=>tupleKeyHash knd p.1) (by rw [List.length_map];omega) t.finger (t.movedTo (sizeAbove (grown (n+1)) - 1)) t.led t.plain
 have lr:t.relaid (es.map (·.1)) (grown (n+1))=some (t',order):=by
  unfold relaid
  have:es.map (·.1)=(xs.map fun p=>tupleKeyHash knd p.1).toArray:=by
   apply Array.ext'
   rw [Array.toList_map,e1,List.map_map]
   rfl
  rw [this]
  exact l1
 rw [lr]
 rw [List.length_map] at l5
 have lp:=perm_get xs l5
 have el':(order.filterMap (es[·]?)).toList=(order.toList.filterMap (xs[·]?)).map (en knd):=by
  rw [Array.toList_filterMap,List.map_filterMap]
  congr 1
  funext k
  rw [<-Array.getElem?_toList,e1,List.getElem?_map]
 have ez':(order.filterMap (es[·]?)).size=es.size:=by
  rw [<-Array.length_toList,el',List.length_map,lp.length_eq,ez]
 refine wpAny_bind ?_
 show wpAny _ _ (if ((order.filterMap (es[·]?)).size != es.size)=true then _ else _) _ _ _
 rw [if_neg (by rw [ez'];simp)]
 refine wpAny_pure ?_
 dsimp only
 refine wpAny_storeSet_of ho hd ?_ (by rw [ez',ez,hn];exact Nat.le_trans hc (by decide +kernel))
 refine h _ _ _ _ _ _ (Heap.SameBut.update _ a _) lp (put_X ho ex hd el' ?_ ?_ ?_ (fun p hp=>e5 p (lp.mem_iff.mp hp)) (l3.trans e6))
 ·rw [getD_hash xs order.toList l5];exact l6
 ·rw [lp.length_eq,hn,l2];exact g3
 ·exact (lp.map (·.1)).nodup_iff.mpr e4
theorem ins_perm {α:Type} (L:List α) (p:Nat) (x:α):(L.take p++x::L.drop p).Perm (x::L):=by
 have h1:(L.take p++x::L.drop p).Perm (x::(L.take p++L.drop p)):=List.perm_middle
 rwa [List.take_append_drop] at h1
theorem plain_off {t:SetTable} {hs:List Int} (T:TOk t hs) (c:Bool):TOk (if c=true then t else {t with plain:=false}) hs/\(if c=true then t else {t with plain:=false}).mask=t.mask/\(if c=true then t else {t with plain:=false}).tooFull=t.tooFull/\(if c=true then t else {t with plain:=false}).led=t.led:=by
 cases c
 ·exact ⟨⟨T.m,T.d,T.r,T.l,T.n,T.f,T.reach⟩,rfl,rfl,rfl⟩
 ·exact ⟨T,rfl,rfl,rfl⟩
theorem w_add (hu:A.units<cLine) (X:SetX knd s.heap a xs o es ep t) {k:List K} {b:Addr} (hk:IsTupleKey knd s.heap k b) (hc:xs.length+1<=306) {Q:Bool->Shared->Prop} (h1:k∈xs.map (·.1)->Q false s)
  (h2:k∉xs.map (·.1)->∀h' ys o' es' ep' t',Heap.SameBut a s.heap h'->ys.Perm ((k,b)::xs)->SetX knd h' a ys o' es' ep' t'->Q true {s with heap:=h'}) :
  wpAny (model prog w) A (setAddHashed a (.ref b) (tupleKeyHash knd k)) Q E s:=by
 unfold setAddHashed setAddHashedIn
 refine wpAny_holding (wpAny_bind (X.state ?_))
 dsimp only
 rw [not_scan,if_neg (by decide)]
 have hpl:t.place.toList.length=xs.length:=by
  have:=X.ok.n
  rw [List.length_map] at this
  simpa using this
 have hroom:=X.room
 obtain ⟨N,hNf,hN,hb⟩:=zIg X.ok.m (tupleKeyHash knd k) (L:=t.place.toList) (by rw [hpl];omega)
 have hT:10*turns t.mask<100000:=by
  rcases X.ok.m with z| z| z| z<;>rw [z]<;>decide +kernel
 unfold setSearch
 refine wpAny_bind (w_search hu X hk hN hb hNf ?_ ?_ N 0 100000 none (by omega) (by omega) rfl (fun m hm=>absurd hm (Nat.not_lt_zero m)))
 ·intro z
  exact wpAny_pure (h1 z)
 ·intro z
  dsimp only
  refine wpAny_bind (X.state ?_)
  dsimp only
  have hf1:t.place.size+1<=t.mask:=by
   have:t.place.size=xs.length:=by simpa using hpl
   rcases X.ok.m with z| z| z| z<;>omega
  have T1:=put_ok X.ok (tupleKeyHash knd k) hN hb hf1
  have em:(t.put (pr t.mask (tupleKeyHash knd k) N).j).1.mask=t.mask:=rfl
  have ed:(t.put (pr t.mask (tupleKeyHash knd k) N).j).1.led=t.led:=rfl
  have B:=(zEr X.ok.r (pr t.mask (tupleKeyHash knd k) N).j).le
  have ep2:(t.put (pr t.mask (tupleKeyHash knd k) N).j).2=below t.place (pr t.mask (tupleKeyHash knd k) N).j:=rfl
  have fin:∀c:Bool,wpAny (model prog w) A (do
    storeSet a (SetTable.insertAt es (t.put (pr t.mask (tupleKeyHash knd k) N).j).2 (tupleKeyHash knd k,.ref b)) (if c=true then (t.put (pr t.mask (tupleKeyHash knd k) N).j).1 else {(t.put (pr t.mask (tupleKeyHash knd k) N).j).1 with plain:=false})
    if (!false&&(if c=true then (t.put (pr t.mask (tupleKeyHash knd k) N).j).1 else {(t.put (pr t.mask (tupleKeyHash knd k) N).j).1 with plain:=false}).tooFull)=true then do
     setRelay a (SetTable.grown (es.size+1))
     pure true
    else pure true) Q E s:=by
   intro c
   generalize hp:(t.put (pr t.mask (tupleKeyHash knd k) N).j).2=p at *
   generalize ht:(t.put (pr t.mask (tupleKeyHash knd k) N).j).1=t1 at *
   have hple:p<=es.size:=by
    rw [X.size,ep2]
    have:t.place.size=xs.length:=by simpa using hpl
    omega
   obtain ⟨T2,m2,f2,d2⟩:=plain_off T1 c
   generalize ht2:(if c=true then t1 else {t1 with plain:=false})=t2 at *
   have el:(SetTable.insertAt es p (tupleKeyHash knd k,Value.ref b)).toList=(xs.take p++(k,b)::xs.drop p).map (en knd):=by
    rw [zJi es p _ hple,X.el,List.map_append,List.map_cons,List.map_take,List.map_drop]
    rfl
   have ip:=ins_perm xs p (k,b)
   have eT:(xs.map fun p=>tupleKeyHash knd p.1).take p++tupleKeyHash knd k::(xs.map fun p=>tupleKeyHash knd p.1).drop p=(xs.take p++(k,b)::xs.drop p).map fun p=>tupleKeyHash knd p.1:=by
    rw [List.map_append,List.map_cons,List.map_take,List.map_drop]
   rw [eT] at T2
   have len:(xs.take p++(k,b)::xs.drop p).length=xs.length+1:=by rw [ip.length_eq];rfl
   have nd:((xs.take p++(k,b)::xs.drop p).map (·.1)).Nodup:=by
    refine (ip.map (·.1)).nodup_iff.mpr ?_
    exact List.nodup_cons.mpr ⟨z,X.nd⟩
   have ky:∀q∈xs.take p++(k,b)::xs.drop p,IsTupleKey knd s.heap q.1 q.2:=fun q hq=>by
    rcases List.mem_cons.mp (ip.mem_iff.mp hq) with y| y
    ·subst y;exact hk
    ·exact X.ky q y
   have sz:(SetTable.insertAt es p (tupleKeyHash knd k,Value.ref b)).size=xs.length+1:=by
    have:=congrArg List.length el
    rw [List.length_map,len] at this
    simpa using this
   refine wpAny_bind (wpAny_storeSet_of X.ho X.hd ?_ (by rw [sz];exact Nat.le_trans hc (by decide +kernel)))
   have fl:t2.tooFull=decide (t.mask*3<=(xs.length+1)*5):=by
    unfold tooFull fill
    rw [T2.d,T2.n,List.length_map,len,m2,em]
    rfl
   by_cases cf:t.mask*3<=(xs.length+1)*5
   ·rw [if_pos (by rw [fl];simp [cf])]
    rw [X.size]
    refine wpAny_bind ?_
    refine w_relay (m:=0) (o:={o with data:=.set (insertAt es p (tupleKeyHash knd k,Value.ref b)) (ep+1) t2}) (put_get X.ho X.hd _ _) X.ex rfl el T2 len ?_ ?_ hc nd ?_ (d2.trans (ed.trans X.ld)) ?_
    ·rw [m2,em];exact hroom
    ·rw [m2,em];exact cf
    ·intro q hq
     exact key_but (ky q hq) X.ho X.hd (Heap.SameBut.update _ a _)
    ·intro h' ys o' es' ep' t' q1 q2 q3
     exact wpAny_pure (h2 z h' ys o' es' ep' t' ((Heap.SameBut.update _ a _).trans q1) (q2.trans ip) q3)
   ·rw [if_neg (by rw [fl];simp [cf])]
    refine wpAny_pure (h2 z _ _ _ _ _ _ (Heap.SameBut.update _ a _) ip (put_X X.ho X.ex X.hd el T2 ?_ nd ky (d2.trans (ed.trans X.ld))))
    rw [len,m2,em];omega
  by_cases cp:(t.put (pr t.mask (tupleKeyHash knd k) N).j).1.plain=true
  ·rw [if_pos cp]
   exact wpAny_bind (w_hbv hk fin)
  ·rw [if_neg cp]
   exact wpAny_bind (wpAny_pure (fin true))
end
end ST
namespace ST
open PySem PySem.SetTable PyProof.Rows
section
variable {prog:Program} {w:World} {K:Type} [DecidableEq K] {knd:KeyKind prog w K} {A:Around} {E:Value->Shared->Prop} {s:Shared}
variable {a:Addr} {xs:List (List K×Addr)} {o:Obj} {es:Array (Int×Value)} {ep:Nat} {t:SetTable}
theorem key_kept {h h':Heap} {k:List K} {b:Addr} (x:IsTupleKey knd h k b) (e:∀o,h.get? b=some o->h'.get? b=some o):IsTupleKey knd h' k b :=
 let ⟨o,its,n,p1,r⟩:=x;⟨o,its,n,e o p1,r⟩
theorem SetX.kept {h h':Heap} (X:SetX knd h a xs o es ep t) (e:∀b o,(b=a\/∃p∈xs,p.2=b)->h.get? b=some o->h'.get? b=some o):SetX knd h' a xs o es ep t :=
 ⟨e a o (.inl rfl) X.ho,X.ex,X.hd,X.el,X.ok,X.room,X.nd,fun p hp=>key_kept (X.ky p hp) fun o q=>e _ o (.inr ⟨p,hp,rfl⟩) q,X.ld⟩
def Got (knd:KeyKind prog w K) (h:Heap) (a:Addr) (ks:List (List K×Addr)):Prop :=
 ∃xs o es ep t,SetX knd h a xs o es ep t/\(∀p∈xs,p∈ks)/\(∀p∈ks,p.1∈xs.map (·.1))/\xs.length<=ks.length
theorem Got.kept {h h':Heap} {ks:List (List K×Addr)} (g:Got knd h a ks) (e:∀b o,(b=a\/∃p∈ks,p.2=b)->h.get? b=some o->h'.get? b=some o):Got knd h' a ks:=by
 obtain ⟨xs,o,es,ep,t,X,g1,g2,g3⟩:=g
 exact ⟨xs,o,es,ep,t,X.kept fun b o hb=>e b o (hb.imp id fun ⟨p,hp,q⟩=>⟨p,g1 p hp,q⟩),g1,g2,g3⟩
theorem Got.fresh {h:Heap} {a:Addr} (ho:h.get? a=some {cls:=.type "set",dict:=none,data:=.set #[] 0 (.fresh 0 0 (!byt w))}):Got knd h a [] :=
 ⟨[],_,_,_,_,⟨ho,⟨rfl,rfl,rfl⟩,rfl,rfl,fresh_ok 0 0 _,(show 0*5<7*3 by decide),List.nodup_nil,(fun p hp=>nomatch hp),rfl⟩,(fun p hp=>nomatch hp),(fun p hp=>nomatch hp),Nat.le_refl _⟩
theorem w_more {ks:List (List K×Addr)} {k:List K} {b:Addr} (hu:A.units<cLine) (g:Got knd s.heap a ks) (hk:IsTupleKey knd s.heap k b) (hc:ks.length+1<=306) {Q:Bool->Shared->Prop}
  (h:∀c h',Heap.SameBut a s.heap h'->Got knd h' a (ks++[(k,b)])->Q c {s with heap:=h',toks:=s.toks+(k.length+1)}):wpAny (model prog w) A (setAdd a (.ref b)) Q E s:=by
 obtain ⟨xs,o,es,ep,t,X,g1,g2,g3⟩:=g
 unfold setAdd
 refine wpAny_holding (wpAny_bind (wpAny_pyHash_tuple hu hk ?_))
 refine w_add (s:={s with toks:=s.toks+(k.length+1)}) hu X hk (by omega) (fun z=>?_) fun z h' ys o' es' ep' t' q1 q2 q3=>?_
 ·refine h false s.heap (Heap.SameBut.refl a s.heap) ⟨xs,o,es,ep,t,X,fun p hp=>List.mem_append_left _ (g1 p hp),fun p hp=>?_,by rw [List.length_append];exact Nat.le_succ_of_le g3⟩
  rcases List.mem_append.mp hp with y| y
  ·exact g2 p y
  ·rw [List.mem_singleton.mp y];exact z
 ·refine h true h' q1 ⟨ys,o',es',ep',t',q3,fun p hp=>?_,fun p hp=>?_,?_⟩
  ·rcases List.mem_cons.mp (q2.mem_iff.mp hp) with y| y
   ·rw [y];exact List.mem_append_right _ (List.mem_singleton.mpr rfl)
   ·exact List.mem_append_left _ (g1 p y)
  ·have m:=(q2.map (·.1)).mem_iff (a:=p.1)
   refine m.mpr ?_
   rcases List.mem_append.mp hp with y| y
   ·exact List.mem_cons_of_mem _ (g2 p y)
   ·rw [List.mem_singleton.mp y];exact List.mem_cons_self
  ·rw [q2.length_eq,List.length_append]
   exact Nat.succ_le_succ g3
end
section
variable {prog:Program} {w:World} {K:Type} [DecidableEq K] {knd:KeyKind prog w K} {A:Around} {R:Result->Shared->Prop} {I:Addr} {fp wr:List Addr} {G:Array GenState->Array GenState->Prop} {P:Nat->Value->Prop} {St:Nat->Shared->Prop}
theorem c_fill {ks:List (List K×Addr)} (hu:A.in1.units<cLine) (W:WalksS prog w A.in1 I fp wr G ks.length P St) (a:Addr) (haf:a∉fp) (hP:∀i v,P i v->∃p,ks[i]?=some p/\v= .ref p.2) (hka:∀p∈ks,p.2≠a/\p.2∉wr) (hc:ks.length<=306) :
  ∀(k i:Nat) (s:Shared),ks.length=i+k->St i s->Got knd s.heap a (ks.take i)->(∀p∈ks,IsTupleKey knd s.heap p.1 p.2) ->
   (∀s',Moved (a::wr) G s s'->Got knd s'.heap a ks->R (.ok (.ret .none)) s')->codeAny (model prog w) A (.builtin "set.update.loop" ⟨[.ref a,.ref I],[]⟩) R s:=by
 have haw:a∉wr:=fun z=>haf (W.sub a z)
 intro k
 induction k with
 | zero =>
  intro i s e st g ky hR
  have e:i=ks.length:=by omega
  subst e
  rw [List.take_length] at g
  refine codeAny_builtin PyProof.Rows.F.entry_set_update_loop ?_
  rw [Around.under_plainId PyProof.Rows.F.plain_set_update_loop _]
  change wpAny _ A.in1 (pyNext (Value.ref I) >>= _) _ _ s
  refine wpAny_bind (W.done s _ _ st fun s1 mv=>?_)
  refine wpAny_pure (hR s1 (mv.mono fun b hb=>List.mem_cons_of_mem a hb) (g.kept fun b o hb q=>mv.heap b o ?_ q))
  rcases hb with rfl| ⟨p,hp,rfl⟩
  ·exact haw
  ·exact (hka p hp).2
 | succ k ih =>
  intro i s e st g ky hR
  have hi:i<ks.length:=by omega
  refine codeAny_builtin PyProof.Rows.F.entry_set_update_loop ?_
  rw [Around.under_plainId PyProof.Rows.F.plain_set_update_loop _]
  change wpAny _ A.in1 (pyNext (Value.ref I) >>= _) _ _ s
  refine wpAny_bind (W.item i s _ _ hi st fun v s1 pv st1 mv=>?_)
  obtain ⟨p,ep,rfl⟩:=hP i v pv
  have pm:p∈ks:=List.mem_of_getElem? ep
  have up:∀b o,(b=a\/∃q∈ks,q.2=b)->s.heap.get? b=some o->s1.heap.get? b=some o:=fun b o hb q=>mv.heap b o (by
   rcases hb with rfl| ⟨p,hp,rfl⟩
   ·exact haw
   ·exact (hka p hp).2) q
  have g1:=g.kept (h':=s1.heap) fun b o hb=>up b o (hb.imp id fun ⟨q,hq,z⟩=>⟨q,List.mem_of_mem_take hq,z⟩)
  have ky1:∀q∈ks,IsTupleKey knd s1.heap q.1 q.2:=fun q hq=>key_kept (ky q hq) fun o=>up _ o (.inr ⟨q,hq,rfl⟩)
  change wpAny _ A.in1 (holding [Value.ref p.2] (setAdd a (.ref p.2)) >>= _) _ _ s1
  refine wpAny_bind (wpAny_holding (w_more (knd:=knd) hu g1 (ky1 p pm) (by rw [List.length_take];omega) fun c h' sb g2=>?_))
  have et:ks.take i++[(p.1,p.2)]=ks.take (i+1):=by
   rw [List.take_succ,ep];rfl
  rw [et] at g2
  have st2:=W.frame (i+1) s1 h' (s1.toks+(p.1.length+1)) st1 (Nat.le_add_right _ _) fun b hb o q=>by
   rw [sb.2 b fun z=>haf (z▸hb)];exact q
  refine wpAny_pure ⟨plainId_quiet PyProof.Rows.F.plain_set_update_loop _,ih (i+1) _ (by omega) st2 g2 (fun q hq=>key_kept (ky1 q hq) fun o z=>(sb.2 _ (hka q hq).1).trans z) fun s2 mv2 g3=>hR s2 ?_ g3⟩
  refine Moved.trans W.gtrans ((mv.mono fun b hb=>List.mem_cons_of_mem a hb).then_heap (Nat.le_add_right _ _) fun b o hb z=>?_) mv2
  exact (sb.2 b fun y=>hb (y▸List.mem_cons_self)).trans z
end
section
variable {prog:Program} {w:World} {K:Type} [DecidableEq K] {knd:KeyKind prog w K} {A:Around} {E:Value->Shared->Prop} {s:Shared}
def set0 (w:World):Obj:={cls:=.type "set",dict:=none,data:=.set #[] 0 (.fresh 0 0 (!byt w))}
theorem c_new (v:Value) {Q:Value->Shared->Prop} (h:Q (.ref s.heap.objs.size) {s with heap:=s.heap.push (set0 w)}):codeAny (model prog w) A (.call (.builtin "set.__new__") ⟨[.type "set",v],[]⟩) (wants Q E) s:=by
 refine codeAny_of_tree ?_
 change wpAny _ A.in1 (checkBuiltinCall "set.__new__" ⟨[.type "set",v],[]⟩ >>= fun _=>again (.builtin "set.__new__" ⟨[.type "set",v],[]⟩)) _ _ s
 refine wpAny_bind (wpAny_of_eq (F.newCall_set_1 v) (wpAny_pure ⟨plainId_quiet F.plain_set_new _,codeAny_builtin F.entry_set_new ?_⟩))
 rw [Around.under_plainId F.plain_set_new _]
 unfold Builtin.«set.__new__» Builtin.Frozenset.newClass
 have q:=sub_set_self
 obtain ⟨hp,g,d,tk,os⟩:=s
 dsimp only
 wp_walk
 refine wpAny_askSetting (wpAny_pure ?_)
 dsimp only
 simp only [newObj]
 refine wpAny_bind (wpAny_alloc (wpAny_pure (wpAny_pure ?_)))
 exact h
theorem w_setBy {l:Addr} {its:Array Value} {Z:Heap->Prop} {Q:Value->Shared->Prop} (hh:A.handled=none) (hl:s.heap.IsList l its)
  (fill:∀(A1:Around) (R:Result->Shared->Prop) (s3:Shared) (fp:List Addr) (G:Array GenState->Array GenState->Prop) (St:Nat->Shared->Prop),A1.in1.units<=A.units+3->WalksS prog w A1.in1 (s.heap.objs.size+1) fp [s.heap.objs.size+1] G its.size (fun i v=>its[i]?=some v) St->s.heap.objs.size∉fp ->
   s3.heap.get? s.heap.objs.size=some (set0 w)->(∀b o,s.heap.get? b=some o->s3.heap.get? b=some o)->St 0 s3->(∀s',Moved [s.heap.objs.size,s.heap.objs.size+1] G s3 s'->Z s'.heap->R (.ok (.ret .none)) s') ->
   codeAny (model prog w) A1 (.builtin "set.update.loop" ⟨[.ref s.heap.objs.size,.ref (s.heap.objs.size+1)],[]⟩) R s3)
  (h:∀(h':Heap) (tk:Nat),s.toks<=tk->Z h'->(∀b o,s.heap.get? b=some o->h'.get? b=some o)->Q (.ref s.heap.objs.size) {s with heap:=h',toks:=tk}) :
  wpAny (model prog w) A (call (.type "set") [.ref l]) Q E s:=by
 obtain ⟨c,tl,hmro⟩:=F.called_set.mro
 have k1:=F.called_set.made
 have k2:=F.called_set.sub
 refine wpAny_call (codeAny_of_tree ?_)
 change wpAny _ _ (callAny (.type "set") _) _ _ _
 refine wpAny_pure ⟨Code.quiet_builtin _ (by decide +kernel),codeAny_builtin F.entry_type_call ?_⟩
 rw [Around.under_plain (weight_type_call_type "set" [.ref l] []) rfl]
 have k3:=F.called_set.notType
 have k4:=F.called_set.canCreate
 have k5:=F.typeCall_set_1 (.ref l)
 repeat (any_goals (first| assumption| wp_step))
 have hne:∀b o,s.heap.get? b=some o->b≠s.heap.objs.size:=fun b o q=>Nat.ne_of_lt (Heap.lt_size q)
 refine codeAny_mono (c_new (w:=w) (.ref l) (E:=E) (Q:=fun ob s1=>ob= .ref s.heap.objs.size/\s1={s with heap:=s.heap.push (set0 w)}) ⟨rfl,rfl⟩) fun r s1 hr=>?_
 cases r with
 | error e=>exact hr
 | ok fl =>
  cases fl with
  | ret ob =>
   obtain ⟨rfl,rfl⟩:=hr
   have hS:(s.heap.push (set0 w)).get? s.heap.objs.size=some (set0 w):=Heap.get?_push_size _ rfl
   have hT:Shared.TypeIs {s with heap:=s.heap.push (set0 w)} (.ref s.heap.objs.size) "set" := ⟨_,hS,rfl⟩
   have k6:=F.called_set.init.lookup
   have k7:=F.called_set.init.bind (.ref s.heap.objs.size)
   repeat (any_goals (first| assumption| wp_step))
   refine codeAny_mono (codeAny_call_builtin (R:=wants (fun r s2=>r= .none/\∃h' tk,s2={s with heap:=h',toks:=tk}/\s.toks<=tk/\Z h'/\(∀b o,s.heap.get? b=some o->h'.get? b=some o)) E) F.called_set.init.plain F.entry_set_init (check_set_init_1 hT ?_)) fun r2 s2 hr2=>?_
   ·obtain ⟨ol,hol,hcl,nl,hdl⟩:=hl
    obtain ⟨o1,o2,o3,o4⟩:=ol
    simp only at hcl hdl
    subst hcl hdl
    have hol1:(s.heap.push (set0 w)).get? l=some {cls:=.type "list",dict:=o2,data:=.seq its nl,slots:=o4}:=Heap.get?_push_of_some _ hol
    have k8:=F.sub_list_set
    have k9:=F.sub_list_frozenset
    have k10:(Value.type "list" == Value.type "dict")=false:=by decide
    have hl1:(s.heap.push (set0 w)).IsList l its:=⟨_,hol1,rfl,nl,rfl⟩
    unfold Builtin.«set.__init__» noKeywords Builtin.Frozenset.updateFrom
    generalize hPI:pyIter=PI
    wp_walk
    subst hPI
    refine wpAny_pyIter_list hl1 ?_
    refine wpAny_bind (wpAny_runValue ?_)
    have esz:(s.heap.push (set0 w)).objs.size=s.heap.objs.size+1:=Heap.size_push _ _
    have hls:l<s.heap.objs.size:=Heap.lt_size hol
    have W:=(Walks.list (prog:=prog) (w:=w) (A:=A.in1.in1.in1) (by simpa using hh) (s.heap.push (set0 w)).objs.size l (by rw [esz];exact Nat.ne_of_lt (Nat.lt_succ_of_lt hls)) its).toS
    rw [esz] at W
    rw [esz]
    refine fill A.in1.in1 _ _ _ _ _ (by show A.units+1+1+1<=A.units+3;omega) W ?_ (Heap.get?_push_of_some _ hS) (fun b o q=>Heap.get?_push_of_some _ (Heap.get?_push_of_some _ q)) ⟨⟨_,by rw [<-esz];exact Heap.get?_push_size _ rfl,rfl,rfl⟩,hl1.push _⟩ ?_
    ·simp only [List.mem_cons,List.not_mem_nil,or_false,not_or]
     exact ⟨Nat.ne_of_lt (Nat.lt_succ_self _),Nat.ne_of_gt hls⟩
    ·intro s1 mv g
     obtain ⟨h1,g1,d1,tk1,os1⟩:=s1
     have e1:g1=s.gens:=mv.gens
     have e2:d1=s.drawn:=mv.drawn
     have e3:os1=s.os:=mv.os
     subst e1 e2 e3
     show wpAny _ _ _ _ _ _
     refine wpAny_pure (wpAny_pure ⟨rfl,h1,tk1,rfl,mv.toks,g,fun b o q=>?_⟩)
     have:=Heap.lt_size q
     exact mv.heap b o (by
      simp only [List.mem_cons,List.not_mem_nil,or_false,not_or]
      exact ⟨Nat.ne_of_lt this,Nat.ne_of_lt (Nat.lt_succ_of_lt this)⟩) (Heap.get?_push_of_some _ (Heap.get?_push_of_some _ q))
   ·cases r2 with
    | error e=>exact hr2
    | ok f2 =>
     cases f2 with
     | ret r =>
      obtain ⟨rfl,h',tk,rfl,q1,q2,q3⟩:=hr2
      repeat (any_goals (first| assumption| wp_step))
      exact h _ _ q1 q2 q3
     | _=>exact hr2.elim
  | _=>exact hr.elim
theorem w_mkset {l:Addr} {its:Array Value} {ks:List (List K×Addr)} {Q:Value->Shared->Prop} (hh:A.handled=none) (hu:A.units+8<cLine) (hl:s.heap.IsList l its) (ei:its.toList=ks.map fun p=>.ref p.2) (ky:∀p∈ks,IsTupleKey knd s.heap p.1 p.2) (hc:ks.length<=306)
  (h:∀(h':Heap) (tk:Nat),s.toks<=tk->Got knd h' s.heap.objs.size ks->(∀b o,s.heap.get? b=some o->h'.get? b=some o)->Q (.ref s.heap.objs.size) {s with heap:=h',toks:=tk}) :
  wpAny (model prog w) A (call (.type "set") [.ref l]) Q E s:=by
 refine w_setBy hh hl (fun A1 R s3 fp G St hv W hf hS kp st hR=>?_) h
 have ez:its.size=ks.length:=by
  have:=congrArg List.length ei
  simpa using this
 rw [ez] at W
 refine c_fill (knd:=knd) (by omega) W s.heap.objs.size hf (fun i v hv=>?_) (fun p hp=>?_) hc ks.length 0 _ (by omega) st (Got.fresh hS) (fun p hp=>key_kept (ky p hp) fun o q=>kp _ o q) hR
 ·have:its.toList[i]?=some v:=by rw [Array.getElem?_toList];exact hv
  rw [ei,List.getElem?_map] at this
  cases hk:ks[i]? with
  | none=>rw [hk] at this;exact nomatch this
  | some p=>rw [hk] at this;exact ⟨p,rfl,(Option.some.inj this).symm⟩
 ·obtain ⟨o,_,_,ho,_⟩:=ky p hp
  have:=Heap.lt_size ho
  simp only [List.mem_cons,List.not_mem_nil,or_false]
  exact ⟨Nat.ne_of_lt this,Nat.ne_of_lt (Nat.lt_succ_of_lt this)⟩
end
theorem zE2:Slot "set_iterator" "__next__" "set_iterator.__next__" :=
 .of (owner:= "set_iterator") (n:= "__next__") (by rw [typeLookup_type,builtinLookup_eq_fast];kernel_rfl) (by decide +kernel) (by decide +kernel) (by decide +kernel) (by first| exact .inl (by decide +kernel)| exact .inr (by decide +kernel)) (by rw [isSubtype_type];kernel_rfl)
theorem sl_self:Slot "set_iterator" "__iter__" "set_iterator.__iter__" :=
 .of (owner:= "set_iterator") (n:= "__iter__") (by rw [typeLookup_type,builtinLookup_eq_fast];kernel_rfl) (by decide +kernel) (by decide +kernel) (by decide +kernel) (by first| exact .inl (by decide +kernel)| exact .inr (by decide +kernel)) (by rw [isSubtype_type];kernel_rfl)
theorem en_next:entryFor table "set_iterator.__next__" = some Builtin.«set_iterator.__next__»:=entryFor_of_fast (by kernel_rfl)
theorem en_self:entryFor table "set_iterator.__iter__" = some Builtin.«dict_keyiterator.__iter__»:=entryFor_alias (id':= "dict_keyiterator.__iter__") (by kernel_rfl) rfl (by decide +kernel) (by kernel_rfl)
theorem en_iter:entryFor table "set.__iter__" = some Builtin.«frozenset.__iter__»:=entryFor_alias (id':= "frozenset.__iter__") (by kernel_rfl) rfl (by decide +kernel) (by kernel_rfl)
theorem ar_next (a:Value):argsOk "set_iterator.__next__" ⟨[a],[]⟩:=by unfold argsOk;kernel_rfl
theorem ar_self (a:Value):argsOk "set_iterator.__iter__" ⟨[a],[]⟩:=by unfold argsOk;kernel_rfl
theorem zDg {α:Type} {M:Model} {A:Around} {E:Value->Shared->Prop} {s:Shared} {c:Prop} [Decidable c] {x y:Sem α} {Q:α->Shared->Prop} (hc:¬c) (h:wpAny M A y Q E s):wpAny M A (if c then x else y) Q E s:=by rw [if_neg hc];exact h
theorem zE8 {α:Type} {M:Model} {A:Around} {E:Value->Shared->Prop} {s:Shared} {c:Prop} [Decidable c] {x y:Sem α} {Q:α->Shared->Prop} (hc:c) (h:wpAny M A x Q E s):wpAny M A (if c then x else y) Q E s:=by rw [if_pos hc];exact h
theorem zF7 {α:Type}:∀{L:List α} {i:Nat} {x:α},L[i]?=some x->(x::L.eraseIdx i).Perm L
 | [],i,x,h=>by simp at h
 | y::r,0,x,h=>by
  have:y=x:=Option.some.inj h
  subst this
  exact List.Perm.refl _
 | y::r,i+1,x,h=>by
  rw [List.getElem?_cons_succ] at h
  exact (List.Perm.swap y x _).trans (List.Perm.cons y (zF7 h))
theorem pick_go {α:Type} (next:Nat->Nat):∀(fuel k:Nat) (left:List α) (out:Array α),left.length<=fuel->(pickOrder.go next fuel k left out).toList.Perm (out.toList++left)
 | 0,k,left,out,h=>by
  have:left=[]:=List.length_eq_zero_iff.mp (Nat.le_zero.mp h)
  subst this
  unfold pickOrder.go
  rw [List.append_nil]
 | fuel+1,k,left,out,h=>by
  unfold pickOrder.go
  cases e:left[next k % left.length]? with
  | none =>
   have:left=[]:=by
    cases left with
    | nil=>rfl
    | cons x r =>
     have:=List.getElem?_eq_none_iff.mp e
     have h2:=Nat.mod_lt (next k) (show 0<(x::r).length from Nat.succ_pos _)
     exact absurd h2 (Nat.not_lt.mpr this)
   subst this
   dsimp only
   rw [List.append_nil]
  | some x =>
   dsimp only
   have p:=zF7 e
   have hl:=p.length_eq
   rw [List.length_cons] at hl
   refine (pick_go next fuel (k+1) _ _ (by omega)).trans ?_
   rw [Array.toList_push,List.append_assoc]
   exact List.Perm.append_left _ p
theorem pick_perm {α:Type} (next:Nat->Nat) (xs:Array α):(pickOrder next xs).toList.Perm xs.toList:=by
 have:=pick_go next xs.size 0 xs.toList #[] (by simp)
 show (pickOrder.go next xs.size 0 xs.toList #[]).toList.Perm _
 simpa using this
section
variable {prog:Program} {w:World} {K:Type} [DecidableEq K] {knd:KeyKind prog w K} {A:Around} {E:Value->Shared->Prop}
theorem w_choose {s:Shared} {src:Source} {n:Nat} (hn:n≠0) {Q:Nat->Shared->Prop} (h:∀i d,i<n->Q i {s with drawn:=d}):wpAny (model prog w) A (choose src n) Q E s:=fun _ _ _=>⟨hn,h _ _ (Nat.mod_lt _ (Nat.pos_of_ne_zero hn))⟩
theorem w_draw {α:Type}:∀(n:Nat) (L:List α) (s:Shared) (Q:List α->Shared->Prop),L.length=n->(∀M d,M.Perm L->Q M {s with drawn:=d})->wpAny (model prog w) A (drawOrder n L) Q E s
 | 0,L,s,Q,hl,h=>by
  have:L=[]:=List.length_eq_zero_iff.mp hl
  subst this
  unfold drawOrder
  exact wpAny_pure (h [] s.drawn (List.Perm.refl _))
 | n+1,[],s,Q,hl,h=>nomatch hl
 | n+1,x::r,s,Q,hl,h=>by
  unfold drawOrder
  refine wpAny_bind (w_choose (by rw [hl];exact Nat.succ_ne_zero n) fun i d hi=>?_)
  obtain ⟨y,ey⟩:∃y,(x::r)[i]?=some y:=⟨(x::r)[i],List.getElem?_eq_getElem hi⟩
  rw [ey]
  dsimp only
  have p:=zF7 ey
  have hl2:=p.length_eq
  rw [List.length_cons] at hl2
  refine wpAny_bind (w_draw n _ _ _ (by omega) fun M d' hM=>wpAny_pure ?_)
  exact h (y::M) d' ((List.Perm.cons y hM).trans p)
end
def dr (es:Array (Int×Value)) (t:SetTable):Bool:=!t.plain&&decide (es.size>1)
def ItM (w:World) (h:Heap) (a:Addr) (es:Array (Int×Value)) (ep:Nat) (t:SetTable) (ord:List Value) (i:Nat) (first:Value):Prop :=
 (byt w=true/\(∃j:Nat,first= .int j 0)/\ord=(pickOrder (w.params.setOrder a ep) es).toList.map (·.2)) \/
 (byt w=false/\∃(T:Addr) (oT:Obj) (c:Nat) (pl:List Nat),first= .ref T/\h.get? T=some oT/\oT.data= .seq (pl.map fun (p:Nat)=>Value.int p 0).toArray c/\pl.Perm (List.range es.size)/\ord=pl.filterMap fun p=>(es[p]?).map (·.2)) \/
 (byt w=false/\dr es t=false/\∃slot:Nat,first= .int slot 0/\below t.place slot=i/\ord=es.toList.map (·.2))
structure ItS (w:World) (h:Heap) (I a:Addr) (es:Array (Int×Value)) (ep:Nat) (t:SetTable) (ord:List Value) (i:Nat) (o:Obj) (first:Value):Prop where
 ho:h.get? I=some o
 hc:o.cls= .type "set_iterator"
 hd:o.data= .fields #[first,.int i 0,.ref a,.int es.size 0,.int ep 0]
 hm:ItM w h a es ep t ord i first
section
variable {prog:Program} {w:World} {K:Type} [DecidableEq K] {knd:KeyKind prog w K} {A:Around} {E:Value->Shared->Prop} {s:Shared}
variable {a I:Addr} {xs:List (List K×Addr)} {o oI:Obj} {es:Array (Int×Value)} {ep i:Nat} {t:SetTable} {ord:List Value} {first:Value}
theorem below_zero (hr:Rise t.place.toList):below t.place 0=0:=by
 have B:=zEr hr 0
 rcases Nat.eq_zero_or_pos (below t.place 0) with z| z
 ·exact z
 ·have hs:0<t.place.size:=Nat.lt_of_lt_of_le z B.le
  have e:t.place[0]?=some t.place[0]:=by simp [hs]
  exact absurd (B.lo 0 _ z e) (Nat.not_lt_zero _)
theorem below_next (hr:Rise t.place.toList) {i j:Nat} (e:t.place[i]?=some j):below t.place (j+1)=i+1:=by
 have B:=zEr hr (j+1)
 have hi:i<t.place.size:=(Array.getElem?_eq_some_iff.mp e).1
 have h1:i<below t.place (j+1):=Nat.lt_of_not_le fun z=>by have:=B.hi i j z e;omega
 rcases Nat.lt_or_ge (i+1) (below t.place (j+1)) with z| z
 ·have hs:i+1<t.place.size:=Nat.lt_of_lt_of_le z B.le
  have e2:t.place[i+1]?=some t.place[i+1]:=by simp [hs]
  have q1:=B.lo (i+1) _ z e2
  have q2:=zEl hr (Nat.lt_succ_self i) e e2
  omega
 ·omega
theorem ItM.perm {h:Heap} (m:ItM w h a es ep t ord i first):ord.Perm (es.toList.map (·.2)):=by
 rcases m with ⟨_,_,rfl⟩| ⟨_,T,oT,c,pl,_,_,_,hp,rfl⟩| ⟨_,_,slot,_,_,rfl⟩
 ·exact (pick_perm _ es).map _
 ·have:=hp.filterMap fun p=>(es[p]?).map (·.2)
  refine this.trans (List.Perm.of_eq ?_)
  rw [<-List.map_filterMap]
  congr 1
  have:=range_get es.toList
  rw [Array.length_toList] at this
  simpa using this
 ·exact List.Perm.refl _
theorem ItM.len {h:Heap} (m:ItM w h a es ep t ord i first):ord.length=es.size:=by
 rw [m.perm.length_eq];simp
theorem ItS.typeIs (it:ItS w s.heap I a es ep t ord i oI first):s.TypeIs (.ref I) "set_iterator" := ⟨_,it.ho,it.hc⟩
theorem fm_at {pl:List Nat} (hp:pl.Perm (List.range es.size)) (i:Nat):(pl.filterMap fun p=>(es[p]?).map (·.2))[i]?=(pl[i]?).bind fun p=>(es[p]?).map (·.2):=by
 have hall:∀k∈pl,k<es.size:=fun k hk=>List.mem_range.mp (hp.mem_iff.mp hk)
 clear hp
 induction pl generalizing i with
 | nil=>simp
 | cons k ks ih =>
  have hk:=hall k List.mem_cons_self
  have e:es[k]?=some es[k]:=by simp [hk]
  have ih':=fun i=>ih i fun q hq=>hall q (List.mem_cons_of_mem _ hq)
  rw [List.filterMap_cons,e]
  cases i with
  | zero=>simp [e]
  | succ i =>
   show (_::_)[i+1]?=_
   rw [List.getElem?_cons_succ,ih' i,List.getElem?_cons_succ]
theorem w_item (X:SetX knd s.heap a xs o es ep t) (it:ItS w s.heap I a es ep t ord i oI first) (hne:I≠a) {v:Value} (hv:ord[i]?=some v) {Q:Option Value->Shared->Prop}
  (h:∀h' o' f',Heap.SameBut I s.heap h'->ItS w h' I a es ep t ord (i+1) o' f'->(∀T,f'= .ref T->first= .ref T)->Q (some v) {s with heap:=h'}):wpAny (model prog w) A (pyNext (.ref I)) Q E s:=by
 unfold pyNext
 refine wpAny_bind (wpAny_attempt (wpAny_callSpecial?_slot (name:=Str.ofString "__next__") it.typeIs zE2 (wpAny_call_entry zE2 it.typeIs en_next ?_ (ar_next _))))
 unfold Builtin.«set_iterator.__next__»
 refine wpAny_bind (m:=slotArgs "__next__" 0 _) (wpAny_pure ?_)
 refine wpAny_bind (wpAny_fieldsOf it.ho it.hd ?_)
 dsimp only
 refine wpAny_bind (wpAny_setEntries_of X.ho X.hd X.fits ?_)
 refine zDg (by simp) ?_
 rcases it.hm with ⟨m1,⟨j,rfl⟩,m3⟩| ⟨m1,T,oT,c,pl,rfl,m3,m4,m5,m6⟩| ⟨m1,m2,slot,rfl,m4,m5⟩
 ·dsimp only
  refine wpAny_bind ?_
  unfold setNext
  refine wpAny_bind (X.state ?_)
  dsimp only
  refine wpAny_bind (wpAny_bind (wpAny_askSetting (wpAny_pure ?_)))
  refine zE8 m1 ?_
  refine zDg (by simp) ?_
  refine wpAny_bind ?_
  unfold setWalk
  refine wpAny_bind (X.state ?_)
  dsimp only
  refine wpAny_bind (wpAny_bind (wpAny_askSetting (wpAny_pure ?_)))
  refine zE8 m1 ?_
  refine wpAny_bind (wpAny_askSetting (wpAny_pure (wpAny_pure ?_)))
  have e1:(pickOrder (w.params.setOrder a ep) es)[i]?.map (·.2)=some v:=by
   rw [m3,List.getElem?_map] at hv
   rw [<-Array.getElem?_toList];exact hv
  obtain ⟨q,q1,q2⟩:=Option.map_eq_some_iff.mp e1
  subst q2
  have e2:(pickOrder ((model prog w).w.params.setOrder a ep) es)[(i:Int).toNat]?=some q:=q1
  erw [e2]
  show wpAny _ _ (setField (.ref I) 0 (rawInt _) >>= _) _ _ _
  refine wpAny_bind (wpAny_setField it.ho it.hd (by simp) ?_)
  have g1:=Heap.get?_update_self (Obj.mapFields (·.setIfInBounds 0 (rawInt (j:Int).toNat))) it.ho (Obj.isFreed_of_fields (Obj.data_mapFields it.hd _))
  refine wpAny_bind (wpAny_setField g1 (Obj.data_mapFields it.hd _) (by simp) ?_)
  refine wpAny_pure ⟨_,rfl,wpAny_pure (h _ _ _ ((Heap.SameBut.update ..).trans (Heap.SameBut.update ..)) ⟨Heap.get?_update_self _ g1 (Obj.isFreed_of_fields (Obj.data_mapFields (Obj.data_mapFields it.hd _) _)),?_,?_,.inl ⟨m1,⟨j,rfl⟩,m3⟩⟩ (fun T z=>nomatch z))⟩
  ·rw [Obj.cls_mapFields,Obj.cls_mapFields];exact it.hc
  ·rw [Obj.data_mapFields (Obj.data_mapFields it.hd _)]
   simp [rawInt]
 ·dsimp only
  have hTI:T≠I:=fun z=>by
   subst z
   have:=Option.some.inj (m3.symm.trans it.ho)
   subst this
   rw [it.hd] at m4
   exact nomatch m4
  refine wpAny_bind (m:=seqItems? (.ref T)) (wpAny_seqItems m3 m4 ?_)
  dsimp only
  rw [m6,fm_at m5] at hv
  obtain ⟨p,p1,p2⟩:=Option.bind_eq_some_iff.mp hv
  obtain ⟨q,q1,q2⟩:=Option.map_eq_some_iff.mp p2
  subst q2
  have e1:(pl.map fun (p:Nat)=>Value.int p 0).toArray[(i:Int).toNat]?=some (.int p 0):=by
   simp [p1]
  rw [e1]
  dsimp only
  refine wpAny_bind ?_
  unfold setNextDrawn
  refine wpAny_bind (X.state ?_)
  dsimp only
  refine zDg (by simp) ?_
  have e2:es[(p:Int).toNat]?=some q:=q1
  rw [e2]
  refine wpAny_pure ?_
  refine wpAny_bind (wpAny_setField it.ho it.hd (by simp) ?_)
  refine wpAny_pure ⟨_,rfl,wpAny_pure (h _ _ _ (Heap.SameBut.update ..) ⟨Heap.get?_update_self _ it.ho (Obj.isFreed_of_fields (Obj.data_mapFields it.hd _)),(Obj.cls_mapFields ..).trans it.hc,?_,.inr (.inl ⟨m1,T,oT,c,pl,rfl,?_,m4,m5,m6⟩)⟩ (fun T z=>z))⟩
  ·rw [Obj.data_mapFields it.hd]
   simp [rawInt]
  ·exact ((Heap.SameBut.update s.heap I _).2 T hTI).trans m3
 ·dsimp only
  refine wpAny_bind ?_
  unfold setNext
  refine wpAny_bind (X.state ?_)
  dsimp only
  refine wpAny_bind (wpAny_bind (wpAny_askSetting (wpAny_pure ?_)))
  refine zDg (by show¬(byt w=true);rw [m1];decide) ?_
  refine zDg (show¬(dr es t=true) by rw [m2];decide) ?_
  refine wpAny_bind (zDg (show¬((!t.led&& !es.isEmpty)=true) by rw [X.ld,m1];simp) (wpAny_pure ?_))
  have hl:i<es.size:=by
   rw [<-it.hm.len]
   exact (List.getElem?_eq_some_iff.mp hv).1
  have hl2:i<t.place.size:=by
   rw [X.ok.n,List.length_map,<-X.size];exact hl
  have e1:es[i]?=some es[i]:=by simp [hl]
  have e2:t.place[i]?=some t.place[i]:=by simp [hl2]
  have e3:es[i].2=v:=by
   rw [m5,List.getElem?_map,Array.getElem?_toList,e1] at hv
   exact Option.some.inj hv
  have e4:below t.place (slot:Int).toNat=i:=m4
  rw [e4,e1,e2]
  refine wpAny_pure ?_
  show wpAny _ _ (setField (.ref I) 0 (rawInt _) >>= _) _ _ _
  refine wpAny_bind (wpAny_setField it.ho it.hd (by simp) ?_)
  have g1:=Heap.get?_update_self (Obj.mapFields (·.setIfInBounds 0 (rawInt ((t.place[i]+1:Nat):Int)))) it.ho (Obj.isFreed_of_fields (Obj.data_mapFields it.hd _))
  refine wpAny_bind (wpAny_setField g1 (Obj.data_mapFields it.hd _) (by simp) ?_)
  subst e3
  refine wpAny_pure ⟨_,rfl,wpAny_pure (h _ _ _ ((Heap.SameBut.update ..).trans (Heap.SameBut.update ..)) ⟨Heap.get?_update_self _ g1 (Obj.isFreed_of_fields (Obj.data_mapFields (Obj.data_mapFields it.hd _) _)),?_,?_,.inr (.inr ⟨m1,m2,t.place[i]+1,rfl,below_next X.ok.r e2,m5⟩)⟩ (fun T z=>nomatch z))⟩
  ·rw [Obj.cls_mapFields,Obj.cls_mapFields];exact it.hc
  ·rw [Obj.data_mapFields (Obj.data_mapFields it.hd _)]
   simp [rawInt]
theorem w_stop {s:Shared} {Q:Option Value->Shared->Prop} (hh:A.handled=none) (h:∀h',(∀b o,s.heap.get? b=some o->h'.get? b=some o)->Q none {s with heap:=h'}) :
  wpAny (model prog w) A.in1 (newExc (.type "StopIteration") [] >>= fun e=>(raiseNew e:Sem Fin)) (fun fin s'=>∃r,fin= .done (.ret r)/\wpAny (model prog w) A (pure (some r)) Q E s')
   (fun e s'=>wpAny (model prog w) A (isInstance e (.type "StopIteration") >>= fun b=>if b=true then pure none else throw e) Q E s') s:=by
 refine wpAny_bind ?_
 simp only [newExc,newTuple]
 refine wpAny_bind (wpAny_newObj_type ?_ (by size_fits))
 refine wpAny_bind (m:=firstArgMember _ _) (wpAny_of_eq (a:=Value.none) (by first| rfl| (simp only [firstArgMember];rfl)) ?_)
 refine wpAny_newObj_type ?_ (by size_fits)
 simp only [raiseNew]
 refine wpAny_bind (wpAny_handled ?_)
 rw [show A.in1.handled=none from hh]
 refine wpAny_bind (wpAny_pure (wpAny_throw ?_))
 refine wpAny_bind (wpAny_isInstance (T:= "StopIteration") (b:=true) ⟨_,Heap.get?_push_size _ rfl,rfl⟩ isSubtype_stop ?_)
 exact wpAny_pure (h _ fun b o q=>Heap.get?_push_of_some _ (Heap.get?_push_of_some _ q))
theorem w_done (hh:A.handled=none) (X:SetX knd s.heap a xs o es ep t) (it:ItS w s.heap I a es ep t ord i oI first) (hv:ord[i]?=none) {Q:Option Value->Shared->Prop}
  (h:∀h',(∀b o,b≠I->s.heap.get? b=some o->h'.get? b=some o)->Q none {s with heap:=h'}):wpAny (model prog w) A (pyNext (.ref I)) Q E s:=by
 unfold pyNext
 refine wpAny_bind (wpAny_attempt (wpAny_callSpecial?_slot (name:=Str.ofString "__next__") it.typeIs zE2 (wpAny_call_entry zE2 it.typeIs en_next ?_ (ar_next _))))
 unfold Builtin.«set_iterator.__next__»
 refine wpAny_bind (m:=slotArgs "__next__" 0 _) (wpAny_pure ?_)
 refine wpAny_bind (wpAny_fieldsOf it.ho it.hd ?_)
 dsimp only
 refine wpAny_bind (wpAny_setEntries_of X.ho X.hd X.fits ?_)
 refine zDg (by simp) ?_
 have up:∀h1,Heap.SameBut I s.heap h1->∀h',(∀b o,h1.get? b=some o->h'.get? b=some o)->Q none {s with heap:=h'}:=fun h1 sb h' q=>h h' fun b o hb z=>q b o ((sb.2 b hb).trans z)
 rcases it.hm with ⟨m1,⟨j,rfl⟩,m3⟩| ⟨m1,T,oT,c,pl,rfl,m3,m4,m5,m6⟩| ⟨m1,m2,slot,rfl,m4,m5⟩
 ·dsimp only
  refine wpAny_bind ?_
  unfold setNext
  refine wpAny_bind (X.state ?_)
  dsimp only
  refine wpAny_bind (wpAny_bind (wpAny_askSetting (wpAny_pure ?_)))
  refine zE8 m1 ?_
  refine zDg (by simp) ?_
  refine wpAny_bind ?_
  unfold setWalk
  refine wpAny_bind (X.state ?_)
  dsimp only
  refine wpAny_bind (wpAny_bind (wpAny_askSetting (wpAny_pure ?_)))
  refine zE8 m1 ?_
  refine wpAny_bind (wpAny_askSetting (wpAny_pure (wpAny_pure ?_)))
  have e1:(pickOrder (w.params.setOrder a ep) es)[i]?.map (·.2)=none:=by
   rw [m3,List.getElem?_map] at hv
   rw [<-Array.getElem?_toList];exact hv
  have e2:(pickOrder ((model prog w).w.params.setOrder a ep) es)[(i:Int).toNat]?=none:=Option.map_eq_none_iff.mp e1
  erw [e2]
  show wpAny _ _ (setField (.ref I) 2 Value.none >>= _) _ _ _
  refine wpAny_bind (wpAny_setField it.ho it.hd (by simp) ?_)
  refine w_stop hh ?_
  exact up _ (Heap.SameBut.update ..)
 ·dsimp only
  refine wpAny_bind (m:=seqItems? (.ref T)) (wpAny_seqItems m3 m4 ?_)
  dsimp only
  have e1:(pl.map fun (p:Nat)=>Value.int p 0).toArray[(i:Int).toNat]?=none:=by
   have h1:ord.length<=i:=List.getElem?_eq_none_iff.mp hv
   rw [it.hm.len] at h1
   have h2:=m5.length_eq
   rw [List.length_range] at h2
   simp only [Int.toNat_natCast,List.getElem?_toArray,List.getElem?_map,Option.map_eq_none_iff,List.getElem?_eq_none_iff]
   omega
  rw [e1]
  dsimp only
  refine wpAny_bind (wpAny_setField it.ho it.hd (by simp) ?_)
  have g1:=Heap.get?_update_self (Obj.mapFields (·.setIfInBounds 0 (rawInt 0))) it.ho (Obj.isFreed_of_fields (Obj.data_mapFields it.hd _))
  refine wpAny_bind (wpAny_setField g1 (Obj.data_mapFields it.hd _) (by simp) ?_)
  refine w_stop hh ?_
  exact up _ ((Heap.SameBut.update ..).trans (Heap.SameBut.update ..))
 ·dsimp only
  refine wpAny_bind ?_
  unfold setNext
  refine wpAny_bind (X.state ?_)
  dsimp only
  refine wpAny_bind (wpAny_bind (wpAny_askSetting (wpAny_pure ?_)))
  refine zDg (by show¬(byt w=true);rw [m1];decide) ?_
  refine zDg (show¬(dr es t=true) by rw [m2];decide) ?_
  refine wpAny_bind (zDg (show¬((!t.led&& !es.isEmpty)=true) by rw [X.ld,m1];simp) (wpAny_pure ?_))
  have e1:es[i]?=none:=by
   rw [m5,List.getElem?_map,Array.getElem?_toList] at hv
   exact Option.map_eq_none_iff.mp hv
  have e4:below t.place (slot:Int).toNat=i:=m4
  rw [e4,e1]
  refine wpAny_pure ?_
  show wpAny _ _ (setField (.ref I) 2 Value.none >>= _) _ _ _
  refine wpAny_bind (wpAny_setField it.ho it.hd (by simp) ?_)
  refine w_stop hh ?_
  exact up _ (Heap.SameBut.update ..)
theorem w_self (it:ItS w s.heap I a es ep t ord i oI first) {Q:Value->Shared->Prop} (h:Q (.ref I) s):wpAny (model prog w) A (pyIter (.ref I)) Q E s:=by
 refine wpAny_pyIter_slot it.typeIs sl_self (wpAny_call_entry sl_self it.typeIs en_self ?_ (ar_self _))
 show wpAny _ _ (ret (.ref I)) _ _ s
 exact wpAny_pure ⟨_,rfl, "set_iterator",_,it.typeIs,zE2.lookup,h⟩
theorem SetX.typeIs (X:SetX knd s.heap a xs o es ep t):s.TypeIs (.ref a) "set" := ⟨_,X.ho,X.ex.1⟩
theorem w_iter (X:SetX knd s.heap a xs o es ep t) (hn:xs.length<=306) {Q:Value->Shared->Prop}
  (h:∀I h' d ord oI first,(∀b o,s.heap.get? b=some o->h'.get? b=some o)->s.heap.objs.size<=I->ItS w h' I a es ep t ord 0 oI first->(∀T,first= .ref T->s.heap.objs.size<=T)->Q (.ref I) {s with heap:=h',drawn:=d}):wpAny (model prog w) A (pyIter (.ref a)) Q E s:=by
 refine wpAny_pyIter_slot X.typeIs F.slot_set_iter (wpAny_call_entry F.slot_set_iter X.typeIs en_iter ?_ (F.args_set_iter_1 _))
 unfold Builtin.«frozenset.__iter__» Builtin.Frozenset.slot0
 refine wpAny_bind (wpAny_bind (m:=slotArgs "__iter__" 0 _) (wpAny_pure (wpAny_pure ?_)))
 dsimp only
 unfold Builtin.Frozenset.sizeOf
 refine wpAny_bind (wpAny_bind (wpAny_setEntries_of X.ho X.hd X.fits (wpAny_pure ?_)))
 unfold setDrawn
 refine wpAny_bind (wpAny_bind (X.state (wpAny_bind (wpAny_bind (wpAny_askSetting (wpAny_pure (wpAny_pure ?_)))))))
 have hsz:es.size<=306:=by rw [X.size];exact hn
 by_cases c:(!byt w&&dr es t)=true
 ·refine zE8 c ?_
  have c1:byt w=false:=by cases z:byt w<;>simp [z] at c ⊢
  refine wpAny_bind (w_draw es.size (List.range es.size) s _ (by simp) fun pl d hp=>?_)
  have hpl:pl.length=es.size:=by rw [hp.length_eq];simp
  refine wpAny_bind (wpAny_newTuple ?_ (by rw [List.length_map,hpl];exact Nat.le_trans hsz (by decide +kernel)))
  refine wpAny_bind (wpAny_setEpoch_of (Heap.get?_push_of_some _ X.ho) X.hd X.fits ?_)
  refine wpAny_bind (wpAny_newObj_type (wpAny_pure ⟨_,rfl, "set_iterator",_,⟨_,Heap.get?_push_size _ rfl,rfl⟩,zE2.lookup,?_⟩))
  refine h _ _ d (pl.filterMap fun p=>(es[p]?).map (·.2)) _ (.ref s.heap.objs.size) (fun b o q=>Heap.get?_push_of_some _ (Heap.get?_push_of_some _ q)) ?_ ⟨Heap.get?_push_size _ rfl,rfl,rfl,.inr (.inl ⟨c1,_,_,_,pl,rfl,Heap.get?_push_of_some _ (Heap.get?_push_size _ rfl),rfl,hp,rfl⟩)⟩ (fun T z=>by cases z;exact Nat.le_refl _)
  show s.heap.objs.size<=(s.heap.push _).objs.size
  rw [Heap.size_push];exact Nat.le_succ _
 ·refine zDg c ?_
  refine wpAny_bind (wpAny_pure ?_)
  refine wpAny_bind (wpAny_setEpoch_of X.ho X.hd X.fits ?_)
  refine wpAny_bind (wpAny_newObj_type (wpAny_pure ⟨_,rfl, "set_iterator",_,⟨_,Heap.get?_push_size _ rfl,rfl⟩,zE2.lookup,?_⟩))
  cases z:byt w with
  | true =>
   exact h _ _ s.drawn ((pickOrder (w.params.setOrder a ep) es).toList.map (·.2)) _ (.int 0 0) (fun b o q=>Heap.get?_push_of_some _ q) (Nat.le_refl _) ⟨Heap.get?_push_size _ rfl,rfl,rfl,.inl ⟨z,⟨0,rfl⟩,rfl⟩⟩ (fun T z=>nomatch z)
  | false =>
   have c2:dr es t=false:=by rw [z] at c;simpa using c
   exact h _ _ s.drawn (es.toList.map (·.2)) _ (.int 0 0) (fun b o q=>Heap.get?_push_of_some _ q) (Nat.le_refl _) ⟨Heap.get?_push_size _ rfl,rfl,rfl,.inr (.inr ⟨z,c2,0,rfl,below_zero X.ok.r,rfl⟩)⟩ (fun T z=>nomatch z)
end
theorem len_set:typeLookup (.type "set") "__len__" = pure (some (.builtin "set.__len__")):=by rw [typeLookup_type,builtinLookup_eq_fast];kernel_rfl
section
variable {prog:Program} {w:World} {K:Type} [DecidableEq K] {knd:KeyKind prog w K} {A:Around} {E:Value->Shared->Prop} {s:Shared}
variable {a I:Addr} {xs:List (List K×Addr)} {o oI:Obj} {es:Array (Int×Value)} {ep i:Nat} {t:SetTable} {ord:List Value} {first:Value}
def WSt (knd:KeyKind prog w K) (a I:Addr) (xs:List (List K×Addr)) (o:Obj) (es:Array (Int×Value)) (ep:Nat) (t:SetTable) (ord:List Value) (Ts:List Addr) (i:Nat) (s:Shared):Prop :=
 ∃oI first,SetX knd s.heap a xs o es ep t/\ItS w s.heap I a es ep t ord i oI first/\∀T,first= .ref T->T∈Ts
theorem w_walks (hh:A.handled=none) (a I:Addr) (hne:I≠a) (xs:List (List K×Addr)) (hx:∀p∈xs,p.2≠I) (o:Obj) (es:Array (Int×Value)) (ep:Nat) (t:SetTable) (ord:List Value) (Ts:List Addr) (hT:I∉Ts) :
  WalksS prog w A I (I::a::(xs.map (·.2)++Ts)) [I] (fun a b=>b=a) ord.length (fun i v=>ord[i]?=some v) (WSt knd a I xs o es ep t ord Ts) where
 sub:=fun b hb=>by rw [List.mem_singleton.mp hb];exact List.mem_cons_self
 grefl:=fun _=>rfl
 gtrans:=fun _ _ _ x y=>y.trans x
 frame:=fun i s h' tk ⟨oI,first,X,it,hf⟩ _ hk=>by
  refine ⟨oI,first,X.kept fun b o hb q=>hk b ?_ o q,⟨hk I List.mem_cons_self _ it.ho,it.hc,it.hd,?_⟩,hf⟩
  ·rcases hb with rfl| ⟨p,hp,rfl⟩
   ·exact List.mem_cons_of_mem _ List.mem_cons_self
   ·exact List.mem_cons_of_mem _ (List.mem_cons_of_mem _ (List.mem_append_left _ (List.mem_map.mpr ⟨p,hp,rfl⟩)))
  ·rcases it.hm with m| ⟨m1,T,oT,c,pl,m2,m3,m4⟩| m
   ·exact .inl m
   ·exact .inr (.inl ⟨m1,T,oT,c,pl,m2,hk T (List.mem_cons_of_mem _ (List.mem_cons_of_mem _ (List.mem_append_right _ (hf T m2)))) _ m3,m4⟩)
   ·exact .inr (.inr m)
 item:=fun i s Q E hi ⟨oI,first,X,it,hf⟩ hQ=>by
  refine w_item X it hne (v:=ord[i]) (by simp [hi]) fun h' o' f' sb it' hf'=>hQ _ _ (by simp [hi]) ⟨o',f',X.kept fun b o hb q=>?_,it',fun T z=>hf T (hf' T z)⟩ ⟨fun b o hb q=>(sb.2 b fun z=>hb (z▸List.mem_cons_self)).trans q,rfl,rfl,rfl,Nat.le_refl _⟩
  rcases hb with rfl| ⟨p,hp,rfl⟩
  ·exact (sb.2 _ (Ne.symm hne)).trans q
  ·exact (sb.2 _ (hx p hp)).trans q
 done:=fun s Q E ⟨oI,first,X,it,hf⟩ hQ=>w_done hh X it (by simp) fun h' q=>hQ _ ⟨fun b o hb=>q b o fun z=>hb (z▸List.mem_cons_self),rfl,rfl,rfl,Nat.le_refl _⟩
 self:=fun i s Q E ⟨oI,first,X,it,hf⟩ hQ=>w_self it hQ
theorem items_ord {acc:Array Value} (h:ItemsOf (fun i v=>ord[i]?=some v) acc ord.length):acc.toList=ord:=by
 refine List.ext_getElem? fun i=>?_
 rw [Array.getElem?_toList]
 cases e:acc[i]? with
 | some v=>exact (h.2 i v e).symm
 | none =>
  have:=Array.getElem?_eq_none_iff.mp e
  rw [h.1] at this
  exact (List.getElem?_eq_none this).symm
theorem w_collect (hh:A.handled=none) (X:SetX knd s.heap a xs o es ep t) (hn:xs.length<=306) {Q:List Value->Shared->Prop}
  (h:∀s' vs,vs.Perm (xs.map fun p=>.ref p.2)->(∀b o,s.heap.get? b=some o->s'.heap.get? b=some o)->s'.gens=s.gens->s'.os=s.os->s.toks<=s'.toks->Q vs s'):wpAny (model prog w) A (collect (.ref a)) Q E s:=by
 unfold collect
 refine wpAny_bind (wpAny_runValue (codeAny_builtin F.entry_proto_collect ?_))
 rw [Around.under_plainId F.plain_proto_collect _]
 change wpAny _ A.in1 (newList [] >>= fun l=>again (.builtin "list.__iadd__" ⟨[l,Value.ref a],[]⟩)) _ _ s
 refine wpAny_bind (wpAny_newObj_type ?_)
 refine wpAny_pure ⟨plainId_quiet F.plain_list_iadd _,codeAny_builtin F.entry_list_iadd ?_⟩
 rw [Around.under_plainId F.plain_list_iadd _]
 generalize hL:s.heap.objs.size=L
 have hS1:(s.heap.push {cls:=.type "list",data:=.seq ([]:List Value).toArray}).get? L=some {cls:=.type "list",data:=.seq ([]:List Value).toArray}:=by rw [<-hL];exact Heap.get?_push_size _ rfl
 generalize hH1:s.heap.push {cls:=.type "list",data:=.seq ([]:List Value).toArray}=H1 at hS1 ⊢
 have up1:∀b o,s.heap.get? b=some o->H1.get? b=some o:=fun b o q=>by rw [<-hH1];exact Heap.get?_push_of_some _ q
 have sz1:H1.objs.size=L+1:=by rw [<-hH1,Heap.size_push,hL]
 have below:∀b o,s.heap.get? b=some o->b<L:=fun b o q=>by rw [<-hL];exact Heap.lt_size q
 have X1:SetX knd H1 a xs o es ep t:=X.kept fun b o _ q=>up1 b o q
 have haL:a≠L:=Nat.ne_of_lt (below a _ X.ho)
 change wpAny _ A.in1 (Builtin.List.listExtendWith (Value.ref L) (.ref a) (.ref L)) _ _ _
 unfold Builtin.List.listExtendWith
 refine wpAny_bind (wpAny_typeOf (T:= "set") ⟨_,X1.ho,X1.ex.1⟩ ?_)
 have n1:Builtin.List.listSameRef (.ref L) (.ref a)=false:=by simp [Builtin.List.listSameRef,Ne.symm haL]
 refine zDg (by rw [n1];decide) ?_
 refine wpAny_bind (w_iter (s:={s with heap:=H1}) X1 hn fun I h2 d ord oI first up2 hI it hf=>?_)
 have hI:L+1<=I:=by rw [<-sz1];exact hI
 have X2:SetX knd h2 a xs o es ep t:=X1.kept fun b o _ q=>up2 b o q
 refine wpAny_bind (wpAny_holding ?_)
 unfold Builtin.List.listLengthHint
 have T2:Shared.TypeIs {s with heap:=h2,drawn:=d} (.ref a) "set" := ⟨_,X2.ho,X2.ex.1⟩
 refine wpAny_bind (wpAny_specialOf T2 len_set ?_)
 generalize hid:("set.__len__" : String)=id0
 dsimp only
 rw [show splitId id0=some ("set", "__len__") from by subst hid;decide +kernel]
 subst hid
 dsimp only
 refine wpAny_bind (wpAny_isInstance (b:=true) T2 sub_set_self ?_)
 refine zDg (by decide) ?_
 refine zE8 (by decide +kernel) ?_
 refine wpAny_bind (wpAny_typeOf T2 ?_)
 refine wpAny_pure ?_
 refine zE8 (by decide +kernel) ?_
 refine wpAny_bind (wpAny_rule ?_)
 have hS2:=up2 L _ hS1
 refine wpAny_bind ?_
 change wpAny _ A.in1 (updateSeq L (·.push Value.none) >>= fun _=>updateSeq L (·.pop)) _ _ _
 refine wpAny_bind (wpAny_updateSeq hS2 rfl ?_)
 have hS3:=Heap.get?_update_self (Obj.mapSeq (·.push Value.none)) hS2 rfl
 refine wpAny_updateSeq hS3 rfl ?_
 have hS4:=Heap.get?_update_self (Obj.mapSeq (·.pop)) hS3 rfl
 dsimp only
 have sb:Heap.SameBut L h2 ((h2.update L (Obj.mapSeq (·.push Value.none))).update L (Obj.mapSeq (·.pop))):=(Heap.SameBut.update ..).trans (Heap.SameBut.update ..)
 generalize hH4:(h2.update L (Obj.mapSeq (·.push Value.none))).update L (Obj.mapSeq (·.pop))=H4 at hS4 sb ⊢
 have hIa:I≠a:=fun z=>by
  have:=below a _ X.ho
  rw [<-z] at this
  exact absurd this (Nat.not_lt.mpr (Nat.le_of_succ_le hI))
 have hxI:∀p∈xs,p.2≠I:=fun p hp z=>by
  obtain ⟨ob,_,_,q,_⟩:=X.ky p hp
  have:=below _ _ q
  rw [z] at this
  exact absurd this (Nat.not_lt.mpr (Nat.le_of_succ_le hI))
 obtain ⟨Ts,hTs,hT1⟩:∃Ts:List Addr,(∀T,first= .ref T->T∈Ts)/\∀T∈Ts,first= .ref T:=by
  cases first with
  | ref T=>exact ⟨[T],fun T' z=>by cases z;exact List.mem_singleton.mpr rfl,fun T' z=>by rw [List.mem_singleton.mp z]⟩
  | _=>exact ⟨[],(fun T z=>nomatch z),(fun T z=>nomatch z)⟩
 have hTge:∀T∈Ts,L+1<=T:=fun T hT=>by rw [<-sz1];exact hf T (hT1 T hT)
 have hTI:I∉Ts:=fun z=>by
  rcases it.hm with ⟨_,⟨j,e⟩,_⟩| ⟨_,T,oT,c,pl,e,m3,m4,_⟩| ⟨_,_,j,e,_⟩
  ·have:=(hT1 _ z).symm.trans e;exact nomatch this
  ·have:=(hT1 _ z).symm.trans e
   cases this
   have:=Option.some.inj (m3.symm.trans it.ho)
   subst this
   rw [it.hd] at m4
   exact nomatch m4
  ·have:=(hT1 _ z).symm.trans e;exact nomatch this
 have W:=w_walks (prog:=prog) (w:=w) (knd:=knd) (A:=A.in1) hh a I hIa xs hxI o es ep t ord Ts hTI
 have hLf:L∉I::a::(xs.map (·.2)++Ts):=fun z=>by
  rcases List.mem_cons.mp z with z| z
  ·rw [<-z] at hI;exact absurd hI (Nat.not_succ_le_self L)
  rcases List.mem_cons.mp z with z| z
  ·exact haL z.symm
  rcases List.mem_append.mp z with z| z
  ·obtain ⟨p,hp,e⟩:=List.mem_map.mp z
   obtain ⟨ob,_,_,q,_⟩:=X.ky p hp
   have:=below _ _ q
   rw [e] at this
   exact Nat.lt_irrefl _ this
  ·exact absurd (hTge _ z) (Nat.not_succ_le_self L)
 have hol:ord.length<=sizeLine:=by
  rw [it.hm.len,X.size];exact Nat.le_trans hn (by decide +kernel)
 have st2:WSt knd a I xs o es ep t ord Ts 0 {s with heap:=h2,drawn:=d}:=⟨oI,first,X2,it,hTs⟩
 have st4:=W.frame 0 _ H4 s.toks st2 (Nat.le_refl _) fun b hb ob q=>(sb.2 b fun z=>hLf (z▸hb)).trans q
 refine wpAny_pure ⟨plainId_quiet F.plain_extend_loop _,codeAny_extend_loopS W hol L hLf _ ord.length 0 _ _ _ rfl (Nat.zero_le _) st4 hS4 (ItemsOf.nil _) fun s' acc c' mv hS' hacc=>?_⟩
 change wpAny _ A (load L >>= _) _ _ s'
 refine wpAny_bind (wpAny_load hS' ?_)
 refine wpAny_pure (h s' acc.toList ?_ (fun b ob q=>?_) mv.gens mv.os mv.toks)
 ·rw [items_ord hacc]
  refine it.hm.perm.trans (List.Perm.of_eq ?_)
  rw [X.el,List.map_map]
  rfl
 ·have hb:=below b ob q
  refine mv.heap b ob ?_ ((sb.2 b (Nat.ne_of_lt hb)).trans (up2 b ob (up1 b ob q)))
  intro z
  rcases List.mem_cons.mp z with z| z
  ·exact Nat.ne_of_lt hb z
  ·rw [List.mem_singleton.mp z] at hb
   exact absurd hb (Nat.not_lt.mpr (Nat.le_of_succ_le hI))
end
end ST
namespace ST
open PySem PyProof.Rows PySem.W
abbrev sg (x:Str):List Nat:=x.cps.toList
theorem sg_inj {x y:Str} (h:sg x=sg y):x=y:=by
 cases x;cases y
 exact congrArg Str.mk (Array.toList_inj.mp h)
def tlt:List Str->List Str->Bool
 | [],[]=>false
 | [],_::_=>true
 | _::_,[]=>false
 | x::r,y::q=>if x=y then tlt r q else decide (sg x<sg y)
theorem sg_tri (x y:Str):sg x<sg y\/x=y\/sg y<sg x:=by
 by_cases h1:sg x<sg y
 ·exact .inl h1
 by_cases h2:sg y<sg x
 ·exact .inr (.inr h2)
 ·exact .inr (.inl (sg_inj (List.le_antisymm (List.not_lt.mp h2) (List.not_lt.mp h1))))
theorem zGs:∀a,tlt a a=false
 | []=>rfl
 | x::r=>by unfold tlt;rw [if_pos rfl];exact zGs r
theorem zFb:∀a b c,tlt a b=true->tlt b c=true->tlt a c=true
 | [],[],c,h1,h2=>h2
 | [],_::_,[],h1,h2=>by simp [tlt] at h2
 | [],_::_,_::_,h1,h2=>rfl
 | _::_,[],c,h1,h2=>by simp [tlt] at h1
 | x::r,y::q,[],h1,h2=>by simp [tlt] at h2
 | x::r,y::q,z::p,h1,h2=>by
  unfold tlt at h1 h2 ⊢
  by_cases e1:x=y
  ·subst e1
   rw [if_pos rfl] at h1
   by_cases e2:x=z
   ·subst e2
    rw [if_pos rfl] at h2 ⊢
    exact zFb r q p h1 h2
   ·rw [if_neg e2] at h2 ⊢
    exact h2
  ·rw [if_neg e1] at h1
   by_cases e2:y=z
   ·subst e2
    rw [if_neg e1];exact h1
   ·rw [if_neg e2] at h2
    have q1:=of_decide_eq_true h1
    have q2:=of_decide_eq_true h2
    have q3:=List.lt_trans q1 q2
    rw [if_neg fun e=>by subst e;exact List.lt_irrefl _ q3]
    exact decide_eq_true q3
theorem zIk:∀a b,tlt a b=false->tlt b a=false->a=b
 | [],[],_,_=>rfl
 | [],_::_,h,_=>by simp [tlt] at h
 | _::_,[],_,h=>by simp [tlt] at h
 | x::r,y::q,h1,h2=>by
  unfold tlt at h1 h2
  by_cases e:x=y
  ·subst e
   rw [if_pos rfl] at h1 h2
   rw [zIk r q h1 h2]
  ·rw [if_neg e] at h1
   rw [if_neg (Ne.symm e)] at h2
   rcases sg_tri x y with z| z| z
   ·exact absurd z (of_decide_eq_false h1)
   ·exact absurd z e
   ·exact absurd z (of_decide_eq_false h2)
theorem tlt_neg (a b c:List Str) (h:tlt a c=true):tlt a b=true\/tlt b c=true:=by
 cases h1:tlt a b with
 | true=>exact .inl rfl
 | false =>
  right
  cases h2:tlt b a with
  | true=>exact zFb b a c h2 h
  | false=>rw [<-zIk a b h1 h2];exact h
@[reducible] def tupK (f:Addr->Option (List Str)):PyProof.Rows.KeyKind where
 α:=List Str
 blt:=tlt
 irrefl:=zGs
 trans:=zFb
 negTrans:=tlt_neg
 total:=zIk
 keyOf v:=match v with| .ref b=>f b| _=>none
 dflt:=[]
section
variable {prog:Program} {w:World} {A:Around} {E:Value->Shared->Prop} {s:Shared}
theorem zF4 {ks:List Str} {vs:List Value} (h:ItemsAre (PySem.strKind prog w) ks vs):StrsAre vs ks:=by
 induction h with
 | nil=>exact .nil
 | @cons k v ks vs h1 _ ih =>
  obtain ⟨t,rfl⟩:=Value.isStrOf_shape h1
  exact .cons k t ih
theorem kat_strs {b fin:Bool} {Q:Bool->Shared->Prop}:∀{xs ys:List Value} {ax ay:List Str},StrsAre xs ax->StrsAre ys ay->∀i,fin=decide (xs.length<ys.length)->Q (tlt ax ay) s->KatLex prog w A b fin Q (xs.zip ys) i s
 | _,_,_,_,.nil,.nil,i,e,h=>by subst e;exact kat_nil h
 | _,_,_,_,.nil,.cons y t hy,i,e,h=>by subst e;exact kat_nil h
 | _,_,_,_,.cons x t hx,.nil,i,e,h=>by subst e;exact kat_nil h
 | _,_,_,_,.cons x t hx,.cons y u hy,i,e,h=>by
  rw [List.zip_cons_cons]
  refine kat_cons (wpAny_eqBool_str ?_)
  unfold tlt at h
  by_cases c:x=y
  ·rw [if_pos c] at h
   rw [decide_eq_true c]
   refine kat_yes (kat_strs hx hy (i+1) ?_ h)
   rw [e]
   simp
  ·rw [if_neg c] at h
   rw [decide_eq_false c]
   refine kat_no ?_
   cases z:(b&&i==0) with
   | true=>exact oneLt_str h
   | false=>exact kat_one _ _ (lt_str h)
theorem tup_cmp (f:Addr->Option (List Str)) (hf:∀b k,f b=some k->IsTupleKey (PySem.strKind prog w) s.heap k b) (b:Bool):Tim.CmpOk prog w A s (tuples' b) (tupK f):=by
 intro E x y a c Q hx hy h
 cases x<;>simp only [reduceCtorEq] at hx
 cases y<;>simp only [reduceCtorEq] at hy
 obtain ⟨ox,ix,nx,x1,_,x2,x3⟩:=hf _ _ hx
 obtain ⟨oy,iy,ny,y1,_,y2,y3⟩:=hf _ _ hy
 exact kat_lt x1 x2 y1 y2 (kat_strs (zF4 x3) (zF4 y3) 0 (by simp) h)
end
theorem zGl {vs:List Value} {xs:Array Keyed} (hp:xs.Perm (pairsOf vs)):(xs.map (·.2)).toList.Perm vs:=by
 have hl:xs.toList.Perm (vs.zip vs):=by rw [<-pairsOf_toList];exact Array.perm_iff_toList_perm.mp hp
 have:=hl.map (·.2)
 rw [List.map_snd_zip (Nat.le_refl _)] at this
 rwa [Array.toList_map]
theorem snd_srt {κ:PyProof.Rows.KeyKind} {vs:List Value} {xs:Array Keyed} (hp:xs.Perm (pairsOf vs)) (hs:Tim.Srt κ xs.toList):(xs.map (·.2)).toList.Pairwise fun x y=>κ.kle ((κ.keyOf x).getD κ.dflt) ((κ.keyOf y).getD κ.dflt):=by
 have hl:xs.toList.Perm (vs.zip vs):=by rw [<-pairsOf_toList];exact Array.perm_iff_toList_perm.mp hp
 have hm:∀p∈xs.toList,p.1=p.2:=fun p h=>(mem_zip_self (hl.mem_iff.mp h)).1
 have e:(xs.map (·.2)).toList=xs.toList.map (·.1):=by
  rw [Array.toList_map];exact List.map_congr_left fun p h=>(hm p h).symm
 rw [e,List.pairwise_map]
 exact hs
theorem pw_small {α:Type} {R:α->α->Prop} {l:List α} (h:l.length<2):l.Pairwise R:=by
 match l,h with
 | [],_=>exact List.Pairwise.nil
 | [x],_=>exact List.pairwise_singleton _ _
section
variable {prog:Program} {w:World} {A:Around} {E:Value->Shared->Prop} {s:Shared}
structure Sortable (prog:Program) (w:World) (A:Around) (κ:PyProof.Rows.KeyKind) (kd:SortKind) (vs:List Value) (s:Shared):Prop where
 cmp:Tim.CmpOk prog w A s kd κ
 kind:2<=vs.length->∀(E:Value->Shared->Prop) (Q:SortKind->Shared->Prop),Q kd s->wpAny (model prog w) A (keyKind' vs.toArray) Q E s
 has:∀v∈vs,∃k,κ.keyOf v=some k
theorem srt_heap {h:Heap} {a:Addr} {vs:List Value} {n:Nat} {out:Array Value} (ho:h.get? a=some (seqObj "list" vs.toArray n)):(∃c,(sortedHeap h a vs out).get? a=some (seqObj "list" out c))/\∀b o,b≠a->h.get? b=some o->(sortedHeap h a vs out).get? b=some o:=by
 have ha:a<h.objs.size:=Heap.lt_size ho
 have h1:(h.update a (Obj.mapSeq fun _=>#[])).get? a=some (seqObj "list" #[] _):=get?_update_seq ho fun _=>#[]
 have h2:=Heap.get?_push_of_some (seqObj "list" #[] 0) (Heap.get?_push_of_some (seqObj "tuple" vs.toArray 0) h1)
 refine ⟨⟨_,get?_update_seq h2 fun _=>out⟩,fun b o hb q=>?_⟩
 unfold sortedHeap
 rw [Heap.get?_update_other _ _ (Ne.symm hb)]
 refine Heap.get?_push_of_some _ (Heap.get?_push_of_some _ ?_)
 rw [Heap.get?_update_other _ _ (Ne.symm hb)]
 exact q
end
section
variable {prog:Program} {w:World} {A:Around} {E:Value->Shared->Prop} {s:Shared}
abbrev Up (h h':Heap):Prop:=∀b o,h.get? b=some o->h'.get? b=some o
end
section
variable {prog:Program} {w:World} {A:Around} {E:Value->Shared->Prop} {s:Shared}
theorem tups_sortable {ks:List (List Str×Addr)} {vs:List Value} (hv:vs.Perm (ks.map fun p=>.ref p.2)) (ky:∀p∈ks,IsTupleKey (PySem.strKind prog w) s.heap p.1 p.2) (hne:∀p∈ks,p.1≠[]) :
  Sortable prog w A (tupK fun b=>(ks.find? fun p=>p.2==b).map (·.1)) (tuples' true) vs s:=by
 have look:∀p∈ks,∃q∈ks,(ks.find? fun p'=>p'.2==p.2)=some q/\q.2=p.2:=fun p hp=>by
  cases e:ks.find? fun p'=>p'.2==p.2 with
  | none=>exact absurd (List.find?_eq_none.mp e p hp) (by simp)
  | some q=>exact ⟨q,List.mem_of_find?_eq_some e,rfl,by simpa using List.find?_some e⟩
 refine ⟨tup_cmp _ (fun b k e=>?_) true,fun h2 E Q h=>?_,fun v hvm=>?_⟩
 ·obtain ⟨p,p1,p2⟩:=Option.map_eq_some_iff.mp e
  have p3:p.2=b:=by simpa using List.find?_some p1
  rw [<-p2,<-p3]
  exact ky p (List.mem_of_find?_eq_some p1)
 ·have go:∀(us:List Value),(∀u∈us,∃p∈ks,u= .ref p.2)->∃fs:List Value,KatTups s.heap us fs/\fs.length=us.length/\∀f∈fs,∃x t,f= .str x t:=by
   intro us
   induction us with
   | nil=>intro _;exact ⟨[],.nil,rfl,(fun f hf=>nomatch hf)⟩
   | cons u us ih =>
    intro hu
    obtain ⟨fs,t1,t2,t3⟩:=ih fun u hu'=>hu u (List.mem_cons_of_mem _ hu')
    obtain ⟨p,hp,rfl⟩:=hu u List.mem_cons_self
    obtain ⟨ob,its,n,q1,q2,q3,q4⟩:=ky p hp
    have q5:=zF4 q4
    have q6:=hne p hp
    generalize hk:p.1=k at q5 q6
    generalize hl:its.toList=l at q5
    cases q5 with
    | nil=>exact absurd rfl q6
    | cons x t r =>
     refine ⟨.str x t::fs,.cons q1 q2 q3 ?_ t1,by simp [t2],fun f hf=>?_⟩
     ·rw [<-Array.getElem?_toList,hl];rfl
     ·rcases List.mem_cons.mp hf with z| z
      ·exact ⟨x,t,z⟩
      ·exact t3 f z
  obtain ⟨fs,t1,t2,t3⟩:=go vs fun u hu=>by
   obtain ⟨p,hp,e⟩:=List.mem_map.mp (hv.mem_iff.mp hu)
   exact ⟨p,hp,e.symm⟩
  refine kat_kind (T:=.type "str") t1 (by omega) (fun f hf=>?_) (by decide) h
  obtain ⟨x,t,rfl⟩:=t3 f hf
  exact .now
 ·obtain ⟨p,hp,rfl⟩:=List.mem_map.mp (hv.mem_iff.mp hvm)
  obtain ⟨q,hq,e,_⟩:=look p hp
  exact ⟨q.1,by show Option.map _ _=_;rw [e];rfl⟩
end
end ST
namespace L2
open PySem PySem.Spec PyProof.Rows
def TSt (P:Program) (w:World) (a:Addr) (xs:List (List Str×Addr)):HO :=
 .ext fun h=>∃o es ep t,h.get? a=some o/\o.ExactSet/\o.data= .set es ep t/\es.toList=xs.map (ST.en (PySem.strKind P w))/\ST.TOk t (xs.map fun p=>tupleKeyHash (PySem.strKind P w) p.1)/\xs.length*5<t.mask*3/\(xs.map (·.1)).Nodup/\t.led= !ST.byt w
def RowT (K:PySem.W.Frag) (H:Hp) (p:List Str×Addr):Prop:=SqT K H p.2 (p.1.map V.str)
section
variable {X:Cx} {pins:List (Addr×Obj)} {σ:St} {H:Hp} {s:Shared}
theorem zHz {prog:Program} {w:World}:∀{ks:List Str} {its:List Value},Vals (ks.map V.str) its->ItemsAre (PySem.strKind prog w) ks its
 | [],_,.nil=>.nil
 | k::ks,_,.cons ⟨t,e⟩ r=>by
  subst e
  exact .cons (by show Value.isStrOf k (.str k t)=true;simp [Value.isStrOf]) (zHz r)
theorem Inv.rowT (I:Inv X pins σ H s) {p:List Str×Addr} (h:RowT X.K H p):IsTupleKey (PySem.strKind X.prog X.w) s.heap p.1 p.2:=by
 obtain ⟨its,r,⟨o,ho,hc,n,hd⟩,_⟩:=I.tuple h
 exact ⟨o,its.toArray,n,ho,hc,hd,by simpa using zHz r⟩
theorem zGr:∀{ks:List (List Str×Addr)} {its:List Value},Vals (ks.map fun p=>V.ref p.2) its->its=ks.map fun p=>Value.ref p.2
 | [],_,.nil=>rfl
 | k::ks,_,.cons e r=>by
  have e:_=Value.ref k.2:=e
  subst e
  rw [zGr r];rfl
theorem refs_vals:∀(ks:List (List Str×Addr)),Vals (ks.map fun p=>V.ref p.2) (ks.map fun p=>Value.ref p.2)
 | []=>.nil
 | k::ks=>.cons rfl (refs_vals ks)
theorem got_ok {h:Heap} {H:Hp} {a:Addr} {xs:List (List Str×Addr)} {o:Obj} {es:Array (Int×Value)} {ep:Nat} {t:SetTable} (Z:ST.SetX (PySem.strKind X.prog X.w) h a xs o es ep t):zA7 X.prog X.w H h a (TSt X.prog X.w a xs) :=
 ⟨⟨o,es,ep,t,Z.ho,Z.ex,Z.hd,Z.el,Z.ok,Z.room,Z.nd,Z.ld⟩,⟨o,Z.ho⟩,fun h1 h2 ⟨o,es,ep,t,q,r⟩ k=>⟨o,es,ep,t,k o q,r⟩⟩
theorem call_setT {k:Nat} (hr:Room k X.A):zCr X (.type "set") (fun xs H Q=>∃(l:Addr) (ks:List (List Str×Addr)),xs=[.ref l]/\SqL X.K H l (ks.map fun p=>V.ref p.2)/\(∀p∈ks,RowT X.K H p)/\ks.length<=306 /\
  ∀a ys,H a=none->(∀p∈ys,p∈ks)->(∀p∈ks,p.1∈ys.map (·.1))->(ys.map (·.1)).Nodup->ys.length<=ks.length->Q (.ref a) (upd H a (TSt X.prog X.w a ys))):=by
 intro pins s σ H xs us Q I r h
 obtain ⟨l,ks,rfl,hl,hk,hc,q⟩:=h
 obtain ⟨u,rfl,rx⟩:=zHo r
 cases rx
 obtain ⟨its,r',pl,hz⟩:=I.list hl
 have ei:=zGr r'
 refine ST.w_mkset (knd:=PySem.strKind X.prog X.w) (ks:=ks) hr.hd (by have:=hr.un;omega) pl.isList (by rw [ei]) (fun p hp=>I.rowT (hk p hp)) hc fun h' tk _ g kp=>?_
 obtain ⟨ys,o,es,ep,t,Z,g1,g2,g3⟩:=g
 exact ⟨.ref s.heap.objs.size,_,I.laid (t':=tk) kp (Nat.le_refl _) (got_ok Z),rfl,q _ ys (I.hok.fresh (Nat.le_refl _)) g1 g2 Z.nd g3⟩
theorem perm_back {α β:Type} (f:α->β):∀{vs:List β} {ks:List α},vs.Perm (ks.map f)->∃zs:List α,zs.Perm ks/\vs=zs.map f:=by
 intro vs ks h
 generalize hm:ks.map f=ms at h
 induction h generalizing ks with
 | nil=>exact ⟨[],by rw [List.map_eq_nil_iff.mp hm],rfl⟩
 | @cons x l₁ l₂ _ ih =>
  cases ks with
  | nil=>exact nomatch hm
  | cons k ks =>
   rw [List.map_cons] at hm
   obtain ⟨e1,e2⟩:=List.cons.inj hm
   obtain ⟨zs,p,e⟩:=ih e2
   exact ⟨k::zs,.cons k p,by rw [List.map_cons,<-e,e1]⟩
 | swap x y l =>
  match ks,hm with
  | a::b::ks,hm =>
   simp only [List.map_cons,List.cons.injEq] at hm
   obtain ⟨e1,e2,e3⟩:=hm
   exact ⟨b::a::ks,.swap a b ks,by simp [e1,e2,e3]⟩
 | trans _ _ ih1 ih2 =>
  obtain ⟨zs,p,e⟩:=ih2 hm
  obtain ⟨zs',p',e'⟩:=ih1 e.symm
  exact ⟨zs',p'.trans p,e'⟩
def RiseT (zs:List (List Str×Addr)):Prop:=zs.Pairwise fun p q=>ST.tlt q.1 p.1=false
theorem rise_of {prog:Program} {w:World} {h:Heap} {ys zs:List (List Str×Addr)} (hp:zs.Perm ys) (ky:∀p∈ys,IsTupleKey (PySem.strKind prog w) h p.1 p.2)
  (hs:(zs.map fun p=>Value.ref p.2).Pairwise fun x y=>(ST.tupK fun b=>(ys.find? fun p=>p.2==b).map (·.1)).kle (((ST.tupK fun b=>(ys.find? fun p=>p.2==b).map (·.1)).keyOf x).getD []) (((ST.tupK fun b=>(ys.find? fun p=>p.2==b).map (·.1)).keyOf y).getD [])):RiseT zs:=by
 rw [List.pairwise_map] at hs
 have key:∀p∈zs,((ys.find? fun q=>q.2==p.2).map (·.1)).getD []=p.1:=fun p hpz=>by
  have hpy:=hp.mem_iff.mp hpz
  cases e:ys.find? fun q=>q.2==p.2 with
  | none=>exact absurd (List.find?_eq_none.mp e p hpy) (by simp)
  | some q =>
   have q1:q.2=p.2:=by simpa using List.find?_some e
   have k1:=ky q (List.mem_of_find?_eq_some e)
   rw [q1] at k1
   exact k1.inj (ky p hpy)
 refine hs.imp_of_mem fun {p q} hp' hq' z=>?_
 have z:ST.tlt (((ys.find? fun r=>r.2==q.2).map (·.1)).getD []) (((ys.find? fun r=>r.2==p.2).map (·.1)).getD [])=false:=z
 rw [key p hp',key q hq'] at z
 exact z
end
end L2
namespace ST
theorem rows_one:∀{xs ys:List (List PySem.Str)},xs.Pairwise (fun a b=>tlt a b=true)->ys.Pairwise (fun a b=>tlt a b=true)->(∀k,k∈xs↔k∈ys)->xs=ys
 | [],[],_,_,_=>rfl
 | [],y::ys,_,_,h=>absurd ((h y).mpr List.mem_cons_self) (by simp)
 | x::xs,[],_,_,h=>absurd ((h x).mp List.mem_cons_self) (by simp)
 | x::xs,y::ys,h1,h2,h=>by
  obtain ⟨a1,a2⟩:=List.pairwise_cons.mp h1
  obtain ⟨b1,b2⟩:=List.pairwise_cons.mp h2
  have ex:x=y:=by
   rcases List.mem_cons.mp ((h x).mp List.mem_cons_self) with z| z
   ·exact z
   rcases List.mem_cons.mp ((h y).mpr List.mem_cons_self) with z'| z'
   ·exact z'.symm
   ·have:=zFb _ _ _ (b1 x z) (a1 y z')
    rw [zGs] at this;exact nomatch this
  subst ex
  have nx:x∉xs:=fun z=>by have:=a1 x z;rw [zGs] at this;exact nomatch this
  have ny:x∉ys:=fun z=>by have:=b1 x z;rw [zGs] at this;exact nomatch this
  rw [rows_one a2 b2 fun k=>⟨fun z=>?_,fun z=>?_⟩]
  ·rcases List.mem_cons.mp ((h k).mp (List.mem_cons_of_mem _ z)) with q| q
   ·subst q;exact absurd z nx
   ·exact q
  ·rcases List.mem_cons.mp ((h k).mpr (List.mem_cons_of_mem _ z)) with q| q
   ·subst q;exact absurd z ny
   ·exact q
theorem strict_of {xs:List (List PySem.Str)} (h:xs.Pairwise fun p q=>tlt q p=false) (hn:xs.Nodup):xs.Pairwise fun a b=>tlt a b=true:=by
 refine (List.pairwise_and_iff.mpr ⟨h,hn⟩).imp fun {a b} ⟨q1,q2⟩=>?_
 cases z:tlt a b with
 | true=>rfl
 | false=>exact absurd (zIk a b z q1) q2
section
open PySem PyProof.Rows
variable {prog:Program} {w:World} {A:Around} {s:Shared}
end
end ST
namespace L2
open PySem PySem.Spec PyProof.Rows
section
variable {X:Cx}
def rInsert:V->List V->Hp->VK->Prop:=fun x vs H Q=>∃l xs i y,x= .ref l/\vs=[.int i,y]/\H l=some (.lst xs)/\xs.length<sizeLine/\0<=i/\i<=xs.length/\Q .non (upd H l (.lst (xs.take i.toNat++y::xs.drop i.toNat)))
theorem zG7:MtM X "list.insert" rInsert:=by
 intro pins s σ H x vs v us Q I rx rv h
 obtain ⟨l,xs,i,y,rfl,rfl,hH,hz,h0,h1,q⟩:=h
 cases rx
 obtain ⟨u1,u,rfl,r1,ru⟩:=rv.two
 obtain ⟨t,rfl⟩:=r1
 obtain ⟨z,its,n,r,hl,e⟩:=I.lstM hH
 have hsl:sizeLine<2^62:=by decide +kernel
 have hfit:¬(!Builtin.List.listFitsIndex i)=true:=by
  unfold Builtin.List.listFitsIndex
  have a1:-(2^63:Int)<=i:=by omega
  have a2:i<2^63:=by omega
  rw [decide_eq_true a1,decide_eq_true a2];decide
 refine call_meets F.slot_list_insert ⟨_,e,rfl⟩ F.entry_list_insert (F.args_list_insert_3 _ _ _) (PySem.AutoListH.list_insert_list_int_val_1 l its.toArray n i t u hfit (by rw [List.size_toArray];omega)) ⟨e,?_⟩
 refine ⟨.non,_,I.lset (its':=its.take i.toNat++u::its.drop i.toNat) hH e ?_ ((r.take _).append (.cons ru (r.drop _))) ?_,rfl,q⟩
 ·have hk:(if i<0 then (i+((its.toArray.size:Nat):Int)).toNat else min i.toNat its.toArray.size)=i.toNat:=by
   rw [if_neg (by omega),List.size_toArray];omega
  show (its.toArray.extract 0 _).push u++its.toArray.extract _=_
  rw [hk]
  apply Array.ext'
  rw [Array.toList_append,Array.toList_push,Array.toList_extract,Array.toList_extract,List.append_assoc]
  simp [List.extract_eq_drop_take,List.take_of_length_le]
 ·rw [List.length_append,List.length_cons,List.length_take,List.length_drop]
  omega
def mrg (kvs more:List (Key×V)):List (Key×V):=more.foldl (fun acc p=>putK acc p.1 p.2) kvs
theorem KV.mrg {kvs:List (Key×V)} {vs:List (Key×Value)} (r:KV kvs vs):∀{more:List (Key×V)} {ms:List (Key×Value)},KV more ms->KV (mrg kvs more) (merged vs ms):=by
 intro more ms r2
 unfold L2.mrg merged
 unfold KV at r2
 induction r2 generalizing kvs vs with
 | nil=>exact r
 | @cons p q l₁ l₂ h _ ih =>
  rw [List.foldl_cons,List.foldl_cons,h.1]
  exact ih (r.put q.1 h.2)
theorem mrg_len (kvs more:List (Key×V)):(mrg kvs more).length<=kvs.length+more.length:=by
 unfold mrg
 induction more generalizing kvs with
 | nil=>exact Nat.le_refl _
 | cons p r ih =>
  rw [List.foldl_cons,List.length_cons]
  have h1:=ih (putK kvs p.1 p.2)
  have h2:=zE7 kvs p.1 p.2
  omega
def rDUpd:V->List V->Hp->VK->Prop:=fun x vs H Q=>∃a b kvs more,x= .ref a/\vs=[.ref b]/\H a=some (.dK kvs)/\H b=some (.dK more)/\a≠b/\kvs.length+more.length<=sizeLine/\Q .non (upd H a (.dK (mrg kvs more)))
theorem mt_dupd:MtR X "dict.update" rDUpd:=by
 intro pins s σ H x vs v us Q I rx rv h
 obtain ⟨a,b,kvs,more,rfl,rfl,hA,hB,hne,hz,q⟩:=h
 cases rx
 obtain ⟨u,rfl,ru⟩:=rv.one
 cases ru
 obtain ⟨_,a2,vs1,a3,a4⟩:=I.hok a _ hA
 obtain ⟨_,b2,vs2,b3,b4⟩:=I.hok b _ hB
 have l1:kvs.length=vs1.length:=Paired.length a3
 have l2:more.length=vs2.length:=Paired.length b3
 refine call_meetsIn F.slot_dict_update a4.typeIs F.entry_dict_update (F.args_dict_update_2 _ _) (meets_dict_update (zB0 X.prog X.w) a b hne b2) ⟨vs1,vs2,a4,b4,by omega,fun h' d1 d2 sb=>?_⟩
 have new:zA7 X.prog X.w (upd H a (.dK (mrg kvs more))) h' a (.dK (mrg kvs more)):=⟨Nat.le_trans (mrg_len kvs more) hz,a2,_,a3.mrg b3,d1⟩
 refine ⟨.non,_,I.write (x:=a) (e:=a) (t':=s.toks) (by rw [hA];exact trivial) (.inl rfl) (fun c o hc z=>(sb.2 c hc).trans z) ?_ new,rfl,q⟩
 obtain ⟨o,_,_,e,_⟩:=d1
 exact ⟨o,e⟩
end
section
variable {X:Cx}
theorem op_neU (hu:X.A.units<cLine):OpR X (compareOp .NotEq) (rUnlen X.K true):=by
 intro pins s σ H x y v u Q I rx ry h
 obtain ⟨a,c,xs,ys,rfl,rfl,hx,hy,hl,q⟩:=h
 cases rx
 cases ry
 obtain ⟨its,r,pl,hz⟩:=I.list hx
 obtain ⟨its2,r2,pl2,hz2⟩:=I.list hy
 have e1:=r.length
 have e2:=r2.length
 exact SeqAt.RcNeAt.lists_lengths pl.isList pl2.isList (by rw [List.size_toArray,List.size_toArray];simp;omega) hu X.prog X.w X.xe _ ⟨.bl true,H,I,rfl,q⟩
end
theorem op_neAU {X:Cx} {k:Nat} (hr:Room k X.A):OpR X (compareOp .NotEq) (fun x y H Q=>zH7 X.K 8 false x y H Q\/rUnlen X.K true x y H Q):=(op_neA (hu2 hr)).either (op_neU (hu0 hr))
open AutoSeq1 (wpAny_loadPart')
def TrD (h B:Heap) (e:Addr) (c:Value) (dd:Option Addr) (fl:Value):Prop :=
 ∃oe vs T oT ts,h.get? e=some oe/\oe.cls=c/\oe.dict=dd/\oe.data= .fields vs/\vs[1]?=some (.ref T)/\B.get? T=none/\T≠e/\h.get? T=some oT/\oT.data= .fields ts/\ts[3]?=some fl
def FlD (B:Heap) (l:List Env) (e:Addr) (c:Value) (dd:Option Addr) (h:Heap):Prop:=B.StaysIn h/\B.get? e=none/\h.FunFrames B l/\∃fl,TrD h B e c dd fl
theorem FlD.there {B h:Heap} {l:List Env} {e:Addr} {c:Value} {dd:Option Addr} (x:FlD B l e c dd h):∃o,h.get? e=some o/\o.cls=c/\o.dict=dd/\∃vs,o.data= .fields vs :=
 let ⟨_,_,_,_,oe,vs,_,_,_,q1,q2,q3,q4,_⟩:=x
 ⟨oe,q1,q2,q3,vs,q4⟩
theorem FlD.less {B h:Heap} {env:Env} {l:List Env} {e:Addr} {c:Value} {dd:Option Addr} (x:FlD B (env::l) e c dd h):FlD B l e c dd h :=
 let ⟨x1,x2,⟨_,_,x3⟩,x4⟩:=x
 ⟨x1,x2,x3,x4⟩
theorem dict_mf (o:Obj) (f:Array Value->Array Value):(Obj.mapFields f o).dict=o.dict:=by
 unfold Obj.mapFields;split<;>rfl
section
variable {M:Model} {A:Around} {E:Value->Shared->Prop} {s:Shared} {B:Heap} {env:Env} {l:List Env} {L e:Addr} {c:Value} {dd:Option Addr} {Q:Unit->Shared->Prop}
theorem rec_write {T:Addr} {oT:Obj} {ts:Array Value} {f:Array Value->Array Value} (st:B.StaysIn s.heap) (hl:s.heap.FunFrames B l) (nT:B.get? T=none) (hT:s.heap.get? T=some oT) (dT:oT.data= .fields ts) :
  (∀b,b≠T->(s.heap.update T (Obj.mapFields f)).get? b=s.heap.get? b)/\B.StaysIn (s.heap.update T (Obj.mapFields f))/\(s.heap.update T (Obj.mapFields f)).FunFrames B l/\s.heap.UpToSlots (s.heap.update T (Obj.mapFields f)) /\
   (s.heap.update T (Obj.mapFields f)).get? T=some (oT.mapFields f):=by
 have other:∀b,b≠T->(s.heap.update T (Obj.mapFields f)).get? b=s.heap.get? b:=fun b hb=>Heap.get?_update_other _ _ (Ne.symm hb)
 have nrec:∀b o,s.heap.get? b=some o->(∀vs,o.data≠.fields vs)->b≠T:=fun b o q nf z=>by rw [z,hT] at q;cases q;exact nf ts dT
 refine ⟨other,fun b o q=>(other b fun z=>by rw [z,nT] at q;cases q).trans (st b o q),hl.of_keeps fun b o q nf=>⟨o,(other b (nrec b o q nf)).trans q,rfl⟩,fun b o q nf=>⟨o.slots,(other b (nrec b o q nf)).trans q⟩,Heap.get?_update_self _ hT (Obj.isFreed_of_fields (Obj.data_mapFields dT _))⟩
theorem zFr {m:Option Addr} (x:FlD B l e c dd s.heap) (h:∀h',FlD B l e c dd h'->s.heap.UpToSlots h'->(∀b o,s.heap.get? b=some o->(∀vs,o.data≠.fields vs)->h'.get? b=some o)->Q () {s with heap:=h'}):wpAny M A (setFlight (.ref e) m) Q E s:=by
 obtain ⟨x1,x2,x3,fl,oe,vs,T,oT,ts,q1,q2,q2',q3,q4,q5,q6,q7,q8,q9⟩:=x
 unfold setFlight
 refine wpAny_bind (wpAny_field q1 q3 q4 ?_)
 rw [if_pos (by simp)]
 have sz:3<ts.size:=(Array.getElem?_eq_some_iff.mp q9).1
 refine wpAny_setField q7 q8 sz ?_
 obtain ⟨o,y1,y2,y3,y4⟩:=rec_write (f:=(·.setIfInBounds 3 (m.elim Value.none fun f=>rawInt f))) x1 x3 q5 q7 q8
 exact h _ ⟨y1,x2,y2,_,oe,vs,T,_,_,(o e (Ne.symm q6)).trans q1,q2,q2',q3,q4,q5,q6,y4,Obj.data_mapFields q8 _,Array.getElem?_setIfInBounds_self_of_lt sz⟩ y3 fun b ob z nf=>(o b fun z2=>by rw [z2,q7] at z;cases z;exact nf ts q8).trans z
theorem fly_entry {oe:Obj} {vs:Array Value} {hd:Value} {hn:Bool} (hfr:A.frames=some (env::l)) (hl:s.heap.FunFrames B (env::l)) (hf:env.frame=some L) (he:s.heap.get? e=some oe) (st:B.StaysIn s.heap) (ne:B.get? e=none) (dv:oe.data= .fields vs) (sz:1<vs.size)
  (h:∀h',FlD B (env::l) e oe.cls oe.dict h'->s.heap.UpToSlots h'->Q () {s with heap:=h'}) :
  wpAny M A (do setField (.ref e) 1 (<-EntryCells.newEntry hd (<-frameOf env) .none (rawInt L) .none (<-entryPlaceOf L hn))) Q E s:=by
 have enf:e∉(env::l).filterMap (·.frame):=fun z=>by
  obtain ⟨_,o,ho,nf⟩:=hl.mem z
  rw [he] at ho;cases ho;exact nf vs dv
 refine wpAny_bind (wpAny_frameOf_fun hfr hl hf fun h1 k1=>wpAny_bind (wpAny_entryPlaceOf fun pl hpl=>?_))
 unfold EntryCells.newEntry newFields
 refine wpAny_bind (wpAny_newObj_type ?_ (hpl.sizeOk5 _ _ _ _ _))
 generalize hob:({cls:=.type "traceback",dict:=none,data:=.fields ([hd,.ref L,.none,rawInt L,.none]++(if pl.isEmpty then List.replicate 6 Value.none else pl)).toArray}:Obj)=ob
 have obd:ob.data= .fields ([hd,.ref L,.none,rawInt L,.none]++(if pl.isEmpty then List.replicate 6 Value.none else pl)).toArray:=by rw [<-hob]
 have e1:h1.get? e=some oe:=(k1.2.1 e enf).trans he
 have st1:B.StaysIn h1:=fun b o z=>(k1.2.1 b fun hm=>by rw [(hl.mem hm).1] at z;cases z).trans (st b o z)
 have Te:h1.objs.size≠e:=Nat.ne_of_gt (Heap.lt_size e1)
 have e2:(h1.push ob).get? e=some oe:=Heap.get?_push_of_some _ e1
 have t2:(h1.push ob).get? h1.objs.size=some ob:=Heap.get?_push_size h1 (Obj.isFreed_of_fields obd)
 refine wpAny_setField e2 dv sz (h _ ?_ ?_)
 ·have other:∀b,b≠e->((h1.push ob).update e (Obj.mapFields (·.setIfInBounds 1 (Value.ref h1.objs.size)))).get? b=(h1.push ob).get? b:=fun b hb=>Heap.get?_update_other _ _ (Ne.symm hb)
  refine ⟨fun b o z=>(other b fun z2=>by rw [z2,ne] at z;cases z).trans (Heap.get?_push_of_some _ (st1 b o z)),ne,hl.of_keeps fun b o z nf=>?_,rawInt L,_,_,h1.objs.size,_,_,Heap.get?_update_self _ e2 (Obj.isFreed_of_fields (Obj.data_mapFields dv _)),Obj.cls_mapFields _ _,dict_mf _ _,Obj.data_mapFields dv _,Array.getElem?_setIfInBounds_self_of_lt sz,st1.fresh,Te,(other _ Te).trans t2,obd,rfl⟩
  obtain ⟨sl,z1⟩:=k1.2.2 b o z
  exact ⟨_,(other b fun z2=>by rw [z2,he] at z;cases z;exact nf vs dv).trans (Heap.get?_push_of_some _ z1),rfl⟩
 ·intro b o z nf
  obtain ⟨sl,z1⟩:=k1.2.2 b o z
  exact ⟨sl,(Heap.get?_update_other _ _ fun z2=>by rw [<-z2,he] at z;cases z;exact nf vs dv).trans (Heap.get?_push_of_some _ z1)⟩
theorem zHg (hfr:A.frames=some (env::l)) (hf:env.frame=some L) (x:FlD B (env::l) e c dd s.heap) (h:∀h',FlD B (env::l) e c dd h'->s.heap.UpToSlots h'->Q () {s with heap:=h'}):wpAny M A (noteFrame (.ref e) env) Q E s:=by
 obtain ⟨x1,x2,x3,fl,oe,vs,T,oT,ts,q1,q2,q2',q3,q4,q5,q6,q7,q8,q9⟩:=id x
 unfold noteFrame
 simp only [hf]
 refine wpAny_bind (wpAny_field q1 q3 q4 ?_)
 rw [if_pos (by simp)]
 refine wpAny_bind (wpAny_field q7 q8 q9 ?_)
 by_cases hm:fl=rawInt L
 ·rw [if_pos (by simpa using hm)]
  exact wpAny_pure (h _ x (Heap.UpToSlots.refl _))
 ·rw [if_neg (by simpa using hm)]
  refine wpAny_bind (wpAny_setField q7 q8 (Array.getElem?_eq_some_iff.mp q9).1 ?_)
  obtain ⟨o,y1,y2,y3,y4⟩:=rec_write (f:=(·.setIfInBounds 3 Value.none)) x1 x3 q5 q7 q8
  subst q2 q2'
  exact fly_entry hfr y2 hf ((o e (Ne.symm q6)).trans q1) y1 x2 q3 (Array.getElem?_eq_some_iff.mp q4).1 fun h' z u=>h h' z (y3.trans u)
theorem fly_leaves (hfr:A.frames=some (env::l)) (hf:env.frame=some L) (x:FlD B (env::l) e c dd s.heap) (h:∀h',FlD B l e c dd h'->s.heap.UpToSlots h'->Q () {s with heap:=h'}):wpAny M A (leaving env (.ref e)) Q E s:=by
 unfold leaving
 exact wpAny_bind (zHg hfr hf x fun h1 y u=>zFr y fun h2 z v _=>h h2 z.less (u.trans v))
theorem fly_first {oe:Obj} {vs:Array Value} (hfr:A.frames=some (env::l)) (hl:s.heap.FunFrames B (env::l)) (hf:env.frame=some L) (he:s.heap.get? e=some oe) (st:B.StaysIn s.heap) (ne:B.get? e=none) (dv:oe.data= .fields vs) (h1:vs[1]?=some .none)
  (h:∀h',FlD B l e oe.cls oe.dict h'->s.heap.UpToSlots h'->Q () {s with heap:=h'}):wpAny M A (leaving env (.ref e)) Q E s:=by
 unfold leaving noteFrame
 simp only [hf]
 refine wpAny_bind (wpAny_bind (wpAny_field he dv h1 ?_))
 rw [if_neg (by decide)]
 exact fly_entry hfr hl hf he st ne dv (Array.getElem?_eq_some_iff.mp h1).1 fun h1 y u=>zFr y fun h2 z v _=>h h2 z.less (u.trans v)
theorem fly_on {α:Type} {what:String} {cenv:Env} {Q:α->Shared->Prop} (x:FlD B l e c dd s.heap)
  (h:∀h',FlD B l e c dd h'->(∀b o,s.heap.get? b=some o->(∀vs,o.data≠.fields vs)->h'.get? b=some o)->E (.ref e) {s with heap:=h'}):wpAny M A (PySem.passOn what (.ref e) cenv) Q E s:=by
 obtain ⟨x1,x2,x3,fl,oe,vs,T,oT,ts,q1,q2,q2',q3,q4,q5,q6,q7,q8,q9⟩:=id x
 unfold PySem.passOn
 refine wpAny_bind (wpAny_field q1 q3 q4 ?_)
 rw [if_neg (by simp)]
 exact wpAny_bind (zFr x fun h' z _ k=>wpAny_throw (h h' z k))
end
theorem zDr {P:Program} {w:World} {H:Hp} {h:Heap} {a:Addr} {o:HO} (x:zA7 P w H h a o):∃u,h.get? a=some u:=by
 cases o with
 | lst xs=>obtain ⟨_,_,_,_,e⟩:=x;exact ⟨_,e⟩
 | tup xs=>obtain ⟨_,_,_,_,e,_⟩:=x;exact ⟨_,e⟩
 | dK kvs=>obtain ⟨_,_,_,_,o,_,_,e,_⟩:=x;exact ⟨_,e⟩
 | dT kvs=>obtain ⟨_,_,_,_,o,_,_,e,_⟩:=x;exact ⟨_,e⟩
 | set S n=>obtain ⟨o,_,_,_,e,_⟩:=x;exact ⟨_,e⟩
 | ins C dx fs=>obtain ⟨_,_,_,e,_⟩:=x;exact ⟨_,e⟩
 | own y=>exact x
 | xd fs=>obtain ⟨_,⟨_,_,_,e,_⟩,_⟩:=x;exact ⟨_,e⟩
 | rng lo hi=>obtain ⟨_,_,_,e⟩:=x;exact ⟨_,e⟩
 | frz ob u=>obtain ⟨e,_⟩:=x;exact ⟨_,e⟩
 | tbl ps=>exact ⟨_,show h.get? a=some _ from x⟩
 | met f y=>exact ⟨_,show h.get? a=some _ from x⟩
 | ext φ=>exact x.2.1
def part (h:Heap) (p:Addr->Bool):Heap:=⟨h.objs.mapIdx fun i o=>if p i then o else {o with data:=.freed},h.life⟩
theorem zFm (h:Heap) (p:Addr->Bool) (b:Addr):(part h p).get? b=if p b then h.get? b else none:=by
 unfold part Heap.get?
 simp only [Array.getElem?_mapIdx]
 cases h.objs[b]? with
 | none=>simp
 | some o =>
  cases hp:p b with
  | true=>simp [hp]
  | false=>simp [hp]
def nfr (h:Heap) (l:List Env):Heap:=part h fun b=>decide (b∉frs l)
theorem nfr_stays (h:Heap) (l:List Env):(nfr h l).StaysIn h:=fun b o e=>by
 unfold nfr at e
 rw [zFm] at e
 split at e
 ·exact e
 ·cases e
theorem nfr_get {h:Heap} {l:List Env} {b:Addr} (hb:b∉frs l):(nfr h l).get? b=h.get? b:=by
 unfold nfr
 rw [zFm,if_pos (by simpa using hb)]
theorem nfr_no {h:Heap} {l:List Env} {b:Addr} (hb:b∈frs l):(nfr h l).get? b=none:=by
 unfold nfr
 rw [zFm,if_neg (by simpa using hb)]
theorem zJj {h base B:Heap}:∀{l:List Env},h.FunFrames base l->(∀b∈frs l,B.get? b=none)->h.FunFrames B l
 | [],_,_=>trivial
 | env::rest,⟨m,⟨L,o,e1,e2,e3,e4⟩,r⟩,n=>⟨m,⟨L,o,e1,n L (by unfold frs;rw [List.filterMap_cons,e1];exact List.mem_cons_self),e3,e4⟩,zJj r fun b hb=>n b (by
   unfold frs at hb ⊢
   rw [List.filterMap_cons,e1];exact List.mem_cons_of_mem _ hb)⟩
def CX1 (P:Program) (w:World):CXT:=fun outer H s E e s'=>∃(a C:Addr) (dd:Option Addr) (H':Hp) (B:Heap),e= .ref a/\FlD B outer a (.ref C) dd s'.heap/\s'.os=s.os/\AllBare s'.gens/\Un (frs outer) [] H H' s.heap s'.heap/\HOk P w H' s'.heap /\
 H' a=none/\s.heap.get? a=none/\(∀b o,(H' b≠none\/(s.heap.get? b≠none/\b∉frs outer))->s'.heap.get? b=some o->B.get? b=some o)/\E (.ref C) dd H'
section
variable {X:Cx} {pins:List (Addr×Obj)} {σ:St} {H:Hp} {s:Shared}
theorem zJg {H':Hp} {h h' B:Heap} {fs:List Addr} {H₀:Hp} {h₀:Heap} (u:Un fs [] H₀ H' h₀ h) (st:B.StaysIn h') (us:h.UpToSlots h') (hB:∀b o,(H' b≠none\/(h₀.get? b≠none/\b∉fs))->h.get? b=some o->B.get? b=some o)
  (hf:∀b∈fs,∀o,h₀.get? b=some o->∀vs,o.data≠.fields vs) (hfn:∀b∈fs,H₀ b=none):Un fs [] H₀ H' h₀ h' where
 keep:=fun b o e n nf nx=>st b o (hB b o (.inr ⟨by rw [e];simp,nf⟩) (u.keep b o e n nf nx))
 slot:=fun b o e n hb nx=>by
  obtain ⟨sl,q⟩:=u.slot b o e n hb nx
  obtain ⟨sl',q'⟩:=us b _ q (hf b hb o e)
  exact ⟨sl',q'⟩
 free:=u.free
 there:=fun b o e nx=>by
  by_cases hb:b∈fs
  ·obtain ⟨sl,q⟩:=u.slot b o e (hfn b hb) hb nx
   obtain ⟨sl',q'⟩:=us b _ q (hf b hb o e)
   exact ⟨_,q'⟩
  ·obtain ⟨o',q⟩:=u.there b o e nx
   exact ⟨o',st b o' (hB b o' (.inr ⟨by rw [e];simp,hb⟩) q)⟩
 tups:=u.tups
 frzs:=u.frzs
 tbls:=u.tbls
theorem zEe {P:Program} {w:World} {H':Hp} {h h' B:Heap} (k:HOk P w H' h) (st:B.StaysIn h') (hB:∀b o,H' b≠none->h.get? b=some o->B.get? b=some o):HOk P w H' h':=fun b u e =>
 (k b u e).stay (fun c v hc q=>st c v (hB c v (by
  rcases hc with z| z
  ·rw [z,e];simp
  ·rw [z];simp) q)) (fun _ q=>q) fun _ _ q=>q
end
section
variable {P:Program} {w:World} {K:PySem.W.Frag} {mg:Str->Option Value} {base:Heap} {N:List Str} {qual:Str} {scope:Scope} {f:Addr} {cd:Value} {A:Around} {outer:List Env} {s:Shared} {H:Hp} {E E':XK}
theorem made1 {pins:List (Addr×Obj)} {σ:St} {H1:Hp} {s1:Shared} {h':Heap} {e C:Addr} {args:List Value} (I:Inv (cxOf (CX1 P w) P w K mg base N qual scope f cd A outer s H E) pins σ H1 s1) (hx:Heap.MadeExcOf s1.heap h' e (.ref C) args) (q:E (.ref C) none H1) :
  (cxOf (CX1 P w) P w K mg base N qual scope f cd A outer s H E).xe (.ref e) {s1 with heap:=h'}:=by
 have hfs:∀b∈frs (cxOf (CX1 P w) P w K mg base N qual scope f cd A outer s H E).stack,(nfr s1.heap (cxOf (CX1 P w) P w K mg base N qual scope f cd A outer s H E).stack).get? b=none:=fun b hb=>nfr_no hb
 obtain ⟨t,he,htn,ht⟩:=hx.there
 have old0:∀b,s1.heap.get? b=none->(nfr s1.heap (cxOf (CX1 P w) P w K mg base N qual scope f cd A outer s H E).stack).get? b=none:=fun b z=>by
  cases q0:(nfr s1.heap (cxOf (CX1 P w) P w K mg base N qual scope f cd A outer s H E).stack).get? b with
  | none=>rfl
  | some o=>rw [nfr_stays _ _ b o q0] at z;cases z
 refine fly_first (B:=nfr s1.heap (cxOf (CX1 P w) P w K mg base N qual scope f cd A outer s H E).stack) I.ok.frames ((zJj I.stack hfs).of_keeps fun b o z _=>⟨o,hx.keeps b o z,rfl⟩) rfl he (fun b o z=>hx.keeps b o (nfr_stays _ _ b o z)) (old0 e hx.new) rfl rfl fun h2 fl us=>?_
 have st:=fl.1
 have I2:Inv (cxOf (CX1 P w) P w K mg base N qual scope f cd A outer s H E) pins σ H1 {s1 with heap:=h',toks:=s1.toks}:=I.kept hx.keeps
 have old:∀b o,(H1 b≠none\/(s.heap.get? b≠none/\b∉frs outer))->h'.get? b=some o->(nfr s1.heap (cxOf (CX1 P w) P w K mg base N qual scope f cd A outer s H E).stack).get? b=some o:=fun b o hc eo=>by
  have nst:b∉frs (cxOf (CX1 P w) P w K mg base N qual scope f cd A outer s H E).stack:=fun z=>by
   rcases hc with y| ⟨y1,y2⟩
   ·exact y (I.stkFree b z)
   ·rcases List.mem_cons.mp (I.stkSub b z) with y| y
    ·cases q0:s.heap.get? b with
     | none=>exact y1 q0
     | some o0=>exact absurd (Nat.lt_of_lt_of_le (Heap.lt_size q0) (by rw [y];exact I.ok.above)) (Nat.lt_irrefl _)
    ·exact y2 y
  rw [nfr_get nst]
  have:∃o2,s1.heap.get? b=some o2:=by
   rcases hc with z| ⟨z1,z2⟩
   ·cases q0:H1 b with
    | none=>exact absurd q0 z
    | some u=>exact zDr (I.hok b u q0)
   ·cases q0:s.heap.get? b with
    | none=>exact absurd q0 z1
    | some o0=>exact I.base.there b o0 q0 (by exact fun z=>nomatch z)
  obtain ⟨o2,e2⟩:=this
  have e3:=hx.keeps b o2 e2
  rw [eo] at e3;cases e3;exact e2
 refine ⟨e,C,none,H1,_,rfl,fl,I.os,I.bare,zJg I2.base st us old (fun b hb o eo=>?_) (fun b hb=>I.ok.frf b hb),zEe I2.hok st fun b o z=>old b o (.inl z),?_,?_,fun b o hc eo=>?_,q⟩
 ·obtain ⟨_,o',e',d⟩:=I.ok.funs.mem hb
  have e':s.heap.get? b=some o':=e'
  rw [eo] at e';cases e';exact d
 ·cases q0:H1 e with
  | none=>rfl
  | some u =>
   obtain ⟨o2,e2⟩:=zDr (I.hok e u q0)
   rw [hx.new] at e2;cases e2
 ·cases q0:s.heap.get? e with
  | none=>rfl
  | some o0 =>
   obtain ⟨o1,e1⟩:=I.base.there e o0 q0 (by exact fun z=>nomatch z)
   rw [hx.new] at e1;cases e1
 ·have eo:h2.get? b=some o:=eo
  have:∃o2,h'.get? b=some o2:=by
   rcases hc with z| ⟨z1,z2⟩
   ·cases q0:H1 b with
    | none=>exact absurd q0 z
    | some u=>exact zDr (I2.hok b u q0)
   ·cases q0:s.heap.get? b with
    | none=>exact absurd q0 z1
    | some o0=>exact I2.base.there b o0 q0 (by exact fun z=>nomatch z)
  obtain ⟨o2,e2⟩:=this
  have e3:=old b o2 hc e2
  rw [st b o2 e3] at eo
  cases eo
  exact e3
end
theorem xcls_at {K:PySem.W.Frag} {h:Heap} {C:Addr} {bmB:List Value} {newId:String} (X:K.In h) (q:PySem.W.excIn K C bmB newId=true) :
  ∃(bm:List Value) (N:Addr) (nm qn:Str) (bs:List Value) (hdct:Bool) (sn:List Str) (sub:List Value) (ab:Bool) (col:Option Bool) (dd:Option Addr) (k0 k1 k2 k3 k5:Option Value) (mN:Str->Option Value),
   h.get? C=some (excClassObj nm qn C N bs bm hdct sn sub ab col dd k0 k1 k2 k3 k5 newId)/\h.Ns N mN/\mN "__init__" = none/\OwnTail h bmB bm:=by
 unfold PySem.W.excIn at q
 split at q
 case h_2=>cases q
 case h_1 dd cd sl ho =>
  split at q
  case h_2=>cases q
  case h_1 C1 bm k0 k1 k2 k3 n k5 hm hs =>
   simp only [Bool.and_eq_true,beq_iff_eq,Bool.not_eq_true'] at q
   obtain ⟨⟨⟨⟨⟨rfl,rfl⟩,nd⟩,tl⟩,ok⟩,ni⟩:=q
   cases cd
   dsimp only at hm nd ok ni
   subst hm nd
   cases sl
   dsimp only at hs
   subst hs
   exact ⟨_,_,_,_,_,_,_,_,_,_,_,_,_,_,_,_,_,X _ _ ho,.of_isNs (PySem.W.isNs_of_in X ok),PySem.W.nsMap_none_of_in X ok ni,PySem.W.tail_of_in X tl⟩
section
variable {X:Cx} {E:XK} {C:Addr}
def RaiseOk (X:Cx) (C:Addr) (E:XK):Prop:=∀(pins:List (Addr×Obj)) (σ:St) (H:Hp) (s:Shared) (h':Heap) (e:Addr) (us:List Value),Inv X pins σ H s->Heap.MadeExcOf s.heap h' e (.ref C) us->E (.ref C) none H->X.xe (.ref e) {s with heap:=h'}
def sRaise (E:XK) (C:Addr) (t:TA):TS:=fun _ σ H=>t σ H fun vs H1=>vs.length<=sizeLine/\E (.ref C) none H1
abbrev bmVE:List Value:=[.type "ValueError",.type "Exception",.type "BaseException",.type "object"]
theorem zGo {x:Str} {np cpos pos:Pos} {a:Expr} {es:List Expr} {t:TA} (hx:RaiseOk X C E) (hc:X.calm=true) (hg:Gl X x) (hm:X.mg x=some (.ref C)) (q:PySem.W.excIn X.K C bmVE "ValueError.__new__" = true) (ha:PA X (a::es) t)
  (hd:(x==("__debug__" : Str))=false:=by decide) (he:starEach (a::es) X.env=(false,eval a X.env)::starEach es X.env:=by rfl) (hpl:(backTo cpos (starEach es X.env)).any (·.1)=false:=by rfl) :
  PS X (.Raise (some (.Call (.Name x np) (a::es) [] cpos)) none pos) (sRaise E C t):=by
 intro pins s σ H D I h
 obtain ⟨bm,N,nm,qn,bs,hdct,sn,sub,ab,col,dd,k0,k1,k2,k3,k5,mN,hC,hN,hni,T⟩:=xcls_at I.ok.mod.kin q
 refine wpAny_Raise_call_subU F.excBase_ValueError (B:= "ValueError") (C:=C) (nm:=nm) (q:=qn) (N:=N) (bs:=bs) (bm:=bm) (hdct:=hdct) (sn:=sn) (sub:=sub) (ab:=ab) (col:=col) (dd:=dd) (k0:=k0) (k1:=k1) (k2:=k2) (k3:=k3) (k5:=k5) (mN:=mN) (by decide +kernel) F.excBase_ValueError (T.hasType (by decide +kernel)) (I.ok.hd hc) ?_ hni (zEc I hg hm ?_ hd)
 ·rw [he]
  show (false||(backTo cpos (starEach es X.env)).any (·.1))=false
  rw [hpl];rfl
 refine ⟨rfl,?_⟩
 have ha':=ha cpos pins s σ H _ I h
 rw [he] at ha' ⊢
 refine Calls.evalArgs_plain (thn ha' fun us s1 ⟨vs,H1,I1,r1,z,q1⟩=>?_)
 exact ⟨rfl,by rw [<-r1.length];exact z,I1.bk _ _ hC,hN.keeps I1.bk,T.keeps I1.bk,fun h' e mk=>hx pins σ H1 s1 h' e us I1 mk q1⟩
end
def mroK (K:PySem.W.Frag) (C:Addr):List Value:=match K.lookup C with
 | some ⟨_,_,.cls cd,_⟩=>cd.mro
 | _=>[]
open PySem.W in
def excB (K:Frag) (C:Addr):Bool:=match K.lookup C with
 | none=>false
 | some o=>match o.cls,o.data,o.slots.toList with
  | .type y,.cls c,[_,_,_,_,some (.builtin n),_]=>y== "type" && c.mro.head?==some (.ref C)&&n== "ValueError.__new__" && !c.hasDel&&tailIn K bmVE c.mro.tail&&nsOkIn K c.ns
  | _,_,_=>false
open PySem.W in
theorem excB_of {K:Frag} {C:Addr} (q:excIn K C bmVE "ValueError.__new__" = true):excB K C=true:=by
 unfold excIn at q
 split at q
 case h_2=>cases q
 case h_1 dd cd sl ho =>
  split at q
  case h_2=>cases q
  case h_1 C1 bm k0 k1 k2 k3 n k5 hm hs =>
   simp only [Bool.and_eq_true,beq_iff_eq,Bool.not_eq_true'] at q
   obtain ⟨⟨⟨⟨⟨rfl,rfl⟩,nd⟩,tl⟩,ok⟩,ni⟩:=q
   unfold excB
   rw [ho]
   simp only [hs,hm,nd,ok,List.head?_cons,List.tail_cons]
   rw [tl];simp
open PySem.W in
theorem zGq {K:Frag} {h:Heap} {C:Addr} (X:K.In h) (q:excB K C=true) :
  ∃(bm:List Value) (N:Addr) (nm qn:Str) (bs:List Value) (hdct:Bool) (sn:List Str) (sub:List Value) (ab:Bool) (col:Option Bool) (dd:Option Addr) (k0 k1 k2 k3 k5:Option Value),
   h.get? C=some (excClassObj nm qn C N bs bm hdct sn sub ab col dd k0 k1 k2 k3 k5 "ValueError.__new__")/\OwnTail h bmVE bm/\mroK K C= .ref C::bm:=by
 unfold excB at q
 split at q
 case h_1=>cases q
 case h_2 o ho =>
  split at q
  case h_2=>cases q
  case h_1 y c k0 k1 k2 k3 n k5 hc hd hs =>
   simp only [Bool.and_eq_true,beq_iff_eq,Bool.not_eq_true'] at q
   obtain ⟨⟨⟨⟨⟨rfl,hm⟩,rfl⟩,nd⟩,tl⟩,ok⟩:=q
   have mk:mroK K C=c.mro:=by
    unfold mroK
    rw [ho]
    obtain ⟨o1,o2,o3,o4⟩:=o
    have hd:o3= .cls c:=hd
    subst hd
    rfl
   obtain ⟨o1,o2,o3,o4⟩:=o
   cases hc
   cases hd
   obtain ⟨sl⟩:=o4
   have hs:sl=_:=hs
   subst hs
   have at_:=X _ _ ho
   have T:=tail_of_in X tl
   obtain ⟨c1,c2,c3,c4,c5,c6,c7,c8,c9,c10,c11⟩:=c
   have hm:c3.head?=some (.ref C):=hm
   have nd:c11=false:=nd
   subst nd
   cases c3 with
   | nil=>cases hm
   | cons v bm =>
    cases hm
    exact ⟨bm,c4,c1,c5,c2,c6,c7,c8,c9,c10,o2,k0,k1,k2,k3,k5,at_,T,mk⟩
section
variable {M:Model} {A:Around} {E:Value->Shared->Prop} {h:Heap} {g:Array GenState} {d:Drawn} {t:Nat} {os:OsState}
theorem match_own {C B NC NB e:Addr} {oe:Obj} {nm qn nm' qn':Str} {bs bm bs' bm':List Value} {hdct hdct':Bool} {sn sn':List Str} {sub sub':List Value} {ab ab':Bool} {col col':Option Bool} {dd dd':Option Addr} {k0 k1 k2 k3 k5 j0 j1 j2 j3 j5:Option Value} {newId newId':String} {Q:Bool->Shared->Prop} {r:Bool}
  (hC:h.get? C=some (excClassObj nm qn C NC bs bm hdct sn sub ab col dd k0 k1 k2 k3 k5 newId)) (hB:h.get? B=some (excClassObj nm' qn' B NB bs' bm' hdct' sn' sub' ab' col' dd' j0 j1 j2 j3 j5 newId')) (he:h.get? e=some oe) (hcls:oe.cls= .ref C)
  (base:(Value.ref B::bm').contains (.type "BaseException")=true) (hr:(Value.ref C::bm).contains (.ref B)=r) (q:Q r ⟨h,g,d,t,os⟩):wpAny M A (excMatches (.ref e) (.ref B)) Q E ⟨h,g,d,t,os⟩:=by
 have f:=tc_notTuple
 unfold excMatches
 repeat (first| (with_reducible refine wpAny_loadPart_at he ?_;rw [hcls])| with_reducible refine wpAny_loadPart_at hB ?_| (with_reducible refine wpAny_isSubtype_exc hB ?_;rw [base])| (with_reducible refine wpAny_isSubtype_exc hC ?_;rw [hr])| wp_step)
 cases r<;>(wp_walk;exact q)
end
abbrev Cx.tb (X:Cx) (pl:List (Addr×Obj)) (ξ:Value->Shared->Prop):Cx:={X with pn:=X.pn++pl,xe:=ξ}
abbrev Cx.hnd (X:Cx) (a:Addr):Cx:={X with A:=X.A.mark (some (.ref a)),calm:=false,xe:=fun _ _=>False}
section
variable {X:Cx} {pins:List (Addr×Obj)} {σ:St} {H:Hp} {s:Shared}
theorem Inv.to_tb {ξ:Value->Shared->Prop} (I:Inv X pins σ H s):Inv (X.tb pins ξ) [] σ H s :=
 ⟨⟨I.ok.mod,I.ok.kind,I.ok.glob,I.ok.blt,I.ok.above,I.ok.inj,I.ok.has,I.ok.cab,I.ok.hd,I.ok.frames,I.ok.stk,I.ok.exf,I.ok.bs,I.ok.bsz,I.ok.noex,I.ok.exfs,I.ok.funs,I.ok.frf⟩,I.os,I.bare,I.base,I.loc,I.cell,I.free,I.freeC,fun p hp=>I.pin p (by simpa using hp),I.hok,I.len⟩
theorem Inv.of_tb {ξ:Value->Shared->Prop} {pl:List (Addr×Obj)} (I:Inv (X.tb pl ξ) pins σ H s):Inv X pl σ H s :=
 ⟨⟨I.ok.mod,I.ok.kind,I.ok.glob,I.ok.blt,I.ok.above,I.ok.inj,I.ok.has,I.ok.cab,I.ok.hd,I.ok.frames,I.ok.stk,I.ok.exf,I.ok.bs,I.ok.bsz,I.ok.noex,I.ok.exfs,I.ok.funs,I.ok.frf⟩,I.os,I.bare,I.base,I.loc,I.cell,I.free,I.freeC,fun p hp=>I.pin p (List.mem_append_left _ hp),I.hok,I.len⟩
theorem Inv.to_hnd {a:Addr} (I:Inv X pins σ H s):Inv (X.hnd a) pins σ H s :=
 ⟨⟨I.ok.mod,I.ok.kind,I.ok.glob,I.ok.blt,I.ok.above,I.ok.inj,I.ok.has,I.ok.cab,(fun z=>nomatch z),I.ok.frames,I.ok.stk,I.ok.exf,I.ok.bs,I.ok.bsz,I.ok.noex,I.ok.exfs,I.ok.funs,I.ok.frf⟩,I.os,I.bare,I.base,I.loc,I.cell,I.free,I.freeC,I.pin,I.hok,I.len⟩
theorem Inv.of_hnd {a:Addr} (I:Inv (X.hnd a) pins σ H s) (hd:X.calm=true->X.A.handled=none):Inv X pins σ H s :=
 ⟨⟨I.ok.mod,I.ok.kind,I.ok.glob,I.ok.blt,I.ok.above,I.ok.inj,I.ok.has,I.ok.cab,hd,I.ok.frames,I.ok.stk,I.ok.exf,I.ok.bs,I.ok.bsz,I.ok.noex,I.ok.exfs,I.ok.funs,I.ok.frf⟩,I.os,I.bare,I.base,I.loc,I.cell,I.free,I.freeC,I.pin,I.hok,I.len⟩
theorem Inv.track {a:Addr} {o:HO} (I:Inv X pins σ H s) (n:H a=none) (n0:X.s₀.heap.get? a=none) (hL:a≠X.env.locals) (hc:∀x c,X.env.cells.lookup x=some c->c≠a) (hp:∀p∈X.pn++pins,p.1≠a) (ob:zA7 X.prog X.w (upd H a o) s.heap a o):Inv X pins σ (upd H a o) s:=by
 refine ⟨I.ok,I.os,I.bare,⟨I.base.keep,I.base.slot,fun b u e m hx=>?_,I.base.there,fun b xs e=>?_,fun b u v e=>?_,fun b ps e=>?_⟩,I.loc,I.cell,?_,fun x c e=>?_,fun p q=>?_,fun b u e=>?_,I.len⟩
 ·have:b≠a:=fun z=>by rw [z,n0] at e;cases e
  rw [upd_ne this];exact I.base.free b u e m hx
 ·have h1:=I.base.tups b xs e
  rw [upd_ne (zAj h1 n)];exact h1
 ·have h1:=I.base.frzs b u v e
  rw [upd_ne (zAj h1 n)];exact h1
 ·obtain ⟨more,h1⟩:=I.base.tbls b ps e
  exact ⟨more,by rw [upd_ne (zAj h1 n)];exact h1⟩
 ·rw [upd_ne (Ne.symm hL)];exact I.free
 ·rw [upd_ne (hc x c e)];exact I.freeC x c e
 ·obtain ⟨p1,p2,p3⟩:=I.pin p q
  exact ⟨p1,by rw [upd_ne (hp p q)];exact p2,p3⟩
 ·by_cases hb:b=a
  ·subst hb;rw [upd_same] at e;cases e;exact ob
  ·rw [upd_ne hb] at e
   refine (I.hok b u e).stay (fun _ _ _ q=>q) (fun c q=>?_) fun c xs q=>?_
   ·rw [upd_ne (zAj q n)];exact q
   ·rw [upd_ne (zAj q n)];exact q
end
section
variable {X:Cx} {pins:List (Addr×Obj)} {σ:St} {H:Hp} {s:Shared}
theorem Inv.gone {i:Nat} {x:Str} {m:Str->Option Value} {u:Option Value} {h':Heap} {tk:Nat} (I:Inv X pins σ H s) (hN:X.N.Nodup) (hi:X.N[i]?=some x)
  (hm:s.heap.Ns X.env.locals m/\∀(j:Nat) (y:Str) (v:V),X.N[j]?=some y->σ[j]?=some (some v)->Vis X.env.scope y->∃w,RelV v w/\Look X.env s.heap m y w) (hn:h'.Ns X.env.locals (fun y=>if y=x then u else m y)) (hs:Heap.SameBut X.env.locals s.heap h') :
  Inv X pins (σ.set i none) H {s with heap:=h',toks:=tk}:=by
 obtain ⟨_,hl⟩:=hm
 have old:∀b o,X.s₀.heap.get? b=some o->b≠X.env.locals:=fun b o e=>Nat.ne_of_lt (Nat.lt_of_lt_of_le (Heap.lt_size e) I.ok.above)
 have iσ:i<σ.length:=by rw [I.len];exact (List.getElem?_eq_some_iff.mp hi).1
 refine ⟨I.ok,I.os,I.bare,⟨fun b o e n hb hx=>(hs.2 b (old b o e)).trans (I.base.keep b o e n hb hx),fun b o e n hb hx=>?_,I.base.free,fun b o e hx=>?_,I.base.tups,I.base.frzs,I.base.tbls⟩,⟨_,hn,fun j y v e1 e2 e3=>?_⟩,fun y c e=>?_,I.free,I.freeC,fun p hp=>?_,fun b ob e=>?_,by simpa using I.len⟩
 ·obtain ⟨sl,q⟩:=I.base.slot b o e n hb hx
  exact ⟨sl,(hs.2 b (old b o e)).trans q⟩
 ·obtain ⟨o2,q⟩:=I.base.there b o e hx
  exact ⟨o2,(hs.2 b (old b o e)).trans q⟩
 ·have ji:j≠i:=fun z=>by
   subst z
   rw [List.getElem?_set_self iσ] at e2
   cases e2
  rw [List.getElem?_set_ne (Ne.symm ji)] at e2
  obtain ⟨w,r,q⟩:=hl j y v e1 e2 e3
  have yx:y≠x:=fun z=>ji (zJf hN e1 (z▸hi))
  refine ⟨w,r,?_⟩
  rcases q with ⟨k,e⟩| ⟨k,c,e,z⟩
  ·exact .inl ⟨k,by simp [yx,e]⟩
  ·exact .inr ⟨k,c,e,z.sameBut hs (I.cne y c e)⟩
 ·obtain ⟨w,z⟩:=I.cell y c e
  exact ⟨w,z.sameBut hs (I.cne y c e)⟩
 ·obtain ⟨p1,p2,p3,p4,p5⟩:=I.pin p hp
  exact ⟨(hs.2 p.1 p3).trans p1,p2,p3,p4,p5⟩
 ·refine (I.hok b ob e).stay (fun c w hc q=>(hs.2 c ?_).trans q) (fun _ q=>q) fun _ _ q=>q
  rintro rfl
  rcases hc with rfl| hc
  ·rw [I.free] at e;cases e
  ·rw [I.free] at hc;cases hc
theorem zFp {M:Model} {A:Around} {E:Value->Shared->Prop} {i:Nat} {x:Str} {pos:Pos} {Q:Unit->Shared->Prop} (I:Inv X pins σ H s) (hN:X.N.Nodup) (hi:X.N[i]?=some x) (hk:X.env.kindOf x=some .local) (h:∀s',Inv X pins (σ.set i none) H s'->Q () s') :
  wpAny M A (do bindName X.env x .none;unbindBehindTheSuite X.env x pos) Q E s:=by
 have hcls:(X.env.scope.kind== .class||(X.env.scope.kind== .module&&X.env.locals != X.env.globals))=false:=by rw [I.ok.kind];rfl
 refine wpAny_bind (wpAny_bindName (zGi (v:=.non) (u:=.none) I hN hi (.inl hk) rfl (fun s1 I1=>?_) (.inr hk)))
 unfold unbindBehindTheSuite
 refine wpAny_onRaise ?_
 obtain ⟨m,hn,hl⟩:=id I1.loc
 have iσ:i<σ.length:=by rw [I.len];exact (List.getElem?_eq_some_iff.mp hi).1
 obtain ⟨w,r,q⟩:=hl i x .non hi (by rw [List.getElem?_set_self iσ]) (.inl hk)
 have hv:m x=some w:=by
  rcases q with ⟨_,e⟩| ⟨z,_⟩
  ·exact e
  ·rw [hk] at z;rcases z with z| z<;>cases z
 refine wpAny_unbindName_local hk hn hv hcls fun h' u hn' hs=>?_
 have:=Inv.gone (tk:=s1.toks) I1 hN hi ⟨hn,hl⟩ hn' hs
 rw [List.set_set] at this
 exact h _ this
def excD (a C:Addr) (dd:Option Addr):HO:=.ext fun h=>∃o,h.get? a=some o/\o.cls= .ref C/\o.dict=dd/\∃vs,o.data= .fields vs
theorem excD_ok {P:Program} {w:World} {H:Hp} {h:Heap} {a C:Addr} {dd:Option Addr} (x:∃o,h.get? a=some o/\o.cls= .ref C/\o.dict=dd/\∃vs,o.data= .fields vs):zA7 P w H h a (excD a C dd):=by
 obtain ⟨o,e,c⟩:=x
 exact ⟨⟨o,e,c⟩,⟨o,e⟩,fun h1 h2 ⟨o1,e1,c1⟩ k=>⟨o1,k o1 e1,c1⟩⟩
end
def zJs (CX:CXT) (X:Cx) (E:St->XK):Prop:=∀(pins:List (Addr×Obj)) (σ:St) (H:Hp) (s:Shared) (e:Value) (s':Shared),Inv X pins σ H s->CX X.stack H s (E σ) e s'->X.xe e s'
def hEnds (i:Nat) (D:Ends):Ends:={nx:=fun σ H=>D.nx (σ.set i none) H,rt:=D.rt,bk:=fun σ H=>D.bk (σ.set i none) H,ct:=fun σ H=>D.ct (σ.set i none) H}
def tTry (K:PySem.W.Frag) (Cb:Addr) (i:Nat) (tb:(St->XK)->TS) (th:TS):TS:=fun D σ H =>
 tb (fun σ' c dd H'=>∃C,c= .ref C/\excB K C=true/\(mroK K C).contains (.ref Cb)=true/\∀a,H' a=none->th (hEnds i D) (σ'.set i (some (.ref a))) (upd H' a (excD a C dd))) D σ H
section
variable {X:Cx}
theorem sp_tb {pl:List (Addr×Obj)} {ξ:Value->Shared->Prop} {D:Ends} {f:Flow} {s':Shared} {pins:List (Addr×Obj)} (h:SP (X.tb pl ξ) pins D f s'):SP X pl D f s':=by
 cases f with
 | next=>obtain ⟨σ',H',I,q⟩:=h;exact ⟨σ',H',I.of_tb,q⟩
 | brk=>obtain ⟨σ',H',I,q⟩:=h;exact ⟨σ',H',I.of_tb,q⟩
 | cont=>obtain ⟨σ',H',I,q⟩:=h;exact ⟨σ',H',I.of_tb,q⟩
 | ret u=>obtain ⟨v,σ',H',I,r,q⟩:=h;exact ⟨v,σ',H',I.of_tb,r,q⟩
theorem pe_callX {CX:CXT} {k:Nat} {f:Addr} {fd:FuncData} {ps:List Str} {sp:Sp} {E:St->XK} {x:Str} {p pos:Pos} {e:Expr} {es:List Expr} {t:TA} (F:FnOk X.prog X.w X.K X.mg X.base CX k f fd ps sp) (hr:Room k X.A) (hg:Gl X x) (hm:X.mg x=some (.ref f)) (hk:PySem.W.keepIn X.K (.ref f)=true) (hb:zC5 X.K fd ps []) (hx:zJs CX X E)
  (ha:PA X (e::es) t) (hdb:(x==("__debug__" : Str))=false:=by decide) (he:starEach (e::es) X.env=(false,eval e X.env)::starEach es X.env:=by rfl) (hpl:(backTo pos (starEach es X.env)).any (·.1)=false:=by rfl) :
  PE X (.Call (.Name x p) (e::es) [] pos) (fun σ H Q=>t σ H fun vs H1=>sp vs H1 Q (E σ)):=by
 intro pins s σ H Q I h
 refine wpAny_Call_Name_kw (zEc I hg hm ?_ hdb)
 refine PySem.W.callWith_K (h₀:=X.base) I.ok.mod.kin hk (thn (ha pos pins s σ H _ I h) fun us s1 ⟨vs,H1,I1,r,q⟩=>⟨I1.kIn,?_⟩) he hpl
 have hl:us.length=ps.length:=by rw [<-r.length];exact F.len _ _ _ _ q
 have bd:=hb s1 us I1.kIn (by rw [List.append_nil];exact hl)
 rw [List.append_nil] at bd
 refine wpAny_call (codeAny_mono (F.run X.A X.stack s1 H1 ⟨us,[]⟩ us vs Q (E σ) hr I1.env0 bd r q) fun rr s' hq=>?_)
 cases rr with
 | error x=>exact hx pins σ H1 s1 x s' I1 hq
 | ok fl =>
  cases fl with
  | ret u=>exact I1.after hq
  | next=>exact hq.elim
  | brk=>exact hq.elim
  | cont=>exact hq.elim
end
section
variable {P:Program} {w:World} {K:PySem.W.Frag} {mg:Str->Option Value} {base:Heap}
theorem Fun.okX {x qual:Str} {st:Stmt} {f:Addr} {fd:FuncData} {N ps:List Str} {k:Nat} {sp:Sp} (F:Fun K x qual st f fd) (S:FnScope N ps (zAe st)) (len:∀vs H Q E,sp vs H Q E->vs.length=ps.length)
  (hbody:∀(cdv:Value) (A:Around) (outer:List Env) (s:Shared) (H:Hp) (vs:List V) (Q:VK) (E:XK),Room k (A.deeper (envOfC qual (zAe st) s.heap.objs.size f cdv))->sp vs H Q E ->
   ∃t,PSs (cxOf (CX1 P w) P w K mg base N qual (zAe st) f cdv A outer s H E) (zBr st) t/\t {nx:=fun _ H'=>Q .non H',rt:=Q} (zHp N vs) H):FnOk P w K mg base (CX1 P w) (k+1) f fd ps sp:=by
 obtain ⟨oc,od,kV,doc,pm,an,cdv,ct,osl,rfl,lk,hcd⟩:=F.ex
 exact fn_of lk hcd S len fun A outer s H vs Q E hr hsp=>hbody cdv A outer s H vs Q E hr hsp
theorem raise1 {N:List Str} {qual:Str} {scope:Scope} {f C:Addr} {cd:Value} {A:Around} {outer:List Env} {s:Shared} {H:Hp} {E:XK}:RaiseOk (cxOf (CX1 P w) P w K mg base N qual scope f cd A outer s H E) C E:=fun _ _ _ _ _ _ _ I hx q=>made1 I hx q
end
end L2
namespace L2
open PySem PySem.Spec PyProof.Rows PySem.W PySem.Builtin PySem.Builtin.ObjectAttr PySem.Builtin.Getset_descriptor
section
variable {prog:Program} {w:World} {A:Around} {E:Value->Shared->Prop} {s:Shared} {K:PySem.W.Frag} {x C:Addr} {R:Result->Shared->Prop}
theorem exc_get {tp:Value} (X:K.In s.heap) (L0:Looks (model prog w) s.heap (typeOf (.ref x)) (.ref C)) (hm:mroIn K C (.type "object")=some true) (h:R (.ok (.ret (.ref C))) s) :
  codeAny (model prog w) A (.call (.builtin "getset_descriptor.__get__") ⟨[.builtin "object.__class__",.ref x,tp],[]⟩) R s:=by
 obtain ⟨h0,g,d,t,os⟩:=s
 have L1:=looks_mroIn (M:=model prog w) X hm
 refine codeAny_call_builtin KF.slot_gs.plain KF.entry_gs (KF.slot_gs.check _ _ _ _ _ _ _ _ KF.type_class (KF.args_gs _ _ _) ?_)
 unfold Builtin.«getset_descriptor.__get__» descrGet
 rw [dga_obj]
 refine wpAny_bind (wpAny_pure ?_)
 unfold descrGetter descrCheckInstance descrNameAndClass isInstance
 simp only [KF.owner_class]
 repeat lk
 refine ⟨Code.quiet_builtin _ (by decide +kernel),codeAny_builtin KF.entry_class ?_⟩
 unfold Builtin.«object.__class__» shownTypeOf
 repeat lk
 exact h
theorem exc_ga {tk:Tok} (X:K.In s.heap) (L0:Looks (model prog w) s.heap (typeOf (.ref x)) (.ref C)) (hm:mroIn K C (.type "object")=some true) (hb:mroIn K C (.type "BaseException")=some true)
  (gc:findIn K (.ref C) "__class__" = some (some (.builtin "object.__class__"))) (hn:specialIn K (.builtin "object.__class__") "__get__" = some (some (.builtin "getset_descriptor.__get__"))) (htk:takesIn K (.builtin "object.__class__")=some true) (h:R (.ok (.ret (.ref C))) s) :
  codeAny (model prog w) A (.call (.builtin "BaseException.__getattribute__") ⟨[.ref x,.str "__class__" tk],[]⟩) R s:=by
 obtain ⟨h0,g,d,t,os⟩:=s
 have L1:=looks_mroIn (M:=model prog w) X hb
 have L2:=looks_findIn (M:=model prog w) X gc
 have L3:=looks_specialIn (M:=model prog w) X hn
 have L4:=looks_takesIn (M:=model prog w) X htk
 have hk:builtinKind "BaseException.__getattribute__" = some .slot:=by decide +kernel
 have hsplit:splitId "BaseException.__getattribute__" = some ("BaseException", "__getattribute__"):=by decide +kernel
 have ha:=F.args_bexc_ga (.ref x) (.str "__class__" tk)
 refine codeAny_call_builtin (by decide +kernel) F.entry_bexc_ga ?_
 simp only [checkBuiltinCall,hk,hsplit]
 refine wpAny_bind ?_
 unfold isInstance
 refine (L0.andThen L1).at ?_
 simp only [Bool.not_true,Bool.false_eq_true,if_false]
 have go:wpAny (model prog w) A.in1 (Builtin.«object.__getattribute__» ⟨[.ref x,.str "__class__" tk],[]⟩) (fun fin s'=>match fin with
   | .done f=>R (.ok f) s'
   | .again c'=>c'.quiet=true/\codeAny (model prog w) A c' R s') (fun e s'=>R (.error e) s') ⟨h0,g,d,t,os⟩:=by
  unfold Builtin.«object.__getattribute__»
  repeat lk
  show wpAny _ _ (run (.call (.builtin "getset_descriptor.__get__") ⟨[.builtin "object.__class__",.ref x,.ref C],[]⟩)) _ _ _
  exact wpAny_run (exc_get X L0 hm (wpAny_pure (wpAny_pure h)))
 unfold argsOk at ha
 cases hs:Manifest.signature? "BaseException.__getattribute__" with
 | none=>exact wpAny_pure go
 | some sig =>
  rw [hs] at ha
  simp only at ha ⊢
  rw [ha]
  exact wpAny_pure go
theorem exc_class {Q:Option Value->Shared->Prop} (X:K.In s.heap) (L0:Looks (model prog w) s.heap (typeOf (.ref x)) (.ref C)) (hm:mroIn K C (.type "object")=some true) (hb:mroIn K C (.type "BaseException")=some true) (ga:findIn K (.ref C) "__getattribute__" = some (some (.builtin "BaseException.__getattribute__"))) (gn:findIn K (.ref C) "__getattr__" = some none)
  (gc:findIn K (.ref C) "__class__" = some (some (.builtin "object.__class__"))) (hn:specialIn K (.builtin "object.__class__") "__get__" = some (some (.builtin "getset_descriptor.__get__"))) (htk:takesIn K (.builtin "object.__class__")=some true) (h:Q (some (.ref C)) {s with toks:=s.toks+1}) :
  wpAny (model prog w) A (getAttr? (.ref x) "__class__") Q E s:=by
 obtain ⟨h0,g,d,t,os⟩:=s
 have L1:=looks_findIn (M:=model prog w) X ga
 have L2:=looks_findIn (M:=model prog w) X gn
 have f3:=F.excAttr_ValueError.ga.bind (.ref x)
 unfold getAttr? getAttrBy? getAttrBy
 refine wpAny_bind (wpAny_mkText (wpAny_bind (wpAny_attempt (wpAny_holding (wpAny_bind (L0.at (wpAny_bind (L1.at ?_))))))))
 show wpAny _ _ (getAttrByItsOwn _ _ _ _ _ _) _ _ _
 unfold getAttrByItsOwn
 unfold hookBefore
 refine wpAny_bind ?_
 rw [if_pos (show onTheHeap (Value.ref C)=true from rfl)]
 refine L2.at ?_
 refine wpAny_bind (wpAny_attempt (wpAny_holding ?_))
 unfold callGetattribute
 rw [if_neg (by simp)]
 unfold boundAndCalled
 rw [f3]
 refine wpAny_bind (wpAny_pure ?_)
 refine wpAny_call (exc_ga (s:=⟨h0,g,d,t+1,os⟩) X L0 hm hb gc hn htk ?_)
 exact wpAny_pure (wpAny_pure h)
def zIh (K:PySem.W.Frag) (C:Addr):Bool:=(mroIn K C (.type "object")==some true)&&(mroIn K C (.type "BaseException")==some true)&&(findIn K (.ref C) "__getattribute__" == some (some (.builtin "BaseException.__getattribute__")))&&(findIn K (.ref C) "__getattr__" == some none) &&
 (findIn K (.ref C) "__class__" == some (some (.builtin "object.__class__")))&&(specialIn K (.builtin "object.__class__") "__get__" == some (some (.builtin "getset_descriptor.__get__")))&&(takesIn K (.builtin "object.__class__")==some true)&&(clsIn K C).isSome
theorem kitx_exc (q:zIh K C=true):KitX K (.ref x) (.ref C) (fun h=>∃o,h.get? x=some o/\o.cls= .ref C):=by
 unfold zIh at q
 simp only [Bool.and_eq_true,beq_iff_eq] at q
 obtain ⟨⟨⟨⟨⟨⟨⟨hm,hb⟩,ga⟩,gn⟩,gc⟩,hn⟩,htk⟩,hc⟩:=q
 have ty:∀(M:Model) (h:Heap),(∃o,h.get? x=some o/\o.cls= .ref C)->Looks M h (typeOf (.ref x)) (.ref C):=fun M h ⟨o,e1,e2⟩=>e2▸(Looks.ld e1).andThen .now
 refine ⟨fun M h _ p=>ty M h p,fun M h X _=>?_,fun h tp dd its n sl X htp=>?_,fun X p k=>exc_class X (ty _ _ p) hm hb ga gn gc hn htk k⟩
 ·unfold clsIn at hc
  split at hc
  case h_1 c1 d1 cd1 sl1 ho =>
   intro A1 Q1 E1 s1 k q
   unfold isType loadHead
   exact wpAny_bind (wpAny_loadPart (k _ _ (X _ _ ho)) (wpAny_pure q))
  case h_2=>cases hc
 ·refine Bool.eq_false_iff.mpr fun z=>?_
  have e:C=tp:=Value.ref.inj (beq_iff_eq.mp z)
  subst e
  unfold clsIn at hc
  split at hc
  case h_1 c1 d1 cd1 sl1 ho =>
   have z:=(X _ _ ho).symm.trans htp
   cases z
  case h_2=>cases hc
end
section
variable {X:Cx}
theorem excD_at {pins:List (Addr×Obj)} {σ:St} {H:Hp} {s:Shared} {a C:Addr} {dd:Option Addr} (I:Inv X pins σ H s) (e:H a=some (excD a C dd)):∃o,s.heap.get? a=some o/\o.cls= .ref C :=
 let ⟨o,e1,e2,_⟩:=(I.hok a _ e).1
 ⟨o,e1,e2⟩
theorem zA6:zCr X (.builtin "isinstance") (fun xs H Q=>∃a C dd D b,xs=[.ref a,.ref D]/\H a=some (excD a C dd)/\zIh X.K C=true/\PySem.W.kitOne X.K (.ref C) (.ref D)=some b/\Q (.bl b) H):=by
 intro pins s σ H xs us Q I rv h
 obtain ⟨a,C,dd,D,b,rfl,e,k,kb,q⟩:=h
 obtain ⟨u,v,rfl,ru,rw1⟩:=rv.two
 cases ru
 cases rw1
 exact PySem.W.kia_one (kitx_exc k) I.kIn (excD_at I e) kb (fun z=>nomatch z) fun tk=>⟨.bl b,H,I.tok tk,rfl,q⟩
theorem call_isXB:zCr X (.builtin "isinstance") (fun xs H Q=>∃a C dd n b,xs=[.ref a,.ty n]/\H a=some (excD a C dd)/\zIh X.K C=true/\PySem.W.kitOne X.K (.ref C) (.type n)=some b/\Q (.bl b) H):=by
 intro pins s σ H xs us Q I rv h
 obtain ⟨a,C,dd,D,b,rfl,e,k,kb,q⟩:=h
 obtain ⟨u,v,rfl,ru,rw1⟩:=rv.two
 cases ru
 cases rw1
 exact PySem.W.kia_one (kitx_exc k) I.kIn (excD_at I e) kb (fun z=>nomatch z) fun tk=>⟨.bl b,H,I.tok tk,rfl,q⟩
end
end L2
namespace L2
open PySem PySem.Spec PyProof.Rows
structure Flt (P:Program) (w:World) (stack:List Env) (ch:List Addr) (H:Hp) (s:Shared) (a C:Addr) (dd:Option Addr) (H':Hp) (s':Shared):Prop where
 ex:∃B:Heap,FlD B stack a (.ref C) dd s'.heap/\∀b o,(H' b≠none\/(s.heap.get? b≠none/\b∉frs stack/\b∉ch))->s'.heap.get? b=some o->B.get? b=some o
 os:s'.os=s.os
 bare:AllBare s'.gens
 un:Un (frs stack) ch H H' s.heap s'.heap
 hok:HOk P w H' s'.heap
 na:H' a=none
 ng:s.heap.get? a=none\/a∈ch
def ChOk (X:Cx) (pins:List (Addr×Obj)) (ch:List Addr):Prop:=∀b∈ch,(b∈X.ex\/X.s₀.heap.objs.size<=b)/\b≠X.env.locals/\(∀x c,X.env.cells.lookup x=some c->c≠b)/\∀p∈X.pn++pins,p.1≠b
def zBm (X:Cx) (E:St->XK):Prop:=∀(pins:List (Addr×Obj)) (σ:St) (H:Hp) (s:Shared) (ch:List Addr) (a C:Addr) (dd:Option Addr) (H':Hp) (s':Shared),Inv X pins σ H s->ChOk X pins ch->Flt X.prog X.w X.stack ch H s a C dd H' s'->E σ (.ref C) dd H'->X.xe (.ref a) s'
theorem Inv.landC {X:Cx} {pins:List (Addr×Obj)} {σ:St} {H H':Hp} {s s':Shared} {h' B:Heap} {ch:List Addr} (I:Inv X pins σ H s) (hch:ChOk X pins ch) (os:s'.os=s.os) (bare:AllBare s'.gens) (un:Un (frs X.stack) ch H H' s.heap s'.heap) (hok:HOk X.prog X.w H' s'.heap)
  (hB:∀b o,(H' b≠none\/(s.heap.get? b≠none/\b∉frs X.stack/\b∉ch))->s'.heap.get? b=some o->B.get? b=some o) (st:B.StaysIn h') (us:s'.heap.UpToSlots h'):Inv X pins σ H' {s' with heap:=h'}:=by
 have fr:∀b∈frs X.stack,b∉ch->∀o,s.heap.get? b=some o->∃sl,h'.get? b=some {o with slots:=sl}:=fun b hb nc o e=>by
  obtain ⟨sl,q⟩:=un.slot b o e (I.stkFree b hb) hb nc
  obtain ⟨_,o1,e1,d1⟩:=I.stack.mem hb
  rw [e] at e1;cases e1
  obtain ⟨sl2,q2⟩:=us b _ q d1
  exact ⟨sl2,q2⟩
 have out:∀b o,b∉frs X.stack->b∉ch->s.heap.get? b=some o->H b=none->h'.get? b=some o:=fun b o nb nc e n=>st b o (hB b o (.inr ⟨by rw [e];simp,nb,nc⟩) (un.keep b o e n nb nc))
 have J:Inv X pins σ H' {s with heap:=h',gens:=s'.gens,drawn:=s'.drawn,toks:=s'.toks}:=by
  refine I.step (g':=s'.gens) (d':=s'.drawn) (t':=s'.toks) (ch:=ch) hch (fun b o nL nf nc e n=>?_) (fun b o nL bf nc e n=>?_) (fun b o nc e n=>un.free b o e n nc) (fun b o nc e=>?_) un.tups un.frzs un.tbls (fun m hm=>?_)
   (zEe hok st fun b o z=>hB b o (.inl z)) bare
  ·exact out b o (fun z=>(List.mem_cons.mp (I.stkSub b z)).elim nL nf) nc e n
  ·by_cases hb:b∈frs X.stack
   ·exact fr b hb nc o e
   ·exact ⟨o.slots,out b o hb nc e n⟩
  ·by_cases hb:b∈frs X.stack
   ·obtain ⟨sl,q⟩:=fr b hb nc o e
    exact ⟨_,q⟩
   ·obtain ⟨o1,q⟩:=un.there b o e nc
    exact ⟨o1,st b o1 (hB b o1 (.inr ⟨by rw [e];simp,hb,nc⟩) q)⟩
  ·have nc:X.env.locals∉ch:=fun z=>(hch _ z).2.1 rfl
   obtain ⟨o,es,ep,ho,r⟩:=hm
   by_cases hb:X.env.locals∈frs X.stack
   ·obtain ⟨sl,q⟩:=fr _ hb nc o ho
    exact ⟨_,es,ep,q,r⟩
   ·exact ⟨o,es,ep,out _ o hb nc ho I.free,r⟩
 have e:({s' with heap:=h'}:Shared)={s with heap:=h',gens:=s'.gens,drawn:=s'.drawn,toks:=s'.toks}:=by
  cases s'
  simp only at os
  subst os
  rfl
 rw [e]
 exact J
theorem zBm.at {X:Cx} {E:St->XK} (p:zBm X E):zJs (CX1 X.prog X.w) X E:=by
 intro pins σ H s e s' I h
 obtain ⟨a,C,dd,H',B,rfl,fl,os,bare,un,hok,na,ng,hB,q⟩:=h
 exact p pins σ H s [] a C dd H' s' I (fun b z=>nomatch z) ⟨⟨B,fl,fun b o z=>hB b o (z.imp id fun y=>⟨y.1,y.2.1⟩)⟩,os,bare,un,hok,na,.inl ng⟩ q
section
variable {P:Program} {w:World} {K:PySem.W.Frag} {mg:Str->Option Value} {base:Heap} {N:List Str} {qual:Str} {scope:Scope} {f:Addr} {cd:Value} {A:Around} {outer:List Env} {s:Shared} {H:Hp} {E:XK} {E':St->XK}
theorem zHs (hE:∀σ c d H',E' σ c d H'->E c d H'):zBm (cxOf (CX1 P w) P w K mg base N qual scope f cd A outer s H E) E':=by
 intro pins σ H1 s1 ch a C dd H' s2 I hch h q
 obtain ⟨⟨B,fl,hB⟩,os,bare,un,hok,na,ng⟩:=h
 have I2:Inv (cxOf (CX1 P w) P w K mg base N qual scope f cd A outer s H E) pins σ H' s2:=I.call' os un hok bare hch
 refine fly_leaves I.ok.frames rfl fl fun h' fl' us=>?_
 have st:=fl'.1
 have none0:∀b:Addr,b∉(cxOf (CX1 P w) P w K mg base N qual scope f cd A outer s H E).ex:=fun b z=>nomatch z
 have oldB:∀b o,(H' b≠none\/(s.heap.get? b≠none/\b∉frs outer))->s2.heap.get? b=some o->B.get? b=some o:=fun b o hc e=>by
  refine hB b o ?_ e
  rcases hc with z| ⟨z1,z2⟩
  ·exact .inl z
  ·cases q0:s.heap.get? b with
   | none=>exact absurd q0 z1
   | some o0 =>
    obtain ⟨o1,e1⟩:=I.base.there b o0 q0 (none0 b)
    refine .inr ⟨by rw [e1];simp,fun z=>?_,fun z=>?_⟩
    ·rcases List.mem_cons.mp (I.stkSub b z) with y| y
     ·exact absurd (Nat.lt_of_lt_of_le (Heap.lt_size q0) (by rw [y];exact I.ok.above)) (Nat.lt_irrefl _)
     ·exact z2 y
    ·rcases (hch b z).1 with y| y
     ·exact none0 b y
     ·exact absurd (Nat.lt_of_lt_of_le (Heap.lt_size q0) y) (Nat.lt_irrefl _)
 refine ⟨a,C,dd,H',B,rfl,fl',I2.os,bare,zJg I2.base st us oldB (fun b hb o e=>?_) (fun b hb=>I.ok.frf b hb),zEe hok st fun b o z=>oldB b o (.inl z),na,?_,fun b o hc e=>?_,hE _ _ _ _ q⟩
 ·obtain ⟨_,o',e',d⟩:=I.ok.funs.mem hb
  have e':s.heap.get? b=some o':=e'
  rw [e] at e';cases e';exact d
 ·cases q0:s.heap.get? a with
  | none=>rfl
  | some o0 =>
   obtain ⟨o1,e1⟩:=I.base.there a o0 q0 (none0 a)
   rcases ng with ng| ng
   ·rw [ng] at e1;cases e1
   ·rcases (hch a ng).1 with y| y
    ·exact absurd y (none0 a)
    ·exact absurd (Nat.lt_of_lt_of_le (Heap.lt_size q0) y) (Nat.lt_irrefl _)
 ·have e:h'.get? b=some o:=e
  have:∃o2,s2.heap.get? b=some o2:=by
   rcases hc with z| ⟨z1,z2⟩
   ·cases q0:H' b with
    | none=>exact absurd q0 z
    | some u=>exact zDr (hok b u q0)
   ·cases q0:s.heap.get? b with
    | none=>exact absurd q0 z1
    | some o0=>exact I2.base.there b o0 q0 (none0 b)
  obtain ⟨o2,e2⟩:=this
  have e3:=oldB b o2 hc e2
  rw [st b o2 e3] at e
  cases e
  exact e3
end
section
variable {X:Cx}
theorem ps_tryF {body:List Stmt} {b₀:Stmt} {suite:List Stmt} {cx n:Str} {np hpos pos:Pos} {i:Nat} {Cb:Addr} {tb:(St->XK)->TS} {th:TS} (hex:X.ex=[]) (hstk:X.stack=X.env::X.outer) (hfr:X.env.frame=some X.env.locals) (hc:X.calm=true) (hN:X.N.Nodup) (hi:X.N[i]?=some n) (hl:X.env.kindOf n=some .local)
  (hg:Gl X cx) (hm:X.mg cx=some (.ref Cb)) (qb:excB X.K Cb=true) (hb:∀pl ξ E,zBm (X.tb pl ξ) E->PassesOwn (model X.prog X.w) X.A X.env ξ->PSs (X.tb pl ξ) body (tb E)) (hh:∀a,PSs (X.hnd a) (b₀::suite) th)
  (hd:(cx==("__debug__" : Str))=false:=by decide):PS X (.Try body [.ExceptHandler (some (.Name cx np)) (some n) (b₀::suite) hpos] [] [] pos) (tTry X.K Cb i tb th):=by
 intro pins s σ H D I h
 have hk:X.calm=true->X.A.handled=none:=I.ok.hd
 refine wpAny_Try_except ?_
 refine wpAny_mono (hb pins _ _ ?_ ?_ [] s σ H D I.to_tb h) (fun f s1 q=>?_) fun e s1 q=>q
 rotate_left
 ·exact PassesOwn.looking
 ·have q:=sp_tb q
  cases f with
  | next=>exact wpAny_execs_nil q
  | brk=>exact q
  | cont=>exact q
  | ret u=>exact q
 intro pins' σ1 H1 s1 ch a C dd H' s2 I1 hch hx hE
 obtain ⟨⟨B,fl,hB⟩,os,bare,un,hok,na,ng⟩:=hx
 obtain ⟨C1,ec,qc,sub,th1⟩:=hE
 cases ec
 have fl:FlD B (X.env::X.outer) a (.ref C) dd s2.heap:=by rw [<-hstk];exact fl
 have frm:X.A.frames=some (X.env::X.outer):=by rw [<-hstk];exact I.ok.frames
 refine zHg frm hfr fl fun h4 held us4=>?_
 refine zFr held fun h5 fl5 us5 _=>?_
 have J5:Inv X pins σ1 H' {s2 with heap:=h5}:=(I1.landC hch os bare un hok hB fl5.1 (us4.trans us5)).of_tb
 obtain ⟨ob,hob,hobc,_⟩:=fl5.there
 refine wpAny_handleBy_cons (codeAny_handlers_test (zEc (X:=X.hnd a) J5.to_hnd hg hm ?_ hd)) (by intro z;cases z)
 obtain ⟨bm,N,nm,qn,bs,hdct,sn,sub0,ab,col,dj,k0,k1,k2,k3,k5,hC,T,e1⟩:=zGq J5.kIn qc
 obtain ⟨bm2,N2,nm2,qn2,bs2,hdct2,sn2,sub2,ab2,col2,dd2,j0,j1,j2,j3,j5,hC2,T2,_⟩:=zGq J5.kIn qb
 refine match_own hC hC2 hob hobc (by rw [List.contains_cons,T2.hasType (X:= "BaseException") (b:=true) (by decide +kernel),Bool.or_true]) (r:=true) (by rw [<-e1];exact sub) ?_
 refine codeAny_handlers_suite_as (zFr fl5 fun h6 fl6 us6 _=>?_)
 have J6:Inv X pins σ1 H' {s2 with heap:=h6}:=(I1.landC hch os bare un hok hB fl6.1 ((us4.trans us5).trans us6)).of_tb
 have new:∀b o,s1.heap.get? b=some o->b∉ch->b≠a:=fun b o e nc z=>by
  subst z
  rcases ng with ng| ng
  ·rw [ng] at e;cases e
  ·exact nc ng
 have J7:Inv X pins σ1 (upd H' a (excD a C dd)) {s2 with heap:=h6}:=J6.track na (by
   cases q0:X.s₀.heap.get? a with
   | none=>rfl
   | some o0 =>
    obtain ⟨o1,e2⟩:=I1.base.there a o0 q0 (by show a∉X.ex;rw [hex];simp)
    rcases ng with ng| ng
    ·rw [ng] at e2;cases e2
    ·rcases (hch a ng).1 with y| y
     ·have y:a∈X.ex:=y
      rw [hex] at y;cases y
     ·exact absurd (Nat.lt_of_lt_of_le (Heap.lt_size q0) y) (Nat.lt_irrefl _))
  (by obtain ⟨m,⟨o,_,_,ho,_⟩,_⟩:=I1.loc;exact Ne.symm (new _ o ho fun z=>(hch _ z).2.1 rfl))
  (fun x c e=>by obtain ⟨v,o,ho,_⟩:=I1.cell x c e;exact new _ o ho fun z=>(hch _ z).2.2.1 x c e rfl)
  (fun p hp=>new _ _ (I1.pin p (List.mem_append_left _ hp)).1 fun z=>(hch _ z).2.2.2 p (List.mem_append_left _ hp) rfl) (excD_ok fl6.there)
 refine zGi (v:=.ref a) (u:=.ref a) J7 hN hi (.inl hl) rfl (fun s7 I7=>?_) (.inr hl)
 refine wpAny_mono (hh a pins s7 _ _ _ I7.to_hnd (th1 a na)) (fun f s8 q8=>?_) fun _ _ z=>z.elim
 cases f with
 | next=>obtain ⟨σ8,H8,I8,q⟩:=q8;exact zFp (I8.of_hnd hk) hN hi hl fun s9 I9=>⟨_,H8,I9,q⟩
 | brk=>obtain ⟨σ8,H8,I8,q⟩:=q8;exact zFp (I8.of_hnd hk) hN hi hl fun s9 I9=>⟨_,H8,I9,q⟩
 | cont=>obtain ⟨σ8,H8,I8,q⟩:=q8;exact zFp (I8.of_hnd hk) hN hi hl fun s9 I9=>⟨_,H8,I9,q⟩
 | ret u=>obtain ⟨v,σ8,H8,I8,r,q⟩:=q8;exact zFp (I8.of_hnd hk) hN hi hl fun s9 I9=>⟨v,_,H8,I9,r,q⟩
end
theorem comp_loopX {prog:Program} {w:World} {A:Around} {R:Result->Shared->Prop} {s:Shared} {elt target iter:Expr} {ifs:List Expr} {scope:Scope} {pos:Pos} {it acc:Value} {env:Env} {Ex:Value->Shared->Prop} (hx:∀e s',Ex e s'->notedBy (model prog w) A env (fun x s''=>R (.error x) s'') e s') (I:Nat->Shared->Prop)
  (turn:∀n s,I n s->wpAny (model prog w) A (pyNext it) (fun r s₁=>match r with
   | none=>R (.ok .next) s₁
   | some v=>wpAny (model prog w) A (letOwnedTupleGo target it v) (fun _ s₁'=>wpAny (model prog w) A (assign target env v) (fun _ s₂ =>
     wpAny (model prog w) A (forIn ifs true fun c r=>if r=true then do let ok<-isTrue c env (eval c env);pure (ForInStep.yield ok) else pure (ForInStep.yield r)) (fun ok s₃ =>
      if ok=true then wpAny (model prog w) A (eval elt env) (fun x s₄ =>
       wpAny (model prog w) A (call (.builtin "list.append") [acc,x]) (fun _ s₅=>∃m,m<n/\I m s₅) Ex s₄) Ex s₃
      else∃m,m<n/\I m s₃) Ex s₂) Ex s₁') Ex s₁) Ex s)
  (n:Nat) (h:I n s) :
  codeAny (model prog w) A (.compLoop (.ListComp elt [⟨target,iter,ifs,0⟩] scope pos) 0 it acc env) R s:=by
 refine codeAny_loop rfl I (fun n s hI=>?_) n h
 show wpAny _ A ((compTurn (.ListComp elt [⟨target,iter,ifs,0⟩] scope pos) 0 it acc env).onRaise (fun x=>do noteFrame x env;theTreesLotGoes x)) _ _ s
 refine wpAny_noted ?_
 rw [compTurn_list]
 refine wpAny_bind (wpAny_standAt (wpAny_bind (wpAny_mono (turn n s hI) (fun r s₁ h₁=>?_) hx)))
 cases r with
 | none=>exact wpAny_pure h₁
 | some v =>
  refine wpAny_bind (wpAny_mono h₁ (fun _ s₁' h₁'=>?_) hx)
  refine wpAny_bind (wpAny_mono h₁' (fun _ s₂ h₂=>wpAny_bind (wpAny_mono h₂ (fun ok s₃ h₃=>?_) hx)) hx)
  cases ok with
  | false=>exact wpAny_pure ⟨rfl,h₃⟩
  | true =>
   exact wpAny_bind (wpAny_bind (wpAny_mono h₃ (fun x s₄ h₄=>wpAny_bind (wpAny_mono h₄ (fun _ s₅ h₅=>wpAny_pure (wpAny_pure ⟨rfl,h₅⟩)) hx)) hx))
theorem block_loopX {Y:Cx} {tg elt iter:Expr} {ifs:List Expr} {scope:Scope} {pos:Pos} {g:TG} {tt:TT} {te:TE} {J:It} {fp:List Addr} {it D:Addr} {tn:Nat->Heap->Prop} {P:List (Addr×Obj)} {W:Nat->Nat->List V->St->Hp->Prop} {m0:Nat}
  {R:Result->Shared->Prop} {QD:Hp->Prop} {s4:Shared} {τ0:St} {H4:Hp}
  (hc:Y.calm=true) (hx:∀e s',Y.xe e s'->notedBy (model Y.prog Y.w) Y.A Y.env (fun x s''=>R (.error x) s'') e s') (hg:PG Y tg g) (ht:PTs Y ifs tt) (he:PE Y elt te) (T:Turn Y.prog Y.w Y.K tg J fp it tn)
  (stat:∀{H':Hp},(∀b∈fp,H' b=none)->∀b∈fp,FpOk Y P H' b)
  (turn:∀i m ys τ H2,W i m ys τ H2->(J.stop i H2/\QD H2)\/(J.go i H2/\∃N:List V->St->Hp->Prop,(∀ys' τ' H',N ys' τ' H'->∃m',m'<m/\W (i+1) m' ys' τ' H')/\∀x H3,J.yld i H2 x H3->g x τ H3 fun τ' H4=>tt τ' H4 fun b H5 =>
   if b=true then te τ' H5 fun v H6=>H6 D=some (.lst ys)/\ys.length<sizeLine/\N (ys++[v]) τ' (upd H6 D (.lst (ys++[v])))
   else N ys τ' H5))
  (fin:∀τ H' s',Inv Y P τ H' s'->QD H'->R (.ok .next) s')
  (I0:Inv Y P τ0 H4 s4) (t0:tn 0 s4.heap) (n0:∀b∈fp,H4 b=none) (w0:W 0 m0 [] τ0 H4) :
  codeAny (model Y.prog Y.w) Y.A (.compLoop (.ListComp elt [⟨tg,iter,ifs,0⟩] scope pos) 0 (.ref it) (.ref D) Y.env) R s4:=by
 refine comp_loopX hx (fun n s'=>∃i ys τ H',Inv Y P τ H' s'/\tn i s'.heap/\(∀b∈fp,H' b=none)/\W i n ys τ H') ?_ m0 ⟨0,[],τ0,H4,I0,t0,n0,w0⟩
 rintro n s5 ⟨i,ys,τ,H5,I5,st5,fr5,w5⟩
 rcases turn i n ys τ H5 w5 with ⟨stop,q⟩| ⟨go,N,hN,step⟩
 ·refine thn (T.done Y rfl rfl rfl hc i P s5 τ H5 _ I5 (stat fr5) st5 stop) fun r s6 ⟨hr,I6⟩=>?_
  subst hr
  exact fin τ H5 s6 I6 q
 ·refine thn (T.item Y rfl rfl rfl hc i P s5 τ H5 _ I5 (stat fr5) st5 go) fun r s6 ⟨u,hr,h6⟩=>?_
  subst hr
  refine thn h6 fun _ s7 ⟨x,H7,I7,r7,y7,st7,fr7⟩=>?_
  have I7':=I7.pinned (stat fr7) (T.obj _ _ st7)
  refine thn (hg _ s7 τ H7 x u _ I7' r7 (step x H7 y7)) fun _ s8 ⟨τ8,H8,I8,q8⟩=>?_
  refine thn (ht _ s8 τ8 H8 _ I8 q8) fun ok s9 ⟨H9,I9,q9⟩=>?_
  have again:∀{ys':List V} {H':Hp} {s':Shared},Inv Y (P++zH8 fp s7.heap) τ8 H' s'->(∃m',m'<n/\W (i+1) m' ys' τ8 H')->∃m,m<n/\∃i ys τ H',Inv Y P τ H' s'/\tn i s'.heap/\(∀b∈fp,H' b=none)/\W i m ys τ H':=fun {ys' H' s'} I' ⟨m',hm,w'⟩=>by
   refine ⟨m',hm,i+1,ys',τ8,H',I'.unpinned,T.keep _ _ _ st7 fun b hb o e=>(I'.pin (b,o) (List.mem_append_right _ (List.mem_append_right _ (zCx hb e)))).1,fun b hb=>?_,w'⟩
   obtain ⟨o,e,d⟩:=T.obj _ _ st7 b hb
   exact (I'.pin (b,o) (List.mem_append_right _ (List.mem_append_right _ (zCx hb e)))).2.1
  cases ok with
  | false =>
   rw [if_neg Bool.false_ne_true] at q9 ⊢
   exact again I9 (hN _ _ _ q9)
  | true =>
   rw [if_pos rfl] at q9 ⊢
   refine thn (he _ s9 τ8 H9 _ I9 q9) fun y s10 ⟨v,H10,I10,r10,hD,hz,w10⟩=>?_
   refine thn (zC4 (X:=Y) _ s10 τ8 H10 (.ref D) [v] (.ref D) [y] (fun _ H'=>H'=upd H10 D (.lst (ys++[v]))) I10 rfl (.cons r10 .nil) ⟨D,ys,v,rfl,rfl,hD,hz,rfl⟩) fun _ s11 ⟨z,H11,I11,_,e11⟩=>?_
   subst e11
   exact again I11 (hN _ _ _ w10)
theorem note_eq {e:Value} {env env':Env} (h:env.frame=env'.frame):noteFrame e env=noteFrame e env':=by
 unfold noteFrame PySem.frameOf
 rw [h]
theorem funs_keep {h h' B B':Heap}:∀{l:List Env},h.FunFrames B l->(∀b∈frs l,∀o,h.get? b=some o->h'.get? b=some o)->(∀b∈frs l,B'.get? b=none)->h'.FunFrames B' l
 | [],_,_,_=>trivial
 | env::rest,⟨m,⟨L,o,e1,e2,e3,e4⟩,r⟩,k,n=>by
  have sub:∀b∈frs rest,b∈frs (env::rest):=fun b hb=>by
   unfold frs at hb ⊢
   rw [List.filterMap_cons,e1];exact List.mem_cons_of_mem _ hb
  have hd:L∈frs (env::rest):=by unfold frs;rw [List.filterMap_cons,e1];exact List.mem_cons_self
  exact ⟨m,⟨L,o,e1,n L hd,k L hd o e3,e4⟩,funs_keep r (fun b hb=>k b (sub b hb)) fun b hb=>n b (sub b hb)⟩
theorem un_far {H':Hp} {h h' B:Heap} {fs ex:List Addr} {H₀:Hp} {h₀:Heap} (u:Un fs ex H₀ H' h₀ h) (st:B.StaysIn h') (us:∀b∈fs,∀o,h.get? b=some o->(∀vs,o.data≠.fields vs)->∃sl,h'.get? b=some {o with slots:=sl}) (hB:∀b o,(H' b≠none\/(h₀.get? b≠none/\b∉fs/\b∉ex))->h.get? b=some o->B.get? b=some o)
  (hf:∀b∈fs,∀o,h₀.get? b=some o->∀vs,o.data≠.fields vs) (hfn:∀b∈fs,H₀ b=none) (hfx:∀b∈fs,b∉ex->True):Un fs ex H₀ H' h₀ h' where
 keep:=fun b o e n nf nx=>st b o (hB b o (.inr ⟨by rw [e];simp,nf,nx⟩) (u.keep b o e n nf nx))
 slot:=fun b o e n hb nx=>by
  obtain ⟨sl,q⟩:=u.slot b o e n hb nx
  obtain ⟨sl',q'⟩:=us b hb _ q (hf b hb o e)
  exact ⟨sl',q'⟩
 free:=u.free
 there:=fun b o e nx=>by
  by_cases hb:b∈fs
  ·obtain ⟨sl,q⟩:=u.slot b o e (hfn b hb) hb nx
   obtain ⟨sl',q'⟩:=us b hb _ q (hf b hb o e)
   exact ⟨_,q'⟩
  ·obtain ⟨o',q⟩:=u.there b o e nx
   exact ⟨o',st b o' (hB b o' (.inr ⟨by rw [e];simp,hb,nx⟩) q)⟩
 tups:=u.tups
 frzs:=u.frzs
 tbls:=u.tbls
def blkXe (X:Cx) (scope:Scope) (C:Addr) (s₀:Shared) (H₀:Hp) (ex:List Addr) (N:List Str) (use:Option (Value->Sem Unit)) (Z:Value->Shared->Prop) (D:Addr):Value->Shared->Prop :=
 notedBy (model X.prog X.w) X.A (X.block scope C s₀ H₀ ex N).env (fun x s''=>compPost (model X.prog X.w) X.A X.xe use Z (.ref D) C (.error x) s'')
theorem run_compX {X:Cx} {elt tg iter:Expr} {ifs:List Expr} {scope:Scope} {pos p1:Pos} {N:List Str} {ix:List (Option Nat)} {wi:TI} {g:TG} {tt:TT} {te:TE} {pins:List (Addr×Obj)} {s:Shared} {σ:St} {H:Hp} {Q:VK} {use:Option (Value->Sem Unit)}
  {Z:Value->Shared->Prop}
  {E:XK} {e0:Env} {rest:List Env} {L:Addr} (hX:zBm X fun _=>E) (hstk:X.stack=e0::rest) (he0:X.env.frame=e0.frame) (hL:e0.frame=some L) (hc:X.calm=true) (B:BlkSc X scope) (Dr:Draws X scope N ix) (hi:PI X tg iter wi)
  (hg:∀C s₀ H₀ ex ξ,PG ((X.block scope C s₀ H₀ ex N).wish ξ) tg g) (ht:∀C s₀ H₀ ex ξ,zBm ((X.block scope C s₀ H₀ ex N).wish ξ) (fun _=>E)->PTs ((X.block scope C s₀ H₀ ex N).wish ξ) ifs tt) (he:∀C s₀ H₀ ex ξ,zBm ((X.block scope C s₀ H₀ ex N).wish ξ) (fun _=>E)->PE ((X.block scope C s₀ H₀ ex N).wish ξ) elt te)
  (hs:∀x,foldedSetIterable iter X.env x=pure x)
  (I:Inv X pins σ H s) (h:tComp wi ix g tt te σ H Q)
  (fin:∀(D C:Addr) (H':Hp) (s':Shared) (m:Str->Option Value),Inv X pins σ H' s'->Q (.ref D) H'->s'.heap.Ns C m->(∀h',Heap.SameBut C s'.heap h'->Inv X pins σ H' {s' with heap:=h'})->C≠X.env.locals->(∀x c,X.env.cells.lookup x=some c->c≠C)->H' C=none ->
   (∀p∈X.pn++pins,p.1≠C)->X.s₀.heap.objs.size<=C->compPost (model X.prog X.w) X.A X.xe use Z (.ref D) C (.ok .next) s') :
  wpAny (model X.prog X.w) X.A (comprehension (.ListComp elt [⟨tg,iter,ifs,0⟩] scope pos) scope X.env p1 (newList []) false (eval iter X.env) use) Z X.xe s:=by
 have hfree:∀x∈scope.names,x.2= .free->∃c,X.env.cells.lookup x.1=some c:=fun x hx e=>I.ok.has _ (B.free x hx e)
 refine wpAny_comprehension_free (use:=use) rfl hs (zFs hfree) B.kind B.locs ?_
 refine thn (hi pins s σ H _ I h) fun v s1 h1=>thn h1 fun itv s2 h2=>?_
 obtain ⟨it,fp,tn,J,H2,e,I2,T,st2,f2,R⟩:=h2
 subst e
 have hDf:H2 s2.heap.objs.size=none:=I2.hok.fresh (Nat.le_refl _)
 obtain ⟨W,⟨m0,w0⟩,turn⟩:=R _ hDf
 refine wpAny_newObj_type ?_ (by show (0:Nat)<=sizeLine;exact Nat.zero_le _)
 have I3:Inv X pins σ (upd H2 s2.heap.objs.size (.lst [])) {s2 with heap:=s2.heap.push {cls:=.type "list",data:=.seq ([]:List Value).toArray}}:=I2.lnew (t':=s2.toks) (ys:=[]) (its:=[]) .nil (Nat.zero_le _)
 generalize hD:s2.heap.objs.size=D at *
 have fpo:∀b∈fp,∃o,s2.heap.get? b=some o:=fun b hb=>let ⟨o,q,_⟩:=T.obj _ _ st2 b hb;⟨o,q⟩
 have fpD:∀b∈fp,b≠D:=fun b hb=>by
  obtain ⟨o,q⟩:=fpo b hb
  rw [<-hD];exact Nat.ne_of_lt (Heap.lt_size q)
 have f3:∀b∈fp,FpOk X pins (upd H2 D (.lst [])) b:=fun b hb=>⟨by rw [upd_ne (fpD b hb)];exact (f2 b hb).1,(f2 b hb).2⟩
 generalize hs3:({s2 with heap:=s2.heap.push {cls:=.type "list",data:=.seq ([]:List Value).toArray}}:Shared)=s3 at I3 ⊢
 have k23:∀b o,s2.heap.get? b=some o->s3.heap.get? b=some o:=fun b o q=>by rw [<-hs3];exact Heap.get?_push_of_some _ q
 have fpo3:∀b∈fp,∃o,s3.heap.get? b=some o:=fun b hb=>let ⟨o,q⟩:=fpo b hb;⟨o,k23 b o q⟩
 have st3:tn 0 s3.heap:=T.keep _ _ _ st2 fun b hb o q=>k23 b o q
 refine zC6 ?_
 have k34:∀b o,s3.heap.get? b=some o->(pushCells (s3.heap.push {cls:=.type "dict",data:=.dict #[]}) scope.names).get? b=some o:=fun b o q=>pushCells_keeps _ _ b o (Heap.get?_push_of_some _ q)
 have hns4:(pushCells (s3.heap.push {cls:=.type "dict",data:=.dict #[]}) scope.names).Ns s3.heap.objs.size (fun _=>none):=(Heap.Ns.new s3.heap (.type "dict")).keeps (pushCells_keeps _ _)
 have hcl4:∀x c,(cellsFrom (s3.heap.objs.size+1) scope.names (clOf X.env scope.names [])).lookup x=some c->∃v,(pushCells (s3.heap.push {cls:=.type "dict",data:=.dict #[]}) scope.names).IsCell c v:=fun x c e=>by
  refine zCi (h:=s3.heap.push {cls:=.type "dict",data:=.dict #[]}) (acc:=clOf X.env scope.names []) (fun y d hy=>?_) (by rw [Heap.size_push];exact e)
  obtain ⟨v,o,ho,hd⟩:=I3.cell y d (zDh (fun y d z=>by simp at z) hy)
  exact ⟨v,o,Heap.get?_push_of_some _ ho,hd⟩
 have IB:=I3.blockStart (tk:=s3.toks) B Dr f3 fpo3 hns4 k34 hcl4
 generalize hh4:pushCells (s3.heap.push {cls:=.type "dict",data:=.dict #[]}) scope.names=h4 at *
 generalize hC:s3.heap.objs.size=C at *
 have hCX:X.s₀.heap.objs.size<=C:=by rw [<-hC];exact I3.sz
 have CL:C≠X.env.locals:=by rw [<-hC];exact Nat.ne_of_gt I3.lt
 have Cc:∀x c,X.env.cells.lookup x=some c->c≠C:=fun x c q=>by
  obtain ⟨v,o,ho,_⟩:=I3.cell x c q
  rw [<-hC];exact Nat.ne_of_lt (Heap.lt_size ho)
 have Cp:∀p∈X.pn++pins,p.1≠C:=fun p hp=>by
  rw [<-hC];exact Nat.ne_of_lt (Heap.lt_size (I3.pin p hp).1)
 have fpC:∀b∈fp,b≠C:=fun b hb=>by
  obtain ⟨o,q⟩:=fpo3 b hb
  rw [<-hC];exact Nat.ne_of_lt (Heap.lt_size q)
 have stat:∀{H':Hp},(∀b∈fp,H' b=none)->∀b∈fp,FpOk (X.block scope C s3 (upd H2 D (.lst [])) fp N) (X.pn++pins) H' b:=fun {H'} hn b hb=>by
  obtain ⟨_,q1,q2,q3,q4,q5⟩:=f2 b hb
  exact ⟨hn b hb,fpC b hb,I3.nostk q1 q2,.inl hb,fun x c e=>(zB3 e).elim (fun z=>q4 x c (zDh (fun y d z=>by simp at z) z)) (fun z=>by obtain ⟨o,q⟩:=fpo3 b hb;have:=Heap.lt_size q;rw [hC] at this;exact Nat.ne_of_gt (Nat.lt_of_lt_of_le (Nat.lt_succ_of_lt this) z.1)),fun p hp=>q5 p (by simpa [Cx.block] using hp)⟩
 have st4:tn 0 h4:=T.keep _ _ _ st3 fun b hb o q=>k34 b o q
 have n4:∀b∈fp,(upd H2 D (.lst [])) b=none:=fun b hb=>(f3 b hb).1
 have pass:zBm ((X.block scope C s3 (upd H2 D (.lst [])) fp N).wish (blkXe X scope C s3 (upd H2 D (.lst [])) fp N use Z D)) (fun _=>E):=by
  intro pY τ H1 s1 ch a Cc dd H' s' IY hch fl q
  obtain ⟨⟨B0,flies,hB⟩,os,bare,un,hok,na,ng⟩:=fl
  have IY2:=IY.call' os un hok bare hch
  have flies:FlD B0 (e0::rest) a (.ref Cc) dd s'.heap:=by rw [<-hstk];exact flies
  show wpAny _ X.A (noteFrame (.ref a) _) _ _ s'
  rw [note_eq (env':=e0) (by exact he0)]
  refine zHg (by rw [<-hstk];exact I.ok.frames) hL flies fun h4' held us4=>?_
  obtain ⟨m,⟨oC,es,ep,hoC,rC⟩,_⟩:=id IY.loc
  have hoC:s1.heap.get? C=some oC:=hoC
  have H1C:H1 C=none:=IY.free
  have H'C:H' C=none:=IY2.free
  have nC:C∉frs X.stack:=fun z=>by
   obtain ⟨_,o,ho,_⟩:=IY.ok.funs.mem z
   have ho:s3.heap.get? C=some o:=ho
   exact absurd (Heap.lt_size ho) (by rw [hC];exact Nat.lt_irrefl _)
  have cC:C∉ch:=fun z=>(hch C z).2.1 rfl
  have sC:s'.heap.get? C=some oC:=un.keep C oC hoC H1C nC cC
  have bC:B0.get? C=some oC:=hB C oC (.inr ⟨by rw [hoC];simp,nC,cC⟩) sC
  have aC:a≠C:=fun z=>by
   rcases ng with y| y
   ·rw [z,hoC] at y;cases y
   ·exact (hch a y).2.1 z
  have hn4:h4'.Ns C m:=⟨oC,es,ep,held.1 C oC bC,rC⟩
  suffices main:∃m,h4'.Ns C m/\∀h',Heap.SameBut C h4' h'->∀cenv:Env,cenv.locals=C->wpAny (model X.prog X.w) X.A (PySem.passOn "comprehension.variables-let-go" (.ref a) cenv:Sem Value) (fun _ _=>False) X.xe {s' with heap:=h'} by
   cases use<;>exact main
  refine ⟨m,hn4,fun h' sb cenv _=>?_⟩
  have pB:∀b,(part B0 fun b=>decide (b≠C)).get? b=if b≠C then B0.get? b else none:=fun b=>by rw [zFm];by_cases z:b=C<;>simp [z]
  have fC:∀b∈frs (e0::rest),b≠C:=fun b hb z=>by
   have:=(held.2.2.1.mem hb).1
   rw [z,bC] at this;cases this
  have fl':FlD (part B0 fun b=>decide (b≠C)) (e0::rest) a (.ref Cc) dd h':=by
   obtain ⟨fl0,oe,vs,T0,oT,ts,q1,q2,q2',q3,q4,q5,q6,q7,q8,q9⟩:=held.2.2.2
   have TC:T0≠C:=fun z=>by rw [z,bC] at q5;cases q5
   refine ⟨fun b o e=>?_,by rw [pB];split<;>first| exact held.2.1| rfl,funs_keep held.2.2.1 (fun b hb o e=>(sb.2 b (fC b hb)).trans e) (fun b hb=>by rw [pB];split<;>first| exact (held.2.2.1.mem hb).1| rfl),_,oe,vs,T0,oT,ts,(sb.2 a aC).trans q1,q2,q2',q3,q4,by rw [pB];split<;>first| exact q5| rfl,q6,(sb.2 T0 TC).trans q7,q8,q9⟩
   rw [pB] at e
   split at e
   case isTrue z=>exact (sb.2 b z).trans (held.1 b o e)
   case isFalse=>cases e
  refine fly_on fl' fun h5 fl5 k5=>?_
  have old:∀b o,(H' b≠none\/(s3.heap.get? b≠none/\b∉frs X.stack/\b∉fp))->s'.heap.get? b=some o->(part B0 fun b=>decide (b≠C)).get? b=some o:=fun b o hc2 e=>by
   rw [pB]
   rcases hc2 with z| ⟨z1,z2,z3⟩
   ·rw [if_pos (fun y=>z (by rw [y];exact H'C))]
    exact hB b o (.inl z) e
   ·cases q0:s3.heap.get? b with
    | none=>exact absurd q0 z1
    | some o3 =>
     have lt:=Heap.lt_size q0
     rw [hC] at lt
     rw [if_pos (Nat.ne_of_lt lt)]
     obtain ⟨o1,e1⟩:=IY.base.there b o3 q0 z3
     refine hB b o (.inr ⟨by rw [e1];simp,z2,fun y=>?_⟩) e
     rcases (hch b y).1 with w1| w1
     ·exact z3 w1
     ·have w1:s3.heap.objs.size<=b:=w1
      rw [hC] at w1
      exact absurd (Nat.lt_of_lt_of_le lt w1) (Nat.lt_irrefl _)
  have fr5:∀b∈frs X.stack,∀o,s'.heap.get? b=some o->(∀vs,o.data≠.fields vs)->∃sl,h5.get? b=some {o with slots:=sl}:=fun b hb o e nf=>by
   obtain ⟨sl,e4⟩:=us4 b o e nf
   have hb':b∈frs (e0::rest):=by rw [<-hstk];exact hb
   exact ⟨sl,k5 b _ ((sb.2 b (fC b hb')).trans e4) nf⟩
  refine hX pins σ (upd H2 D (.lst [])) s3 fp a Cc dd H' {s' with heap:=h5} I3 (fun b hb=>?_) ⟨⟨_,by rw [hstk];exact fl5,fun b o hc2 e=>?_⟩,IY2.os,bare,un_far IY2.base fl5.1 fr5 old (fun b hb o e=>?_) (fun b hb=>I3.stkFree b hb) (fun _ _ _=>trivial),zEe hok fl5.1 fun b o z=>old b o (.inl z),na,?_⟩ q
  ·obtain ⟨_,q1,q2,q3,q4,q5⟩:=f2 b hb
   exact ⟨q3,q1,q4,q5⟩
  ·have:∃o2,s'.heap.get? b=some o2:=by
    rcases hc2 with z| ⟨z1,z2,z3⟩
    ·cases q0:H' b with
     | none=>exact absurd q0 z
     | some u=>exact zDr (hok b u q0)
    ·cases q0:s3.heap.get? b with
     | none=>exact absurd q0 z1
     | some o3=>exact IY2.base.there b o3 q0 z3
   obtain ⟨o2,e2⟩:=this
   have e3:=old b o2 hc2 e2
   have e:h5.get? b=some o:=e
   rw [fl5.1 b o2 e3] at e
   cases e
   exact e3
  ·obtain ⟨_,o1,e1,d1⟩:=I3.stack.mem hb
   rw [e] at e1;cases e1;exact d1
  ·by_cases af:a∈fp
   ·exact .inr af
   ·left
    cases q0:s3.heap.get? a with
    | none=>rfl
    | some o3 =>
     rcases ng with y| y
     ·obtain ⟨o1,e1⟩:=IY.base.there a o3 q0 af
      rw [y] at e1;cases e1
     ·rcases (hch a y).1 with w1| w1
      ·exact absurd w1 af
      ·exact absurd (Nat.lt_of_lt_of_le (Heap.lt_size q0) w1) (Nat.lt_irrefl _)
 have loop:=block_loopX (Y:=(X.block scope C s3 (upd H2 D (.lst [])) fp N).wish (blkXe X scope C s3 (upd H2 D (.lst [])) fp N use Z D)) (iter:=iter) (pos:=pos) (scope:=scope) (D:=D) (R:=compPost (model X.prog X.w) X.A X.xe use Z (.ref D) C) hc (fun _ _ z=>z) (hg C s3 _ fp _) (ht C s3 _ fp _ pass) (he C s3 _ fp _ pass) T stat turn
  (fun τ H' s' I' q=>by
   have I5:Inv X pins σ H' s':=I3.call' (ch:=fp) I'.os I'.base I'.hok I'.bare fun b hb=>by
    obtain ⟨_,q1,q2,q3,q4,q5⟩:=f2 b hb
    exact ⟨q3,q1,q4,q5⟩
   obtain ⟨m,hn,_⟩:=I'.loc
   have hC0:H' C=none:=I'.free
   exact fin D C H' s' m I5 q hn (fun h'' hs''=>I5.turned (t':=s'.toks) (fun b o hb e=>hs''.extBut b o hb e) hC0 CL (.inr hCX) Cc Cp) CL Cc hC0 Cp hCX) (IB.wish _) st4 n4 w0
 exact codeAny_compStart_list loop (T.self _ 0 _ _ _ st4 loop)
def tCallF (sp:Sp) (E:St->XK) (t:TA):TE:=fun σ H Q=>t σ H fun vs H1=>sp vs H1 Q (E σ)
structure CalX (P:Program) (w:World) (K:PySem.W.Frag) (mg:Str->Option Value) (base:Heap) (x:Str) (k:Nat) (ps:List Str) (sp:Sp):Prop where
 to:∃(f:Addr) (fd:FuncData),mg x=some (.ref f)/\PySem.W.keepIn K (.ref f)=true/\zC5 K fd ps []/\FnOk P w K mg base (CX1 P w) k f fd ps sp
theorem zCw {X:Cx} {x:Str} {k:Nat} {ps:List Str} {sp:Sp} {E:St->XK} {e:Expr} {es:List Expr} {p pos:Pos} {t:TA} (C:CalX X.prog X.w X.K X.mg X.base x k ps sp) (hr:Room k X.A) (hg:Gl X x) (hp:zBm X E) (ha:PA X (e::es) t)
  (hdb:(x==("__debug__" : Str))=false:=by decide) (he:starEach (e::es) X.env=(false,eval e X.env)::starEach es X.env:=by rfl) (hpl:(backTo pos (starEach es X.env)).any (·.1)=false:=by rfl) :
  PE X (.Call (.Name x p) (e::es) [] pos) (tCallF sp E t):=by
 obtain ⟨f,fd,h1,h2,h3,h4⟩:=C.to
 exact pe_callX h4 hr hg h1 h2 h3 hp.at ha hdb he hpl
section
variable {X:Cx}
theorem zH5:SlR X (fun x lo hi H Q=>∃z,x= .str z/\z.length<=sizeLine/\Q (.str (Txt.slice z lo hi)) H):=by
 intro pins s σ H x v vl vu lo hi sl Q I rx hs pl pu h
 obtain ⟨z,rfl,hz,q⟩:=h
 obtain ⟨t,rfl⟩:=rx
 refine ⟨"str",_,F.slot_str_getitem.lookup,typeIs_str _ _ _,?_⟩
 cases pl with
 | none =>
  cases pu with
  | none=>exact wpAny_getItem_str_slice (l:=none) (u:=none) (st:=none) hs rfl (post_val_or_str ⟨Nat.le_trans (Txt.slice_le z _ _) hz,fun t' k=>⟨.str _,H,I.tok _,⟨t',rfl⟩,q⟩⟩)
  | int j uj=>exact wpAny_getItem_str_slice (l:=none) (u:=some (j,uj)) (st:=none) hs rfl (post_val_or_str ⟨Nat.le_trans (Txt.slice_le z _ _) hz,fun t' k=>⟨.str _,H,I.tok _,⟨t',rfl⟩,q⟩⟩)
 | int i ui =>
  cases pu with
  | none=>exact wpAny_getItem_str_slice (l:=some (i,ui)) (u:=none) (st:=none) hs rfl (post_val_or_str ⟨Nat.le_trans (Txt.slice_le z _ _) hz,fun t' k=>⟨.str _,H,I.tok _,⟨t',rfl⟩,q⟩⟩)
  | int j uj=>exact wpAny_getItem_str_slice (l:=some (i,ui)) (u:=some (j,uj)) (st:=none) hs rfl (post_val_or_str ⟨Nat.le_trans (Txt.slice_le z _ _) hz,fun t' k=>⟨.str _,H,I.tok _,⟨t',rfl⟩,q⟩⟩)
theorem zGw (z:Str) (lo hi:Option Int):(Txt.slice z lo hi).length<=z.length:=Txt.slice_le z lo hi
end
theorem cut_to (xs:List V) {b:Int} (h:0<=b):cutV xs none (some b)=xs.take b.toNat:=by
 obtain ⟨k,rfl⟩:∃k:Nat,b=k:=⟨b.toNat,by omega⟩
 unfold cutV
 rw [HT.sIx_nat,HT.sIx_none,List.drop_zero,Nat.sub_zero]
 show xs.take (min k xs.length)=xs.take k
 rw [List.take_eq_take_min (i:=k)]
theorem zJn (xs:List V) {b:Int} (h:0<=b):cutV xs (some b) none=xs.drop b.toNat:=by
 obtain ⟨k,rfl⟩:∃k:Nat,b=k:=⟨b.toNat,by omega⟩
 unfold cutV
 rw [HT.sIx_nat,HT.sIx_none]
 show (xs.drop (min k xs.length)).take (xs.length - min k xs.length)=xs.drop k
 rw [List.take_of_length_le (by rw [List.length_drop];omega)]
 by_cases z:k<=xs.length
 ·rw [Nat.min_eq_left z]
 ·rw [Nat.min_eq_right (by omega),List.drop_of_length_le (by omega),List.drop_of_length_le (by omega)]
theorem one_in (x:Str) (c:Nat):(!(Builtin.Str.occurrences x ⟨#[c]⟩ 0 x.length 1).isEmpty)=decide (c∈x.cps.toList):=StrLaws.found_one x c
open AutoSeq1 (wpAny_loadPart')
def notStar:Expr->Bool
 | .Starred ..=>false
 | _=>true
theorem star_cons {e:Expr} {es:List Expr} {env:Env} (h:notStar e=true):starEach (e::es) env=(false,eval e env)::starEach es env:=by
 cases e<;>first| rfl| cases h
open PySem.W in
open PySem.W in
theorem zDn {K:PySem.W.Frag} {C:Addr} {v:Value} (h:mroIn K C v=some true):(mroK K C).contains v=true:=by
 unfold mroIn clsIn at h
 unfold mroK
 split at h
 ·rename_i e
  rw [Option.bind_some] at h
  split at h
  ·cases h
  ·rw [e]
   injection h
 ·cases h
end L2
namespace L2
open PySem PySem.Spec PyProof.Rows PySem.W
section
variable {prog:Program} {w:World} {A:Around} {E:Value->Shared->Prop} {h:Heap} {g:Array GenState} {d:Drawn} {t:Nat} {os:OsState} {K:Frag} {C f:Addr} {rest:List Value}
theorem exc_init {Q:Fin->Shared->Prop} (X:K.In h) (q:excB K C=true) (hi:findIn K (.ref C) "__init__" = some (some (.ref f))) (hf:typeIn K (.ref f)=some (.type "function")) (hr:rest.length<=sizeLine)
  (hq:∀h' e,h.objs.size<=e->Heap.MadeExcOf h h' e (.ref C) rest->wpAny (model prog w) A (call (.ref f) (.ref e::rest)) (fun r s'=>r= .none/\Q (.done (.ret (.ref e))) s') E ⟨h',g,d,t,os⟩) :
  wpAny (model prog w) A (Builtin.«type.__call__» ⟨.ref C::rest,[]⟩) Q E ⟨h,g,d,t,os⟩:=by
 obtain ⟨bm,N,nm,qn,bs,hdct,sn,sub,ab,col,dd,k0,k1,k2,k3,k5,hC,T,_⟩:=zGq X q
 have FV:=F.excBase_ValueError
 repeat (first| with_reducible refine wpAny_loadPart_at hC ?_| with_reducible refine wpAny_madeBy_exc hC ?_| wp_step)
 refine codeAny_call_builtin_code (Code.quiet_builtin _ FV.quiet) (wpAny_check_new_subU FV (by decide +kernel) T hC (codeAny_exc_new_subU FV (by decide +kernel) FV T hC ?_ hr))
 show wpAny _ _ _ _ _ _
 generalize ho1:({cls:=.type "tuple",data:=.seq rest.toArray}:Obj)=o1
 generalize ho2:({cls:=.ref C,data:=.fields #[.ref h.objs.size,.none,.none,.none,.bool false,.none]}:Obj)=o2
 have kp:∀b o,h.get? b=some o->((h.push o1).push o2).get? b=some o:=fun b o e=>Heap.get?_push_of_some _ (Heap.get?_push_of_some _ e)
 have X1:K.In ((h.push o1).push o2):=fun b o e=>kp b o (X b o e)
 have hC1:=kp _ _ hC
 have ge:((h.push o1).push o2).get? (h.objs.size+1)=some o2:=Heap.get?_push_at (Heap.size_push _ _).symm (by rw [<-ho2];rfl)
 have c2:o2.cls= .ref C:=by rw [<-ho2]
 have cC:(Value.ref C::bm).contains (.ref C)=true:=by simp
 unfold isInstance
 repeat (first| (with_reducible refine wpAny_loadPart_at ge ?_;rw [c2])| (with_reducible refine wpAny_isSubtype_exc hC1 ?_;rw [cC])| wp_step)
 show wpAny _ _ (typeLookup (.ref C) _) _ _ _
 have mk:Heap.MadeExcOf h ((h.push o1).push o2) (h.objs.size+1) (.ref C) rest:=⟨kp,Heap.get?_none_of_le (Nat.le_succ _),h.objs.size,by rw [ge,<-ho2],Heap.get?_none_of_le (Nat.le_refl _),by rw [Heap.get?_push_of_some o2 (Heap.get?_push_at (h:=h) (o:=o1) rfl (by rw [<-ho1];rfl)),<-ho1]⟩
 refine (looks_findIn X1 hi).here (show wpAny _ _ (holding _ _) _ _ _ from ?_)
 refine wpAny_holding (wpAny_bind ((bind_fn X1 (.ref (h.objs.size+1)) hf).here (show wpAny _ _ (call (.ref f) (.ref (h.objs.size+1)::rest) >>= _) _ _ _ from ?_)))
 refine wpAny_bind (wpAny_mono (hq _ _ (Nat.le_succ _) mk) (fun r s' hr=>?_) fun _ _ x=>x)
 obtain ⟨rfl,hQ⟩:=hr
 wp_walk
 exact hQ
theorem exc_call {Q:Value->Shared->Prop} (X:K.In h) (q:excB K C=true) (hi:findIn K (.ref C) "__init__" = some (some (.ref f))) (hf:typeIn K (.ref f)=some (.type "function")) (hr:rest.length<=sizeLine)
  (hq:∀h' e,h.objs.size<=e->Heap.MadeExcOf h h' e (.ref C) rest->wpAny (model prog w) (A.under (.builtin "type.__call__" ⟨.ref C::rest,[]⟩)) (call (.ref f) (.ref e::rest)) (fun r s'=>r= .none/\Q (.ref e) s') E ⟨h',g,d,t,os⟩) :
  wpAny (model prog w) A (call (.ref C) rest) Q E ⟨h,g,d,t,os⟩:=by
 obtain ⟨bm,N,nm,qn,bs,hdct,sn,sub,ab,col,dd,k0,k1,k2,k3,k5,hC,T,_⟩:=zGq X q
 have f1:=tc_lookup
 have f2:=tc_bind (.ref C)
 have hT:(⟨h,g,d,t,os⟩:Shared).TypeIs (.ref C) "type" := ⟨_,hC,rfl⟩
 refine wpAny_call (codeAny_of_tree (show wpAny _ _ (callAny (.ref C) _) _ _ _ from ?_))
 repeat (any_goals (first| assumption| with_reducible refine wpAny_loadPart_at hC ?_| wp_step))
 exact ⟨rfl,codeAny_call_builtin_at (Code.quiet_builtin _ (by decide +kernel)) entry_typeCall (wpAny_check_type_call_sub hC (exc_init X q hi hf hr hq))⟩
end
section
variable {M:Model} {A:Around} {E:Value->Shared->Prop} {s:Shared} {K:Frag} {C:Addr} {env:Env}
theorem raise_own {x:Sem Value} {Q:Flow->Shared->Prop} (q:excB K C=true) (hh:A.handled=none)
  (h:wpAny M A x (fun v s1=>∃e o vs,v= .ref e/\K.In s1.heap/\s1.heap.get? e=some o/\o.cls= .ref C/\o.data= .fields vs/\vs[1]?=some .none/\E (.ref e) s1) E s):wpAny M A (raiseStmt env (some x) none) Q E s:=by
 unfold raiseStmt
 refine wpAny_bind (wpAny_mono h (fun v s1 h1=>?_) fun _ _ z=>z)
 obtain ⟨e,o,vs,rfl,X,he,hc,hd,h1,hE⟩:=h1
 obtain ⟨bm,N,nm,qn,bs,hdct,sn,sub,ab,col,dd,k0,k1,k2,k3,k5,hC,T,_⟩:=zGq X q
 have cB:(Value.ref C::bm).contains (.type "BaseException")=true:=by rw [List.contains_cons,T.hasType (X:= "BaseException") (b:=true) (by decide +kernel),Bool.or_true]
 obtain ⟨hp,g,d,tk,os⟩:=s1
 obtain ⟨o1,o2,o3,o4⟩:=o
 have hc:o1= .ref C:=hc
 have hd:o3= .fields vs:=hd
 subst hc hd
 repeat (first| with_reducible refine wpAny_loadPart_at he ?_| with_reducible refine wpAny_loadPart_at hC ?_| (with_reducible refine wpAny_isSubtype_exc hC ?_;rw [cB])| with_reducible refine wpAny_field he rfl h1 ?_| wp_step)
 exact wpAny_raiseNew_none hh hE
end
def excN (a C:Addr) (dd:Option Addr):HO:=.ext fun h=>∃o vs,h.get? a=some o/\o.cls= .ref C/\o.dict=dd/\o.data= .fields vs/\vs.size=6/\vs[1]?=some .none
theorem excN_ok {P:Program} {w:World} {H:Hp} {h:Heap} {a C:Addr} {dd:Option Addr} (x:∃o vs,h.get? a=some o/\o.cls= .ref C/\o.dict=dd/\o.data= .fields vs/\vs.size=6/\vs[1]?=some .none):zA7 P w H h a (excN a C dd):=by
 obtain ⟨o,vs,e,c⟩:=x
 exact ⟨⟨o,vs,e,c⟩,⟨o,e⟩,fun h1 h2 ⟨o1,v1,e1,c1⟩ k=>⟨o1,v1,k o1 e1,c1⟩⟩
def del (H:Hp) (a:Addr):Hp:=fun b=>if b=a then none else H b
theorem del_same {H:Hp} {a:Addr}:del H a a=none:=if_pos rfl
theorem zCn {H:Hp} {a b:Addr} (h:b≠a):del H a b=H b:=if_neg h
theorem zJm {H:Hp} {a b:Addr} {o:HO} (h:del H a b=some o):b≠a/\H b=some o:=by
 by_cases z:b=a
 ·rw [z,del_same] at h;cases h
 ·exact ⟨z,by rw [zCn z] at h;exact h⟩
section
variable {X:Cx} {pins:List (Addr×Obj)} {σ:St} {H:Hp} {s:Shared}
theorem Inv.untrack {a:Addr} {φ:Heap->Prop} (I:Inv X pins σ H s) (e:H a=some (.ext φ)):Inv X pins σ (del H a) s:=by
 have less:∀b,H b=none->del H a b=none:=fun b z=>by by_cases y:b=a<;>simp [del,y,z]
 have tup:∀b xs,H b=some (.tup xs)->del H a b=some (.tup xs):=fun b xs z=>by rw [zCn (zBd z e fun y=>nomatch y)];exact z
 refine ⟨I.ok,I.os,I.bare,⟨I.base.keep,I.base.slot,fun b u z m hx=>less b (I.base.free b u z m hx),I.base.there,fun b xs z=>tup b xs (I.base.tups b xs z),fun b u v z=>?_,fun b ps z=>?_⟩,I.loc,I.cell,less _ I.free,fun x c z=>less c (I.freeC x c z),fun p q=>?_,fun b u z=>?_,I.len⟩
 ·have h1:=I.base.frzs b u v z
  rw [zCn (zBd h1 e fun y=>nomatch y)];exact h1
 ·obtain ⟨more,h1⟩:=I.base.tbls b ps z
  exact ⟨more,by rw [zCn (zBd h1 e fun y=>nomatch y)];exact h1⟩
 ·obtain ⟨p1,p2,p3⟩:=I.pin p q
  exact ⟨p1,less _ p2,p3⟩
 ·obtain ⟨_,z⟩:=zJm z
  exact (I.hok b u z).stay (fun _ _ _ q=>q) (fun c q=>by rw [zCn (zBd q e fun y=>nomatch y)];exact q) tup
end
def zJr (X:Cx) (C:Addr) (E:XK):Prop:=∀(pins:List (Addr×Obj)) (σ:St) (H:Hp) (s:Shared) (e:Addr) (dd:Option Addr),Inv X pins σ H s->X.s₀.heap.get? e=none->H e=some (excN e C dd)->E (.ref C) dd (del H e)->X.xe (.ref e) s
theorem raiseD {P:Program} {w:World} {K:Frag} {mg:Str->Option Value} {base:Heap} {N:List Str} {qual:Str} {scope:Scope} {f C:Addr} {cd:Value} {A:Around} {outer:List Env} {s:Shared} {H:Hp} {E:XK}:zJr (cxOf (CX1 P w) P w K mg base N qual scope f cd A outer s H E) C E:=by
 intro pins σ H1 s1 e dd I n0 he q
 have n0:s.heap.get? e=none:=n0
 have I2:=I.untrack he
 obtain ⟨⟨o,vs,g1,g2,g3,g4,_,g5⟩,_⟩:=(show zA7 _ _ _ _ _ (excN e C dd) from I.hok e _ he)
 subst g3
 generalize hst:(cxOf (CX1 P w) P w K mg base N qual scope f cd A outer s H E).stack=stk at *
 have Bg:∀b,(part s1.heap fun b=>decide (b∉frs stk/\b≠e)).get? b=if b∉frs stk/\b≠e then s1.heap.get? b else none:=fun b=>by rw [zFm];simp
 have st0:(part s1.heap fun b=>decide (b∉frs stk/\b≠e)).StaysIn s1.heap:=fun b o z=>by
  rw [Bg] at z
  split at z
  ·exact z
  ·cases z
 have fr:=I.stack
 rw [hst] at fr
 refine fly_first (B:=part s1.heap fun b=>decide (b∉frs stk/\b≠e)) I.ok.frames (by show s1.heap.FunFrames _ (cxOf (CX1 P w) P w K mg base N qual scope f cd A outer s H E).stack;rw [hst];exact zJj fr fun b hb=>by rw [Bg,if_neg (fun z=>z.1 hb)]) rfl g1 st0 (by rw [Bg,if_neg (fun z=>z.2 rfl)]) g4 g5 fun h2 fl us=>?_
 rw [g2] at fl
 have st:=fl.1
 have stkS:∀b,b∈frs stk->s.heap.get? b≠none->b∈frs outer:=fun b z y=>by
  rcases List.mem_cons.mp (I.stkSub b (by rw [hst];exact z)) with x| x
  ·cases q0:s.heap.get? b with
   | none=>exact absurd q0 y
   | some o0=>exact absurd (Nat.lt_of_lt_of_le (Heap.lt_size q0) (by rw [x];exact I.ok.above)) (Nat.lt_irrefl _)
  ·exact x
 have old:∀b o,(del H1 e b≠none\/(s.heap.get? b≠none/\b∉frs outer))->s1.heap.get? b=some o->(part s1.heap fun b=>decide (b∉frs stk/\b≠e)).get? b=some o:=fun b o hc eo=>by
  rw [Bg,if_pos]
  ·exact eo
  ·rcases hc with y| ⟨y1,y2⟩
   ·cases z:del H1 e b with
    | none=>exact absurd z y
    | some u =>
     obtain ⟨z1,z2⟩:=zJm z
     exact ⟨fun x=>(by have:=I.stkFree b (by rw [hst];exact x);rw [this] at z2;cases z2),z1⟩
   ·exact ⟨fun x=>y2 (stkS b x y1),fun x=>y1 (by rw [x];exact n0)⟩
 refine ⟨e,C,o.dict,del H1 e,_,rfl,fl,I.os,I.bare,zJg I2.base st us old (fun b hb o eo=>?_) (fun b hb=>I.ok.frf b hb),zEe I2.hok st fun b o z=>old b o (.inl z),del_same,n0,fun b o hc eo=>?_,q⟩
 ·obtain ⟨_,o',e',d⟩:=I.ok.funs.mem hb
  have e':s.heap.get? b=some o':=e'
  rw [eo] at e';cases e';exact d
 ·have eo:h2.get? b=some o:=eo
  have:∃o2,s1.heap.get? b=some o2:=by
   rcases hc with z| ⟨z1,z2⟩
   ·cases q0:del H1 e b with
    | none=>exact absurd q0 z
    | some u=>exact zDr (I2.hok b u q0)
   ·cases q0:s.heap.get? b with
    | none=>exact absurd q0 z1
    | some o0=>exact I.base.there b o0 q0 (by exact fun z=>nomatch z)
  obtain ⟨o2,e2⟩:=this
  have e3:=old b o2 hc e2
  rw [st b o2 e3] at eo
  cases eo
  exact e3
structure MkX (K:Frag) (C f:Addr):Prop where
 exc:excB K C=true
 init:findIn K (.ref C) "__init__" = some (some (.ref f))
 fn:isFn K (.ref f)=true
 kp:keepIn K (.ref C)=true
def sRaiseI (E:XK) (C:Addr) (sp:Sp) (t:TA):TS:=fun _ σ H=>t σ H fun vs H1=>vs.length<=sizeLine/\∀e,H1 e=none->sp (.ref e::vs) (upd H1 e (excN e C none)) (fun v H2=>v= .non/\∃dd,H2 e=some (excN e C dd)/\E (.ref C) dd (del H2 e)) E0
section
variable {X:Cx} {E:XK} {C f:Addr} {CX:CXT} {k:Nat} {fd:FuncData} {ps:List Str} {sp:Sp} {x:Str} {np cpos pos:Pos} {a:Expr} {es:List Expr} {t:TA}
theorem ps_raiseI (hx:zJr X C E) (hc:X.calm=true) (hg:Gl X x) (hm:X.mg x=some (.ref C)) (M:MkX X.K C f) (F:FnOk X.prog X.w X.K X.mg X.base CX k f fd ps sp) (hr:Room (k+1) X.A) (hb:zC5 X.K fd ps []) (hp:Passes CX X E0) (ha:PA X (a::es) t)
  (hd:(x==("__debug__" : Str))=false:=by decide) (he:starEach (a::es) X.env=(false,eval a X.env)::starEach es X.env:=by rfl) (hpl:(backTo cpos (starEach es X.env)).any (·.1)=false:=by rfl) :
  PS X (.Raise (some (.Call (.Name x np) (a::es) [] cpos)) none pos) (sRaiseI E C sp t):=by
 intro pins s σ H D I h
 rw [arm_exec_Raise]
 refine wpAny_bind (wpAny_standAt (raise_own M.exc (I.ok.hd hc) (wpAny_bind (wpAny_mono (wpAny_Call_Name_kw (zEc I hg hm ?_ hd)) (fun v s3 h3=>wpAny_bind (wpAny_standAt (wpAny_pure h3))) fun _ _ z=>z))))
 refine callWith_K (h₀:=X.base) I.ok.mod.kin M.kp (thn (ha cpos pins s σ H _ I h) fun us s1 ⟨vs,H1,I1,r,z,q⟩=>⟨I1.kIn,?_⟩) he hpl
 obtain ⟨h1,g1,d1,t1,os1⟩:=s1
 refine exc_call I1.kIn M.exc M.init (beq_iff_eq.mp M.fn) (show us.length<=sizeLine by rw [<-r.length];exact z) fun h' e le mk=>?_
 have fe:H1 e=none:=I1.hok.fresh le
 obtain ⟨t0,ge,_,_⟩:=mk.there
 have I2:Inv X pins σ (upd H1 e (excN e C none)) ⟨h',g1,d1,t1,os1⟩:=I1.laid (h':=h') (t':=t1) mk.keeps le (excN_ok ⟨_,_,ge,rfl,rfl,rfl,rfl,rfl⟩)
 have hq:=q e fe
 have r2:Vals (V.ref e::vs) (Value.ref e::us):=.cons rfl r
 have hl:(Value.ref e::us).length=ps.length:=by rw [<-r2.length];exact F.len _ _ _ _ hq
 have bd:=hb ⟨h',g1,d1,t1,os1⟩ (Value.ref e::us) I2.kIn (by rw [List.append_nil];exact hl)
 rw [List.append_nil] at bd
 refine wpAny_call (codeAny_mono (F.run _ X.stack _ _ ⟨Value.ref e::us,[]⟩ _ _ _ _ (hr.make C us []) (I2.env0.make C us []) bd r2 hq) fun rr s' hq'=>?_)
 cases rr with
 | error y=>exact hp pins σ _ _ y s' I2 hq'
 | ok fl =>
  cases fl with
  | ret u =>
   obtain ⟨v,H',I3,rv,ev,dd,e3,q3⟩:=I2.after hq'
   subst ev
   obtain ⟨⟨o,ws,y1,y2,y3,y4,y5,y6⟩,_⟩:=(show zA7 _ _ _ _ _ (excN e C dd) from I3.hok e _ e3)
   refine ⟨rv,e,o,ws,rfl,I3.kIn,y1,y2,y4,y6,hx pins σ H' s' e dd I3 (Heap.get?_none_of_le (Nat.le_trans I1.sz le)) e3 q3⟩
  | next=>exact False.elim hq'
  | brk=>exact False.elim hq'
  | cont=>exact False.elim hq'
end
structure InitX (K:Frag) (B:Addr):Prop where
 ga:specialIn K (.ref B) "__getattribute__" = some (some (.builtin "type.__getattribute__"))
 rd:readsIn K B (.type "type")=true
 fi:findCls K (.ref B) (.type "type") "__init__" = some (.val (.builtin "ValueError.__init__"))
theorem upd_id {H:Hp} {a:Addr} {o:HO} (h:H a=some o):upd H a o=H:=by
 funext b;unfold upd;split
 ·rename_i e;rw [e,h]
 ·rfl
section
variable {prog:Program} {w:World} {A:Around} {E:Value->Shared->Prop} {s:Shared} {K:Frag} {e C:Addr} {o:Obj} {vs:Array Value}
theorem base_init {rest:List Value} {Q:Value->Shared->Prop} (X:K.In s.heap) (q:excB K C=true) (he:s.heap.get? e=some o) (hc:o.cls= .ref C) (hd:o.data= .fields vs) (hz:vs.size=6) (hr:rest.length<=sizeLine)
  (h:∀h' x,h'.get? e=some (o.mapFields (·.setIfInBounds 0 x))->(∀b u,b≠e->s.heap.get? b=some u->h'.get? b=some u)->Q .none {s with heap:=h'}) :
  wpAny (model prog w) A (call (.builtin "ValueError.__init__") (.ref e::rest)) Q E s:=by
 obtain ⟨bm,N,nm,qn,bs,hdct,sn,sub,ab,col,dd,k0,k1,k2,k3,k5,hC,T,_⟩:=zGq X q
 have FV:=F.excBase_ValueError
 obtain ⟨h0,g,d,t,os⟩:=s
 refine wpAny_call (codeAny_call_builtin FV.init.plain FV.initEntry (wpAny_check_init_subU FV T hC he hc ?_))
 unfold Builtin.«BaseException.__init__»
 dsimp only
 rw [if_neg (by simp)]
 unfold newTuple Builtin.BaseException.bexcPut
 have sz:0<vs.size:=by rw [hz];decide
 have e1:(h0.push {cls:=.type "tuple",data:=.seq rest.toArray}).get? e=some o:=Heap.get?_push_of_some _ he
 refine wpAny_bind (wpAny_newObj_type (wpAny_bind (wpAny_bind (wpAny_field e1 hd (Array.getElem?_eq_getElem sz) (wpAny_bind (wpAny_setField e1 hd sz ?_))))) (show rest.toArray.size<=sizeLine by simpa using hr))
 have fin:=h ((h0.push {cls:=.type "tuple",data:=.seq rest.toArray}).update e (Obj.mapFields (·.setIfInBounds 0 (.ref h0.objs.size)))) (.ref h0.objs.size)
  (Heap.get?_update_self _ e1 (Obj.isFreed_of_fields (Obj.data_mapFields hd _))) fun b u hb z=>(Heap.get?_update_other _ _ (Ne.symm hb)).trans (Heap.get?_push_of_some _ z)
 split
 ·exact wpAny_letGo (wpAny_pure fin)
 ·exact wpAny_pure (wpAny_pure fin)
end
def tBase (K:Frag) (t:TA):TE:=fun σ H Q=>t σ H fun vs H1=>∃e C dd v,vs=[.ref e,v]/\H1 e=some (excN e C dd)/\excB K C=true/\Q .non H1
section
variable {X:Cx} {B:Addr} {x:Str} {np apos pos:Pos} {a:Expr} {es:List Expr} {t:TA} {pl:Sem Bool}
theorem pe_base (M:InitX X.K B) (hg:Gl X x) (hm:X.mg x=some (.ref B)) (ha:PA X (a::es) t) (hd:(x==("__debug__" : Str))=false:=by decide) (he:starEach (a::es) X.env=(false,eval a X.env)::starEach es X.env:=by rfl) (hpl:(backTo pos (starEach es X.env)).any (·.1)=false:=by rfl)
  (ht:eval (.Call (.Attribute (.Name x np) "__init__" apos) (a::es) [] pos) X.env=(do
   let ov<-eval (.Name x np) X.env
   standAt apos.atName
   let (f,first)<-holding [ov] (getMethod ov "__init__" pl)
   callWith pos f first (backTo pos (starEach (a::es) X.env)) (backToKw pos (keywordEach [] X.env))):=by rfl) :
  PE X (.Call (.Attribute (.Name x np) "__init__" apos) (a::es) [] pos) (tBase X.K t):=by
 intro pins s σ H Q I h
 refine methodCall_KW (pl:=pl) (zEc I hg hm (method_cls I.kIn M.ga (cls_value I.kIn M.rd M.fi rfl ?_)) hd) ht
 refine callWith_builtin1 (thn (ha pos pins _ σ H _ (I.tok _) h) fun us s1 ⟨vs,H1,I1,r,e,C,dd,v,ev,e1,q,q1⟩=>?_) he hpl
 subst ev
 obtain ⟨u1,u2,rfl,r1,r2⟩:=r.two
 cases r1
 obtain ⟨⟨o,ws,g1,g2,g3,g4,g5,g6⟩,_⟩:=(show zA7 _ _ _ _ _ (excN e C dd) from I1.hok e _ e1)
 refine base_init I1.kIn q g1 g2 g4 g5 (show 1<=sizeLine by rw [sizeLine_eq];decide) fun h' y y1 y2=>⟨.non,H1,?_,rfl,q1⟩
 have:=I1.write (x:=e) (e:=e) (o:=excN e C dd) (h':=h') (t':=s1.toks) (by rw [e1];exact True.intro) (.inl rfl) y2 ⟨_,y1⟩ (excN_ok ⟨_,_,y1,(Obj.cls_mapFields _ _).trans g2,(dict_mf _ _).trans g3,Obj.data_mapFields g4 _,by simp [g5],by rw [Array.getElem?_setIfInBounds_ne (by decide)];exact g6⟩)
 rw [upd_id e1] at this
 exact this
end
theorem refuse_own {h:Heap} {self:Value} {l:List Value} (T:OwnTail h bmVE l):refuseLoop self "__setattr__" l=pure ():=by
 induction T with
 | base=>exact F.store_ValueError.passes self
 | own _ _ _ _ ih=>rw [refuseLoop_ref];exact ih
section
variable {prog:Program} {w:World} {A:Around} {E:Value->Shared->Prop} {s:Shared} {K:Frag} {e C:Addr} {o:Obj} {f:Str} {v:Value}
theorem exc_set {Q:Unit->Shared->Prop} (X:K.In s.heap) (q:excB K C=true) (sa:findIn K (.ref C) "__setattr__" = some (some (.builtin "object.__setattr__"))) (hh:hasDictIn K C=true) (na:findIn K (.ref C) f=some none) (hm:mroIn K C (.type "object")=some true)
  (he:s.heap.get? e=some o) (hc:o.cls= .ref C) (hdi:o.dict=none) {vs:Array Value} (hd:o.data= .fields vs)
  (h:∀h' tk,h'.get? e=some {o with dict:=some s.heap.objs.size}->h'.Ns1 s.heap.objs.size (fun y=>if y=f then some v else none)->(∀b u,b≠e->s.heap.get? b=some u->h'.get? b=some u)->Q () {s with heap:=h',toks:=tk}) :
  wpAny (model prog w) A (setAttr (.ref e) f v) Q E s:=by
 obtain ⟨bm,N,nm,qn,bs,hdct,sn,sub,ab,col,dd,k0,k1,k2,k3,k5,hC,T,_⟩:=zGq X q
 obtain ⟨cd,hk,hd'⟩:=any_some hh
 have SF:=F.store_ValueError
 have J:InstAt s.heap e o C none:=⟨he,hc,by unfold notCls;rw [hd],by rw [hdi];trivial⟩
 refine set_plain X J sa (codeAny_call_builtin SF.slot.plain SF.entry ?_)
 have sub:Looks (model prog w) s.heap (isInstance (.ref e) (.type "object")) true:=J.type.andThen (looks_mroIn X hm)
 refine @check_slot (model prog w) _ _ {s with toks:=s.toks+1} "object.__setattr__" "object" "__setattr__" (.ref e) _ [] _ SF.kind SF.split sub (SF.args (.ref e) (.str f s.toks) v) ?_
 have mr:Looks (model prog w) s.heap (mroOf (.ref C)) (.ref C::bm):=fun A1 Q1 E1 s1 k z=>by
  obtain ⟨h1,g1,d1,t1,os1⟩:=s1
  exact wpAny_mroOf_exc (k _ _ hC) z
 rw [osa_eq,refuse_eq]
 obtain ⟨h0,g,d,t,os⟩:=s
 have L0:=J.type (M:=model prog w)
 have L1:=looks_findIn (M:=model prog w) X na
 refine wpAny_bind (wpAny_bind (L0.at (wpAny_bind (mr.at ?_))))
 rw [refuseLoop_ref,refuse_own T]
 refine wpAny_pure (wpAny_bind (L0.at (wpAny_bind (L1.at (wpAny_bind (wpAny_pure ?_))))))
 show wpAny _ _ (Builtin.ObjectAttr.storeInOwnDict (.ref e) (.ref C) _ f v _) _ _ _
 unfold Builtin.ObjectAttr.storeInOwnDict
 refine wpAny_bind (wpAny_pure ?_)
 rw [if_neg (by simp)]
 have hx:e≠h0.objs.size:=Nat.ne_of_lt (Heap.lt_size he)
 have e1:(h0.push {cls:=.type "dict",data:=.dict #[]}).get? e=some o:=Heap.get?_push_of_some _ he
 refine wpAny_bind (wpAny_bind (wpAny_loadPart he ?_))
 rw [hc,hdi]
 refine wpAny_bind ((looks_clsIn (M:=model prog w) X hk).at ?_)
 rw [hd']
 simp only [Bool.not_true,Bool.false_eq_true,if_false,typeHasDict,Bool.or_self,hd]
 refine wpAny_bind (wpAny_alloc' (wpAny_bind (wpAny_update' e1 (wpAny_pure (wpAny_bind (wpAny_pure ?_))))))
 generalize hh1:((h0.push {cls:=.type "dict",data:=.dict #[]}).update e fun y=>{y with dict:=some h0.objs.size})=h1
 have g1:h1.get? h0.objs.size=some {cls:=.type "dict",data:=.dict #[]}:=by rw [<-hh1];exact (Heap.get?_update_ne _ _ _ _ hx.symm).trans (Heap.get?_push_at rfl rfl)
 have ge:h1.get? e=some {o with dict:=some h0.objs.size}:=by
  rw [<-hh1]
  exact Heap.get?_update_self _ e1 (Obj.isFreed_of_fields (show ({o with dict:=some h0.objs.size}:Obj).data= .fields vs from hd))
 have n1:h1.Ns h0.objs.size (fun _=>none):=⟨_,#[],_,g1,rfl,fun z hz=>absurd hz (by simp),fun _=>rfl⟩
 refine wpAny_bind (wpAny_nsSet1 (Heap.Ns1.of_empty n1) fun h2 n2 s2=>?_)
 obtain ⟨oD,esD,epD,z1,z2,z3⟩:=n2.count (Within.cons f v Within.nil)
 refine wpAny_bind (wpAny_lookBehind z1 (by rw [z2];exact pastItsLine_dict (Nat.le_trans z3 (by rw [List.length_cons,List.length_nil,sizeLine_eq];omega))) (wpAny_pure ?_))
 exact h h2 _ ((s2.2 e hx).trans ge) n2 fun b u hb z=>(s2.2 b (Nat.ne_of_lt (Heap.lt_size z))).trans (by rw [<-hh1];exact (Heap.get?_update_ne _ _ _ _ hb).trans (Heap.get?_push_of_some _ z))
end
structure XCls (K:Frag) (C:Addr):Prop where
 exc:excB K C=true
 sa:findIn K (.ref C) "__setattr__" = some (some (.builtin "object.__setattr__"))
 hd:hasDictIn K C=true
 ob:mroIn K C (.type "object")=some true
def sFldX (K:Frag) (ta tv:TE) (f:Str):TS:=fun D σ H=>tv σ H fun y H1=>ta σ H1 fun x H2=>∃a C,x= .ref a/\H2 a=some (excN a C none)/\XCls K C/\zDj K C f/\∀dx,H2 dx=none->D.nx σ (upd (upd H2 dx (.xd [(f,y)])) a (excN a C (some dx)))
section
variable {X:Cx} {o value:Expr} {f:Str} {pos pos':Pos} {ta tv:TE}
theorem ps_fldX (ha:PE X o ta) (hv:PE X value tv) (hs:swapsWith value (some (.Attribute o f pos')) pos.line X.env=pure false):PS X (.Assign [.Attribute o f pos'] value pos) (sFldX X.K ta tv f):=by
 intro pins s σ H D I h
 refine plainObj_wpAny_Assign_Attribute (thn (hv pins s σ H _ I h) fun u s1 ⟨y,H1,I1,ry,q⟩=>thn (ha pins s1 σ H1 _ I1 q) fun ov s2 ⟨x,H2,I2,rx,a,C,ex,ea,c,n,q2⟩=>?_) hs
 subst ex
 obtain rfl:ov=Value.ref a:=rx
 obtain ⟨⟨ob,ws,g1,g2,g3,g4,g5,g6⟩,_⟩:=(show zA7 _ _ _ _ _ (excN a C none) from I2.hok a _ ea)
 refine exc_set I2.kIn c.exc c.sa c.hd n c.ob g1 g2 g3 g4 fun h' tk y1 y2 y3=>⟨σ,_,?_,q2 s2.heap.objs.size (I2.hok.fresh (Nat.le_refl _))⟩
 have fr:H2 s2.heap.objs.size=none:=I2.hok.fresh (Nat.le_refl _)
 have ne:s2.heap.objs.size≠a:=Nat.ne_of_gt (Heap.lt_size g1)
 refine I2.call' (ch:=[]) rfl ⟨fun b u z m _ _=>y3 b u (fun w=>by rw [w,ea] at m;cases m) z,fun b u z m _ _=>⟨u.slots,y3 b u (fun w=>by rw [w,ea] at m;cases m) z⟩,fun b u z m _=>?_,fun b u z _=>?_,fun b xs z=>?_,fun b u w z=>?_,fun b ps z=>⟨#[],?_⟩⟩ (fun b u z=>?_) I2.bare (fun b z=>nomatch z)
 ·rw [upd_ne (fun w=>by rw [w,ea] at m;cases m),upd_ne (Nat.ne_of_lt (Heap.lt_size z))];exact m
 ·by_cases w:b=a
  ·rw [w];exact ⟨_,y1⟩
  ·exact ⟨u,y3 b u w z⟩
 ·rw [upd_ne (zBd z ea fun w=>nomatch w),upd_ne (zAj z fr)];exact z
 ·rw [upd_ne (zBd z ea fun w=>nomatch w),upd_ne (zAj z fr)];exact z
 ·rw [Array.append_empty,upd_ne (zBd z ea fun w=>nomatch w),upd_ne (zAj z fr)];exact z
 ·by_cases w:b=a
  ·subst w
   rw [upd_same] at z;cases z
   exact excN_ok ⟨_,ws,y1,g2,rfl,g4,g5,g6⟩
  ·rw [upd_ne w] at z
   by_cases w2:b=s2.heap.objs.size
   ·subst w2
    rw [upd_same] at z;cases z
    refine ⟨_,y2,fun g=>?_⟩
    by_cases e:g=f
    ·subst e;simp [List.lookup,RelO];exact ry
    ·simp [List.lookup,beq_eq_false_iff_ne.mpr e,e,RelO]
   ·rw [upd_ne w2] at z
    refine (I2.hok b u z).stay (fun c v hc w3=>y3 c v ?_ w3) (fun c w3=>?_) fun c xs w3=>?_
    ·rcases hc with rfl| hc
     ·exact w
     ·exact zBd hc ea fun w=>nomatch w
    ·rw [upd_ne (zBd w3 ea fun w=>nomatch w),upd_ne (zAj w3 fr)];exact w3
    ·rw [upd_ne (zBd w3 ea fun w=>nomatch w),upd_ne (zAj w3 fr)];exact w3
end
end L2
namespace L2
open PySem PySem.Spec PyProof.Rows PySem.W PySem.Builtin PySem.Builtin.ObjectAttr
section
variable {prog:Program} {w:World} {A:Around} {E:Value->Shared->Prop} {s:Shared} {K:Frag} {x C:Addr} {f:Str} {v:Value} {ox od:Obj}
theorem exc_fld {tk:Tok} {R:Result->Shared->Prop} (X:K.In s.heap) (J:InstAt s.heap x ox C (some od)) (hb:mroIn K C (.type "BaseException")=some true) (hf:findObj K C (some od) f=some (.value v)) (h:R (.ok (.ret v)) s) :
  codeAny (model prog w) A (.call (.builtin "BaseException.__getattribute__") ⟨[.ref x,.str f tk],[]⟩) R s:=by
 obtain ⟨h0,g,d,t,os⟩:=s
 have L0:=J.type (M:=model prog w)
 have L1:=looks_mroIn (M:=model prog w) X hb
 have L2:=looks_find (M:=model prog w) X J hf
 have sub:Looks (model prog w) h0 (isInstance (.ref x) (.type "BaseException")) true:=L0.andThen L1
 refine codeAny_call_builtin (by decide +kernel) F.entry_bexc_ga (@check_slot (model prog w) _ _ ⟨h0,g,d,t,os⟩ "BaseException.__getattribute__" "BaseException" "__getattribute__" (.ref x) _ [] _ (by decide +kernel) (by decide +kernel) sub (F.args_bexc_ga (.ref x) (.str f tk)) ?_)
 unfold Builtin.«object.__getattribute__»
 exact wpAny_bind (wpAny_pure (wpAny_bind (wpAny_pure (wpAny_bind (L0.at (wpAny_bind (L2.at (wpAny_pure h))))))))
theorem exc_attr {b:Bool} {Q:Value->Shared->Prop} (X:K.In s.heap) (J:InstAt s.heap x ox C (some od)) (hb:mroIn K C (.type "BaseException")=some true) (ga:findIn K (.ref C) "__getattribute__" = some (some (.builtin "BaseException.__getattribute__"))) (gn:findIn K (.ref C) "__getattr__" = some none)
  (hf:findObj K C (some od) f=some (.value v)) (hv:handedIn v=true) (h:Q v {s with toks:=s.toks+1}):wpAny (model prog w) A (getAttr (.ref x) f b) Q E s:=by
 obtain ⟨h0,g,d,t,os⟩:=s
 have L0:=J.type (M:=model prog w)
 have L1:=looks_findIn (M:=model prog w) X ga
 have L2:=looks_findIn (M:=model prog w) X gn
 have f3:=F.excAttr_ValueError.ga.bind (.ref x)
 unfold getAttr getAttrBy
 refine wpAny_bind (wpAny_mkText (wpAny_holding (wpAny_bind (L0.at (wpAny_bind (L1.at ?_))))))
 show wpAny _ _ (getAttrByItsOwn _ _ _ _ _ _) _ _ _
 unfold getAttrByItsOwn hookBefore
 refine wpAny_bind ?_
 rw [if_pos (show onTheHeap (Value.ref C)=true from rfl)]
 refine L2.at (wpAny_bind (wpAny_attempt (wpAny_holding ?_)))
 unfold callGetattribute
 rw [if_neg (by cases b<;>decide)]
 unfold boundAndCalled
 rw [f3]
 refine wpAny_bind (wpAny_pure (wpAny_call (exc_fld (s:=⟨h0,g,d,t+1,os⟩) X J hb hf ?_)))
 show wpAny _ _ (handedOut v) _ _ _
 rw [handedOut_of hv]
 exact wpAny_pure h
end
structure XGet (K:Frag) (C:Addr):Prop where
 hd:hasDictIn K C=true
 be:mroIn K C (.type "BaseException")=some true
 ga:findIn K (.ref C) "__getattribute__" = some (some (.builtin "BaseException.__getattribute__"))
 gn:findIn K (.ref C) "__getattr__" = some none
def tFldX (K:Frag) (ta:TE) (f:Str):TE:=fun σ H Q=>ta σ H fun x H1=>∃a C dx fs v,x= .ref a/\H1 a=some (excD a C (some dx))/\H1 dx=some (.xd fs)/\XGet K C/\zDj K C f/\fs.lookup f=some v/\Q v H1
theorem pe_fldX {X:Cx} {K:Frag} {e:Expr} {f:Str} {pos:Pos} {ta:TE} (hK:X.K=K) (he:PE X e ta) (hb:attributeBase e f X.env (eval e X.env)=eval e X.env):PE X (.Attribute e f pos) (tFldX K ta f):=by
 intro pins s σ H Q I h
 subst hK
 refine attr_of hb (thn (he pins s σ H _ I h) fun u s1 ⟨x,H1,I1,rx,a,C,dx,fs,v,ex,ea,ed,c,n,l,q⟩=>?_)
 subst ex
 obtain rfl:u=Value.ref a:=rx
 obtain ⟨⟨ob,g1,g2,g3,ws,g4⟩,_⟩:=(show zA7 _ _ _ _ _ (excD a C (some dx)) from I1.hok a _ ea)
 obtain ⟨mA,ns,r⟩:=(show zA7 _ _ _ _ _ (.xd fs) from I1.hok dx _ ed)
 obtain ⟨od,ho,hl⟩:=lookIn_ns ns
 obtain ⟨u',hu,ru⟩:=RelO.some_of (v:=v) (o:=mA f) (by rw [<-l];exact r f)
 have no:notCls ob=true:=by unfold notCls;rw [g4]
 exact exc_attr I1.kIn ⟨g1,g2,no,by rw [g3];exact ho⟩ c.be c.ga c.gn (findObj_own c.hd n rfl (by rw [hl,hu])) (handed_of ru) ⟨v,H1,I1.tok _,ru,q⟩
end L2
local macro_rules| `(tactic| walk_at "lc")=>`(tactic| first| exact Or.inl rfl| exact Or.inr rfl)
local macro_rules| `(tactic| walk_at "nm")=>`(tactic| first| assumption| exact List.not_mem_nil| (refine L2.nm1 ?_;walk_at "ne")| (refine L2.nm2 ?_ ?_<;>walk_at "ne")| (refine L2.nm3 ?_ ?_ ?_<;>walk_at "ne"))
local macro_rules| `(tactic| walk_at "lk")=>`(tactic| first| assumption| exact L2.upd_same| (refine (L2.upd_ne ?_).trans ?_;walk_at "ne";walk_at "lk")| (refine L2.Kp.look (by assumption) ?_ ?_;walk_at "lk";walk_at "nm"))
local macro_rules| `(tactic| walk_at "ne")=>`(tactic| first| assumption| (refine Ne.symm ?_;assumption)| (refine L2.ne_fre (by assumption) ?_;walk_at "lk")| (refine Ne.symm (L2.ne_fre (by assumption) ?_);walk_at "lk"))
local macro_rules| `(tactic| walk_at "bd")=>`(tactic| first| decide| omega| (dsimp only;first| decide| omega))
local macro_rules| `(tactic| walk_at "ml")=>`(tactic| first| exact Or.inr ⟨by decide,by decide⟩| exact Or.inl ⟨by omega,by omega⟩| exact Or.inr ⟨by omega,by omega⟩)
local macro_rules| `(tactic| walk_at "ln")=>`(tactic| first| decide| (have hsz:=PySem.sizeLine_eq;simp only [List.length_cons,List.length_nil,List.length_map,List.length_append] at *;omega))
local macro_rules| `(tactic| walk_at "ix")=>`(tactic| first| rfl| assumption| (refine L2.atI_natc ?_;assumption))
local macro_rules| `(tactic| walk_at "vs")=>`(tactic| first| exact Or.inl rfl| exact Or.inr (Or.inl rfl)| exact Or.inr (Or.inr rfl))
local macro_rules| `(tactic| walk_at "vk")=>`(tactic| first| exact Or.inl rfl| exact Or.inr rfl)
local macro_rules| `(tactic| walk_at "vf")=>`(tactic| first| decide +kernel| (simp only [List.mem_cons];decide))
namespace My
open PySem L2
def top (i:Nat):Stmt:=PySem.Challenge.pw_levelbench_k16_whole_one_sign_otherwise.main.body.getD i (.Pass ⟨0,0,0,0⟩)
structure Txt (K:PySem.W.Frag) (mg:Str->Option Value):Prop where
 z_len:mg "len" = none
 z_max:mg "max" = none
 z_range:mg "range" = none
 z_int:mg "int" = none
 z_str:mg "str" = none
 z_list:mg "list" = none
 z_all:mg "all" = none
 z_min:mg "min" = none
 z_any:mg "any" = none
 z_dict:mg "dict" = none
 z_bool:mg "bool" = none
 z_reversed:mg "reversed" = none
 z_isinstance:mg "isinstance" = none
 z_sorted:mg "sorted" = none
 z_set:mg "set" = none
 z_tuple:mg "tuple" = none
 c_MOST_JOBS:∃t,mg "MOST_JOBS" = some (.int 20 t)
 c_LONGEST_NAME:∃t,mg "LONGEST_NAME" = some (.int 8 t)
section
variable {P:Program} {w:World} {K:PySem.W.Frag} {mg:Str->Option Value} {base:Heap}
def zB1 (H:Hp) (p:Addr):Prop:=∃a b:Int,H p=some (.lst [.int a,.int b])/\0<=a/\0<=b/\b<2147483629
theorem zB1.kp {M:List Addr} {H H':Hp} {p:Addr} (h:zB1 H p) (k:Kp M H H') (n:p∉M):zB1 H' p:=by
 obtain ⟨a,b,e,r⟩:=h
 exact ⟨a,b,k p _ e n,r⟩
def zH3:Sp:=fun vs H Q _=>∃(p:Addr) (m:Int),vs=[.ref p,.int m]/\zB1 H p/\1<=m/\m<1073741824/\∀(d:Int) (H':Hp),0<=d->d<m->zB1 H' p->Kp [p] H H'->Q (.int d) H'
abbrev s_take:Stmt:=top 43
theorem sc_take:FnScope ["_law_purse_here", "_law_many", "_law_digit"] ["_law_purse_here", "_law_many"] (zAe s_take):=⟨rfl,rfl,rfl,by decide +kernel,rfl,by decide +kernel,by decide +kernel⟩
theorem ok_take {f:Addr} {fd:FuncData} (F:Fun K "_law_take" "_law_take" s_take f fd):FnOk P w K mg base CX0 1 f fd ["_law_purse_here", "_law_many"] zH3:=by
 refine F.ok sc_take (fun vs H Q E h=>?_) (fun cdv A outer s H vs Q E hr h=>?_)
 ·obtain ⟨p,m,rfl,_⟩:=h
  rfl
 ·obtain ⟨p,m,rfl,⟨a,b,hp,ha,hb,hb'⟩,hm,hm',k⟩:=h
  refine ⟨_,(zAc (zA2 (zAr op_gt (zA9 zA1 (pv 0) zAg (fun _ _=>rfl)) zAg (zAt _))
    (zAc (zAn (i:=2) sc_take.nd rfl (by walk_at "lc") (zAs zG3 (zA9 zA1 (pv 0) zAg (fun _ _=>rfl)) (pv 1)))
    (zAc (ps_asg (zAs zI4 (zA9 zA1 (pv 0) zAg (fun _ _=>rfl)) (pv 1)) (pg_sub (pv 0) zAg zGm))
    (zAd (zAq (pv 2)))))
    zAm)
   (zAc (ps_asg (zAs zG3 (zAs zCs (zAs zFn (zA9 zA1 (pv 0) zAg (fun _ _=>rfl)) zAg) zAg) zAg) (pg_sub (pv 0) zAg zGm))
   (zAd (zAq (zAs zG3 (zAs zI4 (zAs zG3 (zAs zFn (zA9 zA1 (pv 0) zAg (fun _ _=>rfl)) (zA9 zA1 (pv 0) zAg (fun _ _=>rfl))) zAg) zAg) (pv 1)))))),?_⟩
  refine ⟨_,rfl,_,_,_,_,rfl,rfl,SqL.of (by walk_at "lk"),(by walk_at "ix"),_,_,rfl,rfl,_,rfl,?_⟩
  refine ite2 (fun c=>?_) (fun c=>?_)
  ·have c':0<a:=by simpa using c
   refine ⟨_,rfl,_,_,_,_,rfl,rfl,SqL.of (by walk_at "lk"),(by walk_at "ix"),_,rfl,_,_,rfl,rfl,(by walk_at "bd"),?_⟩
   refine ⟨_,rfl,_,_,_,_,rfl,rfl,SqL.of (by walk_at "lk"),(by walk_at "ix"),_,rfl,_,_,rfl,rfl,⟨by walk_at "bd",by walk_at "bd"⟩,_,rfl,_,_,_,_,rfl,rfl,(by walk_at "lk"),(by walk_at "ix"),?_⟩
   refine ⟨_,rfl,?_⟩
   refine k _ _ (Int.emod_nonneg _ (by omega)) (Int.emod_lt_of_pos _ (by omega)) ⟨a / m,b,upd_same,Int.ediv_nonneg ha (by omega),hb,hb'⟩ (Kp.put Kp.refl (by simp))
  ·refine ⟨_,rfl,_,_,_,_,rfl,rfl,SqL.of (by walk_at "lk"),(by walk_at "ix"),_,_,rfl,rfl,(by walk_at "ml"),_,_,rfl,rfl,_,_,rfl,rfl,(by walk_at "bd"),_,rfl,_,_,_,_,rfl,rfl,(by walk_at "lk"),(by walk_at "ix"),?_⟩
   have h1:=Int.emod_nonneg (b*39373+7919) (show (2147483629:Int)≠0 by decide)
   have h2:=Int.emod_lt_of_pos (b*39373+7919) (show (0:Int)<2147483629 by decide)
   refine ⟨_,rfl,_,_,_,_,rfl,rfl,SqL.of (by walk_at "lk"),(by walk_at "ix"),_,rfl,_,_,_,_,rfl,rfl,SqL.of (by walk_at "lk"),(by walk_at "ix"),_,_,rfl,rfl,(by walk_at "ml"),_,_,rfl,rfl,(by walk_at "bd"),_,_,rfl,rfl,⟨by walk_at "bd",by walk_at "bd"⟩,_,rfl,_,_,rfl,rfl,(by walk_at "bd"),?_⟩
   refine k _ _ (Int.emod_nonneg _ (by omega)) (Int.emod_lt_of_pos _ (by omega)) ⟨a,_,upd_same,ha,h1,h2⟩ (Kp.put Kp.refl (by simp))
def spPurse:Sp:=fun vs H Q _=>∃(c k:Int),vs=[.int c,.int k]/\-(2^31)<k/\k<2^31/\∀(p:Addr) (H':Hp),Fre H p->zB1 H' p->Kp [] H H'->Q (.ref p) H'
abbrev s_purse:Stmt:=top 42
theorem sc_purse:FnScope ["_law_cell_here", "_law_k", "_law_number"] ["_law_cell_here", "_law_k"] (zAe s_purse):=⟨rfl,rfl,rfl,by decide +kernel,rfl,by decide +kernel,by decide +kernel⟩
theorem ok_purse {f:Addr} {fd:FuncData} (F:Fun K "_law_purse" "_law_purse" s_purse f fd) (T:Txt K mg):FnOk P w K mg base CX0 1 f fd ["_law_cell_here", "_law_k"] spPurse:=by
 refine F.ok sc_purse (fun vs H Q E h=>?_) (fun cdv A outer s H vs Q E hr h=>?_)
 ·obtain ⟨p,m,rfl,_⟩:=h
  rfl
 ·obtain ⟨c,n,rfl,hn,hn',k⟩:=h
  refine ⟨_,(zAc (zAn (i:=2) sc_purse.nd rfl (by walk_at "lc") (zAs zG3 (zAs zCs (zAs zCs (zAs zFn (zAs zG3 (pv 0) zAg) zAg) (zAs zFn (zAs zFn (pv 1) (pv 1)) zAg)) zAg) zAg))
   (zAd (zAq (zBo (zAa (zAf (call_max2 rfl) (by rfl) T.z_max bo_max (zAa zAg (zAa (zAs zG2 (pv 0) (zAs op_pow zAg zAg)) zAb))) (zAa (zAs zG3 (zAs zFn (pv 2) (pv 2)) zAg) zAb)))))),?_⟩
  refine ⟨_,rfl,_,_,rfl,rfl,(by walk_at "bd"),_,_,rfl,rfl,(by walk_at "ml"),_,rfl,_,rfl,_,_,rfl,rfl,(by walk_at "ml"),_,_,rfl,rfl,(by walk_at "ml"),_,_,rfl,rfl,_,_,rfl,rfl,_,_,rfl,rfl,(by walk_at "bd"),?_⟩
  generalize c % 2147483629*48271+n*n*69623+11=y
  have h1:=Int.emod_nonneg y (show (2147483647:Int)≠0 by decide)
  have h2:=Int.emod_lt_of_pos y (show (0:Int)<2147483647 by decide)
  refine ⟨_,rfl,_,_,rfl,rfl,⟨by decide,by decide,by decide⟩,_,_,rfl,rfl,_,_,rfl,_,rfl,_,rfl,_,_,rfl,rfl,(by walk_at "ml"),_,_,rfl,rfl,(by walk_at "bd"),(by walk_at "ln"),fun p hp=>?_⟩
  refine k p _ hp ⟨_,_,upd_same,?_,Int.emod_nonneg _ (by decide),Int.emod_lt_of_pos _ (by decide)⟩ (Kp.new Kp.refl hp)
  split<;>omega
def spCell (K:PySem.W.Frag):Sp:=fun vs H Q _=>∃(a:Addr) (ns:List Int) (k:Int),vs=[.ref a,.int k]/\SqL K H a (ns.map V.int)/\0<=k/\∀c:Int,Q (.int c) H
abbrev s_cell:Stmt:=top 41
theorem sc_cell:FnScope ["_law_script", "_law_k"] ["_law_script", "_law_k"] (zAe s_cell):=⟨rfl,rfl,rfl,by decide +kernel,rfl,by decide +kernel,by decide +kernel⟩
theorem ok_cell {f:Addr} {fd:FuncData} (F:Fun K "_law_cell" "_law_cell" s_cell f fd) (T:Txt K mg):FnOk P w K mg base CX0 1 f fd ["_law_script", "_law_k"] (spCell K):=by
 refine F.ok sc_cell (fun vs H Q E h=>?_) (fun cdv A outer s H vs Q E hr h=>?_)
 ·obtain ⟨p,m,n,rfl,_⟩:=h
  rfl
 ·obtain ⟨a,ns,n,rfl,hS,hn,k⟩:=h
  refine ⟨_,(zAd (zAq (pe_ifExp (zAr op_lt (pv 1) (zAf zAp (by rfl) T.z_len zBv (zAa (pv 0) zAb)) (zAt _)) (zA9 zA1 (pv 0) (pv 1) (fun _ _=>rfl)) zAg))),?_⟩
  refine ⟨_,rfl,_,rfl,_,_,rfl,.inl hS,_,_,rfl,rfl,_,rfl,?_⟩
  refine ite2 (fun c=>?_) (fun c=>?_)
  ·have c':n<ns.length:=by simpa using c
   have hx:(ns.map V.int)[n.toNat]?=some (V.int (ns[n.toNat]'(by omega))):=by simp
   refine ⟨_,rfl,_,rfl,_,_,_,_,rfl,rfl,hS,zA0 hn hx,k _⟩
  ·exact k _
end
def zBa (s:Str):Prop:=1<=s.length/\s.length<=8/\∀c∈s.cps.toList,97<=c/\c<=122
def WordS (n:Nat) (s:Str):Prop:=s.length=n/\∀c∈s.cps.toList,97<=c/\c<=122
theorem zA5 (a b:Str):(a++b).length=a.length+b.length:=by
 show (a++b).cps.size=_
 rw [Str.cps_append,Array.size_append];rfl
theorem WordS.more {n:Nat} {s:Str} (h:WordS n s) {c:Nat} (h1:97<=c) (h2:c<=122):WordS (n+1) (s++⟨#[c]⟩):=by
 refine ⟨by rw [zA5,h.1];rfl,fun x hx=>?_⟩
 rw [Str.cps_append,Array.toList_append] at hx
 rcases List.mem_append.mp hx with z| z
 ·exact h.2 x z
 ·have:x=c:=by simpa using z
  omega
def zCd:Str:= "abcdefghijklmnopqrstuvwxyz"
theorem zDe:zCd.cps.toList=(List.range 26).map (97+·):=by decide +kernel
theorem letters_at {d:Int} (h0:0<=d) (h1:d<26):atI zCd.cps.toList d=some (97+d.toNat):=by
 refine zA0 h0 ?_
 have:d.toNat<26:=by omega
 rw [zDe,List.getElem?_map,List.getElem?_range this]
 rfl
theorem zE6 (a c:Nat):(!(decide (([c]:List Nat)<[a])))=decide (a<=c):=by
 have:(([c]:List Nat)<[a])↔c<a:=by
  constructor
  ·intro h
   cases h with
   | rel h=>exact h
   | cons h=>cases h
  ·intro h
   exact List.Lex.rel h
 by_cases h:c<a
 ·rw [decide_eq_true (this.mpr h),decide_eq_false (by omega)];rfl
 ·rw [decide_eq_false (fun z=>h (this.mp z)),decide_eq_true (by omega)];rfl
section
variable {P:Program} {w:World} {K:PySem.W.Frag} {mg:Str->Option Value} {base:Heap}
def zBh (s:Str):Bool:=decide (1<=s.length)&&decide (s.length<=8)&&s.cps.toList.all fun c=>decide (97<=c)&&decide (c<=122)
theorem zFq (s:Str):zBh s=true↔zBa s:=by
 unfold zBh zBa
 simp only [Bool.and_eq_true,decide_eq_true_eq,List.all_eq_true]
 exact ⟨fun ⟨⟨a,b⟩,c⟩=>⟨a,b,c⟩,fun ⟨a,b,c⟩=>⟨⟨a,b⟩,c⟩⟩
def zEi:Sp:=fun vs H Q _=>∃(x:Str),vs=[.str x]/\x.length<=1000000/\∀H',Kp [] H H'->Q (.bl (zBh x)) H'
abbrev zFj:Stmt:=top 22
theorem sc_is_name:FnScope ["thing"] ["thing"] (zAe zFj):=⟨rfl,rfl,rfl,by decide +kernel,rfl,by decide +kernel,by decide +kernel⟩
theorem ok_is_name {f:Addr} {fd:FuncData} (F:Fun K "is_name" "is_name" zFj f fd) (T:Txt K mg):FnOk P w K mg base CX0 1 f fd ["thing"] zEi:=by
 refine F.ok sc_is_name (fun vs H Q E h=>?_) (fun cdv A outer s H vs Q E hr h=>?_)
 ·obtain ⟨x,rfl,_⟩:=h
  rfl
 ·obtain ⟨x,rfl,hx,k⟩:=h
  obtain ⟨tL,hL⟩:=T.c_LONGEST_NAME
  refine ⟨_,(zAc (zA2 (PW.pt (pw_or (zC2 (zBi (zAf zCj (by rfl) T.z_isinstance zAh (zAa (pv 0) (zAa (zC3 (by rfl) T.z_str zIj (v:=.ty "str") rfl) zAb))))) (pw_or1 (zC2 (pt_chain op_le op_le zAg (zAf zDi (by rfl) T.z_len zBv (zAa (pv 0) zAb)) (zA4 rfl hL (v:=.int 8) ⟨_,rfl⟩))))))
    (zAd (zAq pe_bl))
    zAm)
   (zAd (zAq (zAf (zD2 _ rfl) (by rfl) T.z_all zHk (zAa (zBz rfl (zB4 (sc:=zAe zFj) rfl (by decide +kernel)) (Draws.own (x:= "sign") Draws.nil) (pi_str (pv 0)) (fun C s₀ H₀ ex=>(zAk (i:=0) (show List.Nodup (["sign"]:List Str) by decide +kernel) rfl (by walk_at "lc"))) (fun C s₀ H₀ ex=>zB8) (fun C s₀ H₀ ex=>(pe_chain op_le_str op_le_str zAo (pv 0) zAo))) zAb))))),?_⟩
  refine ⟨_,rfl,_,_,_,_,rfl,TyOf.str x,zDf,_,rfl,iteF ?_⟩
  refine ⟨_,rfl,_,rfl,?_,_,_,rfl,rfl,_,rfl,?_⟩
  ·rw [sizeLine_eq];omega
  refine ite2 (fun c=>?_) (fun c=>?_)
  ·have c1:1<=x.length:=by
    have:=of_decide_eq_true c
    omega
   refine ⟨_,_,rfl,rfl,_,rfl,?_⟩
   refine ite2 (fun c=>?_) (fun c=>?_)
   ·-- too long
    have c2:¬(x.length<=8):=fun z=>by
     have:decide ((x.length:Int)<=8)=true:=decide_eq_true (by omega)
     rw [this] at c;cases c
    have e:zBh x=false:=by
     unfold zBh
     rw [decide_eq_false c2];simp
    rw [<-e];exact k H Kp.refl
   ·have c2:x.length<=8:=by
     by_cases z:(x.length:Int)<=8
     ·omega
     ·rw [decide_eq_false z] at c;exact absurd rfl c
    refine ⟨_,rfl,_,rfl,fun D hD=>comp_str0 (z:=x) (fun i ys τ H'=>(∃o0,τ=[o0])/\ys=((x.cps.toList.take i).map fun c=>V.bl (decide (97<=c)&&decide (c<=122)))/\H'=upd H D (.lst ys)) ⟨⟨_,rfl⟩,rfl,rfl⟩ ?_ ?_⟩
    ·rintro i c ys τ H' hc ⟨⟨o0,rfl⟩,rfl,rfl⟩
     have ei:x.cps.toList.take (i+1)=x.cps.toList.take i++[c]:=by rw [List.take_succ,hc];rfl
     have hi:i<x.cps.toList.length:=(List.getElem?_eq_some_iff.mp hc).1
     have hlen:x.cps.toList.length=x.length:=by simp [Str.length]
     have fin:∀b:Bool,b=(decide (97<=c)&&decide (c<=122))->(upd H D (.lst ((x.cps.toList.take i).map fun c=>V.bl (decide (97<=c)&&decide (c<=122))))) D=some (.lst ((x.cps.toList.take i).map fun c=>V.bl (decide (97<=c)&&decide (c<=122))))/\((x.cps.toList.take i).map fun c=>V.bl (decide (97<=c)&&decide (c<=122))).length<sizeLine /\
       ((∃o0,([some (V.str ⟨#[c]⟩)]:St)=[o0])/\((x.cps.toList.take i).map fun c=>V.bl (decide (97<=c)&&decide (c<=122)))++[V.bl b]=((x.cps.toList.take (i+1)).map fun c=>V.bl (decide (97<=c)&&decide (c<=122))) /\
       upd (upd H D (.lst ((x.cps.toList.take i).map fun c=>V.bl (decide (97<=c)&&decide (c<=122))))) D (.lst (((x.cps.toList.take i).map fun c=>V.bl (decide (97<=c)&&decide (c<=122)))++[V.bl b]))=upd H D (.lst (((x.cps.toList.take i).map fun c=>V.bl (decide (97<=c)&&decide (c<=122)))++[V.bl b]))):=fun b hb=>by
      refine ⟨upd_same,?_,⟨_,rfl⟩,?_,zDu⟩
      ·rw [List.length_map,List.length_take,sizeLine_eq];omega
      ·rw [ei,List.map_append,hb];rfl
     refine ⟨_,rfl,_,_,rfl,rfl,_,rfl,?_⟩
     refine ite2 (fun c1=>?_) (fun c1=>?_)
     ·refine ⟨_,_,rfl,rfl,fin _ ?_⟩
      have c1:(!(decide (([c]:List Nat)<[97])))=true:=c1
      rw [zE6] at c1
      show (!(decide (([122]:List Nat)<[c])))=_
      rw [zE6,c1];rfl
     ·refine fin _ ?_
      have c1:¬(!(decide (([c]:List Nat)<[97])))=true:=c1
      rw [zE6] at c1
      rw [Bool.not_eq_true] at c1
      rw [c1];rfl
    ·rintro ys τ H' ⟨⟨o0,rfl⟩,rfl,rfl⟩
     have hlen:x.cps.toList.take x.length=x.cps.toList:=List.take_of_length_le (by simp [Str.length])
     refine ⟨D,x.cps.toList.map (fun c=>decide (97<=c)&&decide (c<=122)),rfl,SqL.of ?_,?_⟩
     ·rw [upd_same,hlen,List.map_map];rfl
     ·have e:((x.cps.toList.map (fun c=>decide (97<=c)&&decide (c<=122))).all id)=zBh x:=by
       unfold zBh
       rw [decide_eq_true c1,decide_eq_true c2,List.all_map];rfl
      rw [e]
      exact k _ (Kp.new Kp.refl hD)
  ·-- empty
   have c1:¬(1<=x.length):=fun z=>c (decide_eq_true (by omega))
   refine ⟨_,rfl,?_⟩
   refine iteT ?_
   have e:zBh x=false:=by
    unfold zBh
    rw [decide_eq_false c1];simp
   rw [<-e];exact k H Kp.refl
end
abbrev Txs (H:Hp) (l:Addr) (ns:List Str):Prop:=H l=some (.lst (ns.map V.str))
structure Ords (H:Hp) (l:Addr) (qs:List (List Str×Addr)):Prop where
 top:H l=some (.lst (qs.map fun q=>V.ref q.2))
 row:∀q∈qs,H q.2=some (.tup (q.1.map V.str))
 two:∀q∈qs,∃a b,q.1=[a,b]
theorem zEd (x:Str) (ns:List Str):inV (.str x) (ns.map V.str)=decide (x∈ns):=by
 unfold inV
 induction ns with
 | nil=>rfl
 | cons n r ih =>
  rw [List.map_cons,List.any_cons,ih]
  show ((n==x)||_)=_
  by_cases e:n=x
  ·subst e;simp
  ·have e':¬x=n:=fun z=>e z.symm
   rw [beq_eq_false_iff_ne.mpr e]
   simp [e']
theorem zCm (ns:List Str):(ns.map V.str).all zE9=true:=by simp [zE9]
section
variable {P:Program} {w:World} {K:PySem.W.Frag} {mg:Str->Option Value} {base:Heap}
def zFe:Sp:=fun vs H Q _=>∃(x:Str) (l:Addr) (ns:List Str),vs=[.str x,.ref l]/\Txs H l ns/\Q (.bl (decide (x∈ns))) H
abbrev zE5:Stmt:=top 23
theorem sc_is_one_of:FnScope ["thing", "names"] ["thing", "names"] (zAe zE5):=⟨rfl,rfl,rfl,by decide +kernel,rfl,by decide +kernel,by decide +kernel⟩
theorem ok_is_one_of {f:Addr} {fd:FuncData} (F:Fun K "is_one_of" "is_one_of" zE5 f fd) (T:Txt K mg):FnOk P w K mg base CX0 1 f fd ["thing", "names"] zFe:=by
 refine F.ok sc_is_one_of (fun vs H Q E h=>?_) (fun cdv A outer s H vs Q E hr h=>?_)
 ·obtain ⟨x,l,ns,rfl,_⟩:=h
  rfl
 ·obtain ⟨x,l,ns,rfl,hl,k⟩:=h
  refine ⟨_,(zAd (zAq (pe_and (zAf zCj (by rfl) T.z_isinstance zAh (zAa (pv 0) (zAa (zC3 (by rfl) T.z_str zIj (v:=.ty "str") rfl) zAb))) (zH9 (zBg zEb (pv 0) (pv 1) (by rfl)))))),?_⟩
  refine ⟨_,rfl,_,_,_,_,rfl,TyOf.str x,zDf,_,rfl,iteT ?_⟩
  refine ⟨_,rfl,_,rfl,_,_,rfl,.inl (SqL.of hl),rfl,zCm ns,?_⟩
  rw [zEd];exact k
def zFx:Sp:=fun vs H Q _=>∃(x:Str) (l:Addr) (ns:List Str),vs=[.ref l,.str x]/\Txs H l ns/\x∈ns/\Q .non H
abbrev zCz:Stmt:=top 29
theorem zGa:FnScope ["names", "thing"] ["names", "thing"] (zAe zCz):=⟨rfl,rfl,rfl,by decide +kernel,rfl,by decide +kernel,by decide +kernel⟩
theorem zGb {f:Addr} {fd:FuncData} (F:Fun K "check_job" "check_job" zCz f fd) (T:Txt K mg) (C_is_one_of:Cal P w K mg base "is_one_of" 1 ["thing", "names"] zFe):FnOk P w K mg base CX0 2 f fd ["names", "thing"] zFx:=by
 refine F.ok zGa (fun vs H Q E h=>?_) (fun cdv A outer s H vs Q E hr h=>?_)
 ·obtain ⟨x,l,ns,rfl,_⟩:=h
  rfl
 ·obtain ⟨x,l,ns,rfl,hl,hx,k⟩:=h
  have HR_is_one_of:=hr
  refine ⟨_,(zAd (zA2 (zC2 (zBi (zAi C_is_one_of HR_is_one_of rfl (zAa (pv 1) (zAa (pv 0) zAb)))))
    (zAd zDz)
    zAm)),?_⟩
  refine ⟨_,rfl,_,rfl,x,l,ns,rfl,hl,?_⟩
  rw [decide_eq_true hx]
  exact ⟨_,rfl,iteF k⟩
end
abbrev dT1 (ns:List Str) (g:Str->V):List (Key×V):=ns.map fun n=>(Sum.inr n,g n)
theorem zCy (g:Str->V) (x:Str):∀ns:List Str,valV (dT1 ns g) (.inr x)=if x∈ns then some (g x) else none
 | []=>rfl
 | n::r=>by
  by_cases e:n=x
  ·subst e
   have h1:valV (dT1 (n::r) g) (.inr n)=some (g n):=zGf rfl
   rw [h1];simp
  ·have h1:valV (dT1 (n::r) g) (.inr x)=valV (dT1 r g) (.inr x):=zGg fun z=>e (Sum.inr.inj z)
   rw [h1,zCy g x r]
   have e':¬x=n:=fun z=>e z.symm
   simp [e']
theorem zGy {g:Str->V} {ns:List Str} {x:Str} (v:V) (h:x∉ns):putK (dT1 ns g) (.inr x) v=dT1 ns g++[(.inr x,v)]:=putK_new v (by rw [zCy];simp [h])
theorem zAl {α:Type} {xs:List α} {i:Nat} {x:α} (h:xs[i]?=some x):xs.take (i+1)=xs.take i++[x]:=by rw [List.take_succ,h];rfl
theorem zBn {ns:List Str} {i:Nat} {v:V} (h:(ns.map V.str)[i]?=some v):∃n,ns[i]?=some n/\v= .str n:=by
 rw [List.getElem?_map] at h
 obtain ⟨n,e,r⟩:=Option.map_eq_some_iff.mp h
 exact ⟨n,e,r.symm⟩
theorem zFo {α:Type} {xs:List α} (h:xs.Nodup) {i:Nat} {x:α} (e:xs[i]?=some x):x∉xs.take i:=fun z=>by
 obtain ⟨hi,rfl⟩:=List.getElem?_eq_some_iff.mp e
 obtain ⟨j,hj,e2⟩:=List.mem_iff_getElem.mp z
 rw [List.length_take] at hj
 rw [List.getElem_take] at e2
 have:=(List.getElem_inj h).mp e2
 omega
section
variable {P:Program} {w:World} {K:PySem.W.Frag} {mg:Str->Option Value} {base:Heap}
def zC7:Sp:=fun vs H Q _=>∃(l:Addr) (ns:List Str),vs=[.ref l]/\Txs H l ns/\ns.length<=20/\(∀n∈ns,zBa n)/\ns.Nodup/\∀H',Kp [] H H'->Q .non H'
abbrev zB7:Stmt:=top 27
theorem zAv:FnScope ["names", "thing", "seen", "name"] ["names"] (zAe zB7):=⟨rfl,rfl,rfl,by decide +kernel,rfl,by decide +kernel,by decide +kernel⟩
theorem zHu {f:Addr} {fd:FuncData} (F:Fun K "check_names" "check_names" zB7 f fd) (T:Txt K mg) (C_is_name:Cal P w K mg base "is_name" 1 ["thing"] zEi):FnOk P w K mg base CX0 2 f fd ["names"] zC7:=by
 refine F.ok zAv (fun vs H Q E h=>?_) (fun cdv A outer s H vs Q E hr h=>?_)
 ·obtain ⟨l,ns,rfl,_⟩:=h
  rfl
 ·obtain ⟨l,ns,rfl,hl,hn,hN,hD,k⟩:=h
  have HR_is_name:=hr
  have hu:=hu_of hr
  obtain ⟨tM,hM⟩:=T.c_MOST_JOBS
  refine ⟨_,(zAc (zA2 (zAr op_gt (zAf zAp (by rfl) T.z_len zBv (zAa (pv 0) zAb)) (zA4 rfl hM (v:=.int 20) ⟨_,rfl⟩) (zAt _))
    (zAd zDz)
    zAm)
   (zAc (zBb PassesOwn.never rfl (zAx (pv 0)) (zAk (i:=1) zAv.nd rfl (by walk_at "lc"))
    (zAd (zA2 (zC2 (zBi (zAi C_is_name HR_is_name rfl (zAa (pv 1) zAb))))
     (zAd zDz)
     zAm)))
   (zAc (zAn (i:=2) zAv.nd rfl (by walk_at "lc") zEm)
   (zAd (zBb PassesOwn.never rfl (zAx (pv 0)) (zAk (i:=3) zAv.nd rfl (by walk_at "lc"))
    (zAc (zA2 (pt_cmp (pc_din hu (pv 3) (pv 2)))
     (zAd zDz)
     zAm)
    (zAd (zG0 hu (pv 2) (pv 3) pe_bl rfl)))))))),?_⟩
  refine ⟨_,rfl,_,_,rfl,.inl (SqL.of hl),_,_,rfl,rfl,_,rfl,?_⟩
  rw [decide_eq_false (by rw [List.length_map];omega)]
  refine iteF ?_
  refine ⟨_,rfl,_,rfl,⟨_,SqL.of hl⟩,zBk (fun i σ H2=>(∃o1 o2 o3:Option V,σ=[some (.ref l),o1,o2,o3])/\Kp [] H H2) ⟨⟨_,_,_,rfl⟩,Kp.refl⟩ (fun i σ H2 _ ⟨_,k2⟩=>SqL.of (k2 l _ hl (by simp))) ?_ ?_⟩
  ·rintro i v σ H2 hv ⟨⟨o1,o2,o3,rfl⟩,k2⟩
   obtain ⟨n,en,rfl⟩:=zBn hv
   have nn:=hN n (List.mem_of_getElem? en)
   refine ⟨_,rfl,n,rfl,by have:=nn.2.1;omega,fun H3 k3=>?_⟩
   rw [(zFq n).mpr nn]
   exact ⟨_,rfl,iteF ⟨⟨_,_,_,rfl⟩,k2.trans k3⟩⟩
  ·rintro σ H2 ⟨⟨o1,o2,o3,rfl⟩,k2⟩
   have hl2:Txs H2 l ns:=k2 l _ hl (by simp)
   refine fun d hd=>?_
   have fd:Fre H2 d:=hd
   have fdH:Fre H d:=k2.fre fd (by simp)
   refine ⟨_,rfl,_,rfl,⟨_,SqL.of ((Kp.new (M:=[]) Kp.refl fd) l _ hl2 (by simp))⟩,zBk (fun i σ H3=>(∃o1 o3:Option V,σ=[some (.ref l),o1,some (.ref d),o3])/\Kp [] H H3/\H3 d=some (.dK (dT1 (ns.take i) fun _=>.bl true))) ⟨⟨_,_,rfl⟩,Kp.new k2 fdH,upd_same⟩ (fun i σ H3 _ ⟨_,k3,_⟩=>SqL.of (k3 l _ hl (by simp))) ?_ ?_⟩
   ·rintro i v σ H3 hv ⟨⟨o1,o3,rfl⟩,k3,h3⟩
    obtain ⟨n,en,rfl⟩:=zBn hv
    have ni:=zFo hD en
    refine ⟨_,rfl,_,rfl,_,_,rfl,DGet.k (k:=Sum.inr n) h3,_,rfl,?_⟩
    rw [zCy,if_neg ni]
    refine iteF ?_
    refine ⟨_,rfl,_,rfl,_,_,rfl,DPut.k (k:=Sum.inr n) h3 ?_,?_⟩
    ·rw [List.length_map,List.length_take,sizeLine_eq];omega
    ·refine ⟨⟨_,_,rfl⟩,Kp.new k3 fdH,?_⟩
     rw [upd_same,zGy _ ni,zAl en]
     unfold dT1
     rw [List.map_append];rfl
   ·rintro σ H3 ⟨⟨o1,o3,rfl⟩,k3,h3⟩
    exact k H3 k3
end
theorem zEw {qs:List (List Str×Addr)} {i:Nat} {v:V} (h:(qs.map fun q=>V.ref q.2)[i]?=some v):∃q,qs[i]?=some q/\v= .ref q.2:=by
 rw [List.getElem?_map] at h
 obtain ⟨n,e,r⟩:=Option.map_eq_some_iff.mp h
 exact ⟨n,e,r.symm⟩
theorem Ords.kp {M:List Addr} {H H':Hp} {l:Addr} {qs:List (List Str×Addr)} (o:Ords H l qs) (k:Kp M H H') (h1:l∉M) (h2:∀q∈qs,q.2∉M):Ords H' l qs:=⟨k l _ o.top h1,fun q hq=>k _ _ (o.row q hq) (h2 q hq),o.two⟩
section
variable {P:Program} {w:World} {K:PySem.W.Frag} {mg:Str->Option Value} {base:Heap}
def zD4:Sp:=fun vs H Q _=>∃(l m:Addr) (ns:List Str) (qs:List (List Str×Addr)),vs=[.ref l,.ref m]/\Txs H l ns/\Ords H m qs/\(∀q∈qs,∀x∈q.1,x∈ns)/\Q .non H
abbrev zCv:Stmt:=top 28
theorem zBe:FnScope ["names", "orders", "order", "part"] ["names", "orders"] (zAe zCv):=⟨rfl,rfl,rfl,by decide +kernel,rfl,by decide +kernel,by decide +kernel⟩
theorem zHt {f:Addr} {fd:FuncData} (F:Fun K "check_parts" "check_parts" zCv f fd) (T:Txt K mg) (C_check_job:Cal P w K mg base "check_job" 2 ["names", "thing"] zFx):FnOk P w K mg base CX0 3 f fd ["names", "orders"] zD4:=by
 refine F.ok zBe (fun vs H Q E h=>?_) (fun cdv A outer s H vs Q E hr h=>?_)
 ·obtain ⟨l,m,ns,qs,rfl,_⟩:=h
  rfl
 ·obtain ⟨l,m,ns,qs,rfl,hl,hm,hq,k⟩:=h
  have HR_check_job:=hr
  refine ⟨_,(zAd (zBb PassesOwn.never rfl (zAx (pv 1)) (zAk (i:=2) zBe.nd rfl (by walk_at "lc"))
    (zAd (zBb PassesOwn.never rfl (pi_tup (pv 2)) (zAk (i:=3) zBe.nd rfl (by walk_at "lc"))
     (zAd (zA3 (zAi C_check_job HR_check_job rfl (zAa (pv 0) (zAa (pv 3) zAb))))))))),?_⟩
  refine ⟨_,rfl,_,rfl,⟨_,SqL.of hm.top⟩,zBk (fun i σ H2=>(∃o2 o3:Option V,σ=[some (.ref l),some (.ref m),o2,o3])/\H2=H) ⟨⟨_,_,rfl⟩,rfl⟩ (fun i σ H2 _ ⟨_,e⟩=>by subst e;exact SqL.of hm.top) ?_ ?_⟩
  ·rintro i v σ H2 hv ⟨⟨o2,o3,rfl⟩,rfl⟩
   obtain ⟨q,eq,rfl⟩:=zEw hv
   have mq:=List.mem_of_getElem? eq
   refine ⟨_,rfl,_,rfl,⟨_,.inl (.inl (hm.row q mq))⟩,for_tup (fun j σ H3=>(∃o3:Option V,σ=[some (.ref l),some (.ref m),some (.ref q.2),o3])/\H3=H2) ⟨⟨_,rfl⟩,rfl⟩ (fun j σ H3 _ ⟨_,e⟩=>by subst e;exact .inl (.inl (hm.row q mq))) ?_ ?_⟩
   ·rintro j v σ H3 hv ⟨⟨o3,rfl⟩,rfl⟩
    obtain ⟨x,ex,rfl⟩:=zBn hv
    exact ⟨_,rfl,_,rfl,x,l,ns,rfl,hl,hq q mq x (List.mem_of_getElem? ex),⟨_,rfl⟩,rfl⟩
   ·rintro σ H3 ⟨⟨o3,rfl⟩,rfl⟩
    exact ⟨⟨_,_,rfl⟩,rfl⟩
  ·rintro σ H2 ⟨⟨o2,o3,rfl⟩,rfl⟩
   exact k
end
def fst (q:List Str×Addr):Str:=q.1.getD 0 Str.empty
def snd (q:List Str×Addr):Str:=q.1.getD 1 Str.empty
def told (qs:List (List Str×Addr)) (n:Str):List Str:=(qs.filter fun q=>decide (snd q=n)).map fst
theorem told_snoc (qs:List (List Str×Addr)) (q:List Str×Addr) (n:Str):told (qs++[q]) n=if snd q=n then told qs n++[fst q] else told qs n:=by
 unfold told
 rw [List.filter_append]
 by_cases e:snd q=n
 ·rw [if_pos e];simp [e]
 ·rw [if_neg e];simp [e]
theorem told_len (qs:List (List Str×Addr)) (n:Str):(told qs n).length<=qs.length:=by
 unfold told
 rw [List.length_map];exact List.length_filter_le _ _
structure DL (H0 H:Hp) (d:Addr) (ns:List Str) (la:Str->Addr) (f:Str->List Str):Prop where
 top:H d=some (.dK (dT1 ns fun n=>.ref (la n)))
 row:∀n∈ns,Txs H (la n) (f n)
 ne:∀n∈ns,la n≠d
 inj:∀n∈ns,∀m∈ns,la n=la m->n=m
 fr:Fre H0 d
 frs:∀n∈ns,Fre H0 (la n)
theorem dT1_congr {ns:List Str} {g g':Str->V} (h:∀n∈ns,g n=g' n):dT1 ns g=dT1 ns g':=List.map_congr_left fun n hn=>by rw [h n hn]
section
variable {P:Program} {w:World} {K:PySem.W.Frag} {mg:Str->Option Value} {base:Heap}
def zEz:Sp:=fun vs H Q _=>∃(l m:Addr) (ns:List Str) (qs:List (List Str×Addr)),vs=[.ref l,.ref m]/\Txs H l ns/\Ords H m qs/\ns.Nodup/\ns.length<=20/\qs.length<=4096/\(∀q∈qs,∀x∈q.1,x∈ns) /\
 ∀d la H',DL H H' d ns la (told qs)->Kp [] H H'->Q (.ref d) H'
abbrev zD5:Stmt:=top 30
theorem zB5:FnScope ["names", "orders", "told", "name", "one", "other"] ["names", "orders"] (zAe zD5):=⟨rfl,rfl,rfl,by decide +kernel,rfl,by decide +kernel,by decide +kernel⟩
theorem zI5 {f:Addr} {fd:FuncData} (F:Fun K "told_ahead" "told_ahead" zD5 f fd):FnOk P w K mg base CX0 1 f fd ["names", "orders"] zEz:=by
 refine F.ok zB5 (fun vs H Q E h=>?_) (fun cdv A outer s H vs Q E hr h=>?_)
 ·obtain ⟨l,m,ns,qs,rfl,_⟩:=h
  rfl
 ·obtain ⟨l,m,ns,qs,rfl,hl,hm,hN,hn,hz,hq,k⟩:=h
  have hu:=hu_of hr
  refine ⟨_,(zAc (zAn (i:=2) zB5.nd rfl (by walk_at "lc") zEm)
   (zAc (zBb PassesOwn.never rfl (zAx (pv 0)) (zAk (i:=3) zB5.nd rfl (by walk_at "lc"))
    (zAd (zG0 hu (pv 2) (pv 3) (zBo zAb) rfl)))
   (zAc (zBb PassesOwn.never rfl (zAx (pv 1)) (pg_tup rfl (zA8 (zAk (i:=4) zB5.nd rfl (by walk_at "lc")) (zA8 (zAk (i:=5) zB5.nd rfl (by walk_at "lc")) zD9)))
    (zAd (zA3 (zDm PySem.F.plainAttrs_list PySem.F.slot_list_append PySem.F.type_list_append zC4 (zG1 hu (pv 2) (pv 5) (fun _ _=>rfl)) (zAa (pv 4) zAb)))))
   (zAd (zAq (pv 2)))))),?_⟩
  refine fun d hd=>?_
  have fd:Fre H d:=hd
  refine ⟨_,rfl,_,rfl,⟨_,SqL.of ((Kp.new (M:=[]) Kp.refl fd) l _ hl (by simp))⟩,zBk (fun i σ H2=>(∃o3 o4 o5:Option V,σ=[some (.ref l),some (.ref m),some (.ref d),o3,o4,o5])/\Kp [] H H2/\∃la,DL H H2 d (ns.take i) la fun _=>[])
   ⟨⟨_,_,_,rfl⟩,Kp.new Kp.refl fd,fun _=>0,upd_same,(fun n h=>nomatch h),(fun n h=>nomatch h),(fun n h=>nomatch h),fd,(fun n h=>nomatch h)⟩ (fun i σ H2 _ ⟨_,k2,_⟩=>SqL.of (k2 l _ hl (by simp))) ?_ ?_⟩
  ·rintro i v σ H2 hv ⟨⟨o3,o4,o5,rfl⟩,k2,la,D⟩
   obtain ⟨n,en,rfl⟩:=zBn hv
   have ni:=zFo hN en
   refine ⟨(by walk_at "ln"),fun b hb=>?_⟩
   have fb:Fre H2 b:=hb
   have ndb:d≠b:=ne_fre fb D.top
   have fbH:Fre H b:=k2.fre fb (by simp)
   refine ⟨_,rfl,_,rfl,_,_,rfl,DPut.k (k:=Sum.inr n) ((upd_ne ndb).trans D.top) ?_,?_⟩
   ·rw [List.length_map,List.length_take,sizeLine_eq];omega
   ·have nlb:∀x∈ns.take i,la x≠b:=fun x hx=>ne_fre fb (D.row x hx)
    refine ⟨⟨_,_,_,rfl⟩,Kp.new (Kp.new k2 fbH) fd,fun x=>if x=n then b else la x,?_,fun x hx=>?_,fun x hx=>?_,fun x hx y hy e=>?_,fd,fun x hx=>?_⟩
    ·rw [upd_same,zGy _ ni,zAl en]
     have:dT1 (ns.take i) (fun n=>V.ref (la n))=dT1 (ns.take i) (fun x=>V.ref (if x=n then b else la x)):=dT1_congr fun x hx=>by rw [if_neg fun (z:x=n)=>ni (z▸hx)]
     rw [this]
     unfold dT1
     rw [List.map_append]
     simp
    ·rw [zAl en] at hx
     by_cases z:x=n
     ·rw [if_pos z]
      exact (upd_ne ndb.symm).trans upd_same
     ·rw [if_neg z]
      have hx':x∈ns.take i:=by
       rcases List.mem_append.mp hx with y| y
       ·exact y
       ·exact absurd (List.mem_singleton.mp y) z
      exact (upd_ne (D.ne x hx')).trans ((upd_ne (nlb x hx')).trans (D.row x hx'))
    ·rw [zAl en] at hx
     by_cases z:x=n
     ·rw [if_pos z];exact ndb.symm
     ·rw [if_neg z]
      rcases List.mem_append.mp hx with y| y
      ·exact D.ne x y
      ·exact absurd (List.mem_singleton.mp y) z
    ·rw [zAl en] at hx hy
     have mem:∀x,x∈ns.take i++[n]->x≠n->x∈ns.take i:=fun x hx z=>by
      rcases List.mem_append.mp hx with y| y
      ·exact y
      ·exact absurd (List.mem_singleton.mp y) z
     by_cases z:x=n
     ·by_cases z':y=n
      ·rw [z,z']
      ·rw [if_pos z,if_neg z'] at e
       exact absurd e.symm (nlb y (mem y hy z'))
     ·by_cases z':y=n
      ·rw [if_neg z,if_pos z'] at e
       exact absurd e (nlb x (mem x hx z))
      ·rw [if_neg z,if_neg z'] at e
       exact D.inj x (mem x hx z) y (mem y hy z') e
    ·rw [zAl en] at hx
     by_cases z:x=n
     ·rw [if_pos z];exact fbH
     ·rw [if_neg z]
      rcases List.mem_append.mp hx with y| y
      ·exact D.frs x y
      ·exact absurd (List.mem_singleton.mp y) z
  ·rintro σ H2 ⟨⟨o3,o4,o5,rfl⟩,k2,la,D⟩
   have eN:ns.take (ns.map V.str).length=ns:=by rw [List.length_map,List.take_length]
   rw [eN] at D
   refine ⟨_,rfl,_,rfl,⟨_,SqL.of (k2 m _ hm.top (by simp))⟩,zBk (fun i σ H3=>(∃o3 o4 o5:Option V,σ=[some (.ref l),some (.ref m),some (.ref d),o3,o4,o5])/\Kp [] H H3/\DL H H3 d ns la (told (qs.take i)))
    ⟨⟨_,_,_,rfl⟩,k2,D⟩ (fun i σ H3 _ ⟨_,k3,_⟩=>SqL.of (k3 m _ hm.top (by simp))) ?_ ?_⟩
   ·rintro i v σ H3 hv ⟨⟨o3,o4,o5,rfl⟩,k3,D⟩
    obtain ⟨q,eq,rfl⟩:=zEw hv
    have mq:=List.mem_of_getElem? eq
    obtain ⟨a,b,eab⟩:=hm.two q mq
    have hrow:H3 q.2=some (.tup [.str a,.str b]):=by
     have:=k3 q.2 _ (hm.row q mq) (by simp)
     rw [eab] at this;exact this
    have hb:b∈ns:=hq q mq b (by rw [eab];simp)
    have esnd:snd q=b:=by unfold snd;rw [eab];rfl
    have efst:fst q=a:=by unfold fst;rw [eab];rfl
    refine ⟨_,_,rfl,.inl (.inl hrow),rfl,_,_,rfl,_,_,rfl,rfl,?_⟩
    refine ⟨_,rfl,_,rfl,_,.ref (la b),rfl,?_,.inl ⟨rfl,_,SqL.of (D.row b hb)⟩,_,rfl,_,_,_,rfl,rfl,D.row b hb,?_,?_⟩
    ·have:=DGet.k (k:=Sum.inr b) D.top
     rw [zCy,if_pos hb] at this;exact this
    ·have:=told_len (qs.take i) b
     rw [List.length_take] at this
     rw [List.length_map,sizeLine_eq];omega
    ·refine ⟨⟨_,_,_,rfl⟩,Kp.new k3 (D.frs b hb),?_⟩
     rw [zAl eq]
     refine ⟨(upd_ne (D.ne b hb).symm).trans D.top,fun x hx=>?_,D.ne,D.inj,D.fr,D.frs⟩
     show upd H3 (la b) _ (la x)=some (.lst ((told (qs.take i++[q]) x).map V.str))
     rw [told_snoc,esnd,efst]
     by_cases z:b=x
     ·subst z
      rw [if_pos rfl,upd_same,List.map_append];rfl
     ·rw [if_neg z,upd_ne fun y=>z (D.inj b hb x hx y.symm)]
      exact D.row x hx
   ·rintro σ H3 ⟨⟨o3,o4,o5,rfl⟩,k3,D⟩
    have eQ:qs.take (qs.map fun q=>V.ref q.2).length=qs:=by rw [List.length_map,List.take_length]
    rw [eQ] at D
    exact ⟨_,rfl,k d la H3 D k3⟩
end
def addA (A:List Str) (x:Str):List Str:=if x∈A then A else A++[x]
theorem mem_addA {A:List Str} {x y:Str}:y∈addA A x↔y∈A\/y=x:=by
 unfold addA
 by_cases h:x∈A
 ·rw [if_pos h]
  exact ⟨.inl,fun z=>z.elim id fun e=>e▸h⟩
 ·rw [if_neg h];simp
theorem zIb {A:List Str} {x:Str} (h:A.Nodup):(addA A x).Nodup:=by
 unfold addA
 by_cases hx:x∈A
 ·rw [if_pos hx];exact h
 ·rw [if_neg hx]
  refine List.nodup_append.mpr ⟨h,by simp,fun a ha b hb=>?_⟩
  rw [List.mem_singleton.mp hb]
  rintro rfl
  exact hx ha
theorem mem_foldA {y:Str}:∀(B A:List Str),y∈B.foldl addA A↔y∈A\/y∈B
 | [],A=>by simp
 | b::B,A=>by
  rw [List.foldl_cons,mem_foldA B (addA A b),mem_addA,List.mem_cons,or_assoc]
theorem zG5:∀(B A:List Str),A.Nodup->(B.foldl addA A).Nodup
 | [],A,h=>h
 | b::B,A,h=>zG5 B _ (zIb h)
def zCb (S:Str->List Str) (ms:List Str):List Str:=ms.foldl (fun A m=>(S m).foldl addA (addA A m)) []
theorem joinA_snoc (S:Str->List Str) (ms:List Str) (m:Str):zCb S (ms++[m])=(S m).foldl addA (addA (zCb S ms) m):=by unfold zCb;rw [List.foldl_append];rfl
theorem zIc {S:Str->List Str} {y:Str}:∀(ms A:List Str),y∈ms.foldl (fun A m=>(S m).foldl addA (addA A m)) A↔y∈A\/y∈ms\/∃m∈ms,y∈S m
 | [],A=>by simp
 | m::ms,A=>by
  rw [List.foldl_cons,zIc ms,mem_foldA,mem_addA]
  constructor
  ·rintro (((h| h)| h)| h| ⟨q,h1,h2⟩)
   ·exact .inl h
   ·exact .inr (.inl (h▸List.mem_cons_self))
   ·exact .inr (.inr ⟨m,List.mem_cons_self,h⟩)
   ·exact .inr (.inl (List.mem_cons_of_mem _ h))
   ·exact .inr (.inr ⟨q,List.mem_cons_of_mem _ h1,h2⟩)
  ·rintro (h| h| ⟨q,h1,h2⟩)
   ·exact .inl (.inl (.inl h))
   ·rcases List.mem_cons.mp h with e| e
    ·exact .inl (.inl (.inr e))
    ·exact .inr (.inl e)
   ·rcases List.mem_cons.mp h1 with e| e
    ·exact .inl (.inr (e▸h2))
    ·exact .inr (.inr ⟨q,e,h2⟩)
theorem zG8 {S:Str->List Str} {ms:List Str} {y:Str}:y∈zCb S ms↔y∈ms\/∃m∈ms,y∈S m:=by
 unfold zCb
 rw [zIc];simp
theorem zGc {S:Str->List Str}:∀(ms A:List Str),A.Nodup->(ms.foldl (fun A m=>(S m).foldl addA (addA A m)) A).Nodup
 | [],A,h=>h
 | m::ms,A,h=>zGc ms _ (zG5 _ _ (zIb h))
theorem zG4 (S:Str->List Str) (ms:List Str):(zCb S ms).Nodup:=zGc ms [] List.nodup_nil
theorem zEx:∀{A B:List Str},A.Nodup->(∀x∈A,x∈B)->A.length<=B.length
 | [],B,_,_=>Nat.zero_le _
 | a::A,B,h,hs=>by
  obtain ⟨h1,h2⟩:=List.nodup_cons.mp h
  have hb:=hs a List.mem_cons_self
  have:=zEx (B:=B.erase a) h2 fun x hx=>(List.mem_erase_of_ne fun e=>h1 (by rw [<-e];exact hx)).mpr (hs x (List.mem_cons_of_mem _ hx))
  rw [List.length_erase_of_mem hb] at this
  have:=List.length_pos_of_mem hb
  rw [List.length_cons];omega
abbrev SetD (H:Hp) (e:Addr) (A:List Str):Prop:=H e=some (.dK (dT1 A fun _=>.bl true))
theorem put_set (A:List Str) (x:Str):putK (dT1 A fun _=>.bl true) (.inr x) (.bl true)=dT1 (addA A x) fun _=>.bl true:=by
 unfold addA
 by_cases h:x∈A
 ·rw [if_pos h]
  unfold putK
  rw [zGh,zCy,if_pos h]
  refine (if_pos (by rfl)).trans ?_
  unfold dT1
  rw [List.map_map]
  refine List.map_congr_left fun y _=>?_
  show (if (Sum.inr y:Key)=Sum.inr x then ((Sum.inr y:Key),V.bl true) else (Sum.inr y,V.bl true))=_
  split<;>rfl
 ·rw [if_neg h,zGy _ h]
  unfold dT1
  rw [List.map_append];rfl
theorem mrg_set:∀(B A:List Str),mrg (dT1 A fun _=>.bl true) (dT1 B fun _=>.bl true)=dT1 (B.foldl addA A) fun _=>.bl true
 | [],A=>rfl
 | b::B,A=>by
  show mrg (putK (dT1 A fun _=>.bl true) (.inr b) (.bl true)) (dT1 B fun _=>.bl true)=_
  rw [put_set,mrg_set B];rfl
section
variable {P:Program} {w:World} {K:PySem.W.Frag} {mg:Str->Option Value} {base:Heap}
def spHasAll:Sp:=fun vs H Q _=>∃(d l:Addr) (kvs:List (Key×V)) (ms:List Str),vs=[.ref d,.ref l]/\H d=some (.dK kvs)/\Txs H l ms/\ms.length<=4096/\∀H',Kp [] H H'->Q (.bl (ms.all fun m=>(valV kvs (.inr m)).isSome)) H'
abbrev zFk:Stmt:=top 31
theorem sc_has_all:FnScope ["done", "names"] ["done", "names"] (zAe zFk):=⟨rfl,rfl,rfl,by decide +kernel,rfl,by decide +kernel,by decide +kernel⟩
theorem ok_has_all {f:Addr} {fd:FuncData} (F:Fun K "has_all" "has_all" zFk f fd) (T:Txt K mg):FnOk P w K mg base CX0 1 f fd ["done", "names"] spHasAll:=by
 refine F.ok sc_has_all (fun vs H Q E h=>?_) (fun cdv A outer s H vs Q E hr h=>?_)
 ·obtain ⟨d,l,kvs,ms,rfl,_⟩:=h
  rfl
 ·obtain ⟨d,l,kvs,ms,rfl,hd,hl,hz,k⟩:=h
  have hu:=hu_of hr
  refine ⟨_,(zAd (zAq (zAf (zD2 _ rfl) (by rfl) T.z_all zHk (zAa (zBz rfl (zB4 (sc:=zAe zFk) rfl (by decide +kernel)) (Draws.own (x:= "name") (Draws.tk (i:=0) rfl (by walk_at "vs") (by walk_at "vk") (by walk_at "vf") Draws.nil)) (zAx (pv 1)) (fun C s₀ H₀ ex=>(zAk (i:=0) (show List.Nodup (["name", "done"]:List Str) by decide +kernel) rfl (by walk_at "lc"))) (fun C s₀ H₀ ex=>zB8) (fun C s₀ H₀ ex=>(pe_cmp (pc_din hu (pv 0) (pv 1))))) zAb)))),?_⟩
  refine ⟨_,rfl,_,rfl,⟨_,SqL.of hl⟩,fun D hD=>zBl (ms.map V.str) (fun i ys τ H'=>(∃o0,τ=[o0,some (.ref d)])/\ys=((ms.take i).map fun m=>V.bl (valV kvs (.inr m)).isSome)/\H'=upd H D (.lst ys)) ⟨⟨_,rfl⟩,rfl,rfl⟩ (fun i ys τ H' ⟨_,_,e⟩=>by subst e;exact SqL.of ((upd_ne (ne_fre (show Fre H D from hD) hl)).trans hl)) ?_ ?_⟩
  ·rintro i v ys τ H' hv ⟨⟨o0,rfl⟩,rfl,rfl⟩
   obtain ⟨m,em,rfl⟩:=zBn hv
   refine ⟨_,rfl,_,rfl,_,_,rfl,DGet.k (k:=Sum.inr m) ((upd_ne (ne_fre (show Fre H D from hD) hd)).trans hd),upd_same,?_,⟨_,rfl⟩,?_,zDu⟩
   ·rw [List.length_map,List.length_take,sizeLine_eq];omega
   ·rw [zAl em,List.map_append];rfl
  ·rintro ys τ H' ⟨_,rfl,rfl⟩
   have eM:ms.take (ms.map V.str).length=ms:=by rw [List.length_map,List.take_length]
   refine ⟨D,ms.map fun m=>(valV kvs (.inr m)).isSome,rfl,SqL.of ?_,?_⟩
   ·rw [upd_same,eM,List.map_map];rfl
   ·rw [List.all_map]
    exact k _ (Kp.new Kp.refl hD)
def spJoined:Sp:=fun vs H Q _=>∃(l d:Addr) (ms D0 ns:List Str) (fa:Str->Addr) (S:Str->List Str),vs=[.ref l,.ref d]/\Txs H l ms/\H d=some (.dK (dT1 D0 fun n=>.ref (fa n)))/\(∀m∈ms,m∈D0/\m∈ns/\SetD H (fa m) (S m)/\∀x∈S m,x∈ns)/\ns.length<=20/\(∀m∈ms,(S m).length<=20) /\
 ∀e H',Fre H e->SetD H' e (zCb S ms)->Kp [] H H'->Q (.ref e) H'
abbrev zI0:Stmt:=top 33
theorem zGx:FnScope ["near", "far", "found", "name"] ["near", "far"] (zAe zI0):=⟨rfl,rfl,rfl,by decide +kernel,rfl,by decide +kernel,by decide +kernel⟩
theorem ok_joined {f:Addr} {fd:FuncData} (F:Fun K "joined" "joined" zI0 f fd):FnOk P w K mg base CX0 1 f fd ["near", "far"] spJoined:=by
 refine F.ok zGx (fun vs H Q E h=>?_) (fun cdv A outer s H vs Q E hr h=>?_)
 ·obtain ⟨l,d,ms,D0,ns,fa,S,rfl,_⟩:=h
  rfl
 ·obtain ⟨l,d,ms,D0,ns,fa,S,rfl,hl,hd,hm,hn,hS,k⟩:=h
  have hu:=hu_of hr
  refine ⟨_,(zAc (zAn (i:=2) zGx.nd rfl (by walk_at "lc") zEm)
   (zAc (zBb PassesOwn.never rfl (zAx (pv 0)) (zAk (i:=3) zGx.nd rfl (by walk_at "lc"))
    (zAc (zG0 hu (pv 2) (pv 3) pe_bl rfl)
    (zAd (zA3 (zDm PySem.F.plainAttrs_dict PySem.F.slot_dict_update PySem.F.type_dict_update mt_dupd (pv 2) (zAa (zG1 hu (pv 1) (pv 3) (fun _ _=>rfl)) zAb))))))
   (zAd (zAq (pv 2))))),?_⟩
  refine fun e he=>?_
  have fe:Fre H e:=he
  have hsub:∀i x,x∈zCb S (ms.take i)->x∈ns:=fun i x hx=>by
   rcases zG8.mp hx with z| ⟨m,z,z'⟩
   ·exact (hm x (List.mem_of_mem_take z)).2.1
   ·exact (hm m (List.mem_of_mem_take z)).2.2.2 x z'
  have hlen:∀i,(zCb S (ms.take i)).length<=20:=fun i=>Nat.le_trans (zEx (zG4 S _) (hsub i)) hn
  refine ⟨_,rfl,_,rfl,⟨_,SqL.of ((Kp.new (M:=[]) Kp.refl fe) l _ hl (by simp))⟩,zBk (fun i σ H2=>(∃o3:Option V,σ=[some (.ref l),some (.ref d),some (.ref e),o3])/\Kp [] H H2/\SetD H2 e (zCb S (ms.take i)))
   ⟨⟨_,rfl⟩,Kp.new Kp.refl fe,upd_same⟩ (fun i σ H2 _ ⟨_,k2,_⟩=>SqL.of (k2 l _ hl (by simp))) ?_ ?_⟩
  ·rintro i v σ H2 hv ⟨⟨o3,rfl⟩,k2,h2⟩
   obtain ⟨m,em,rfl⟩:=zBn hv
   obtain ⟨m1,m2,m3,m4⟩:=hm m (List.mem_of_getElem? em)
   have l2:=hlen i
   refine ⟨_,rfl,_,rfl,_,_,rfl,DPut.k (k:=Sum.inr m) h2 (by rw [List.length_map,sizeLine_eq];omega),?_⟩
   rw [put_set]
   have k3:Kp [] H (upd H2 e (.dK (dT1 (addA (zCb S (ms.take i)) m) fun _=>.bl true))):=Kp.new k2 fe
   have nfa:fa m≠e:=ne_fre fe m3
   refine ⟨_,rfl,.inr (.inr (.inl ⟨rfl,.inl ⟨_,upd_same⟩⟩)),_,rfl,_,rfl,_,.ref (fa m),rfl,?_,_,fa m,_,_,rfl,rfl,upd_same,k3 _ _ m3 (by simp),nfa.symm,?_,?_⟩
   ·have:=DGet.k (k:=Sum.inr m) (k3 d _ hd (by simp))
    rw [zCy,if_pos m1] at this;exact this
   ·have:=hS m (List.mem_of_getElem? em)
    rw [List.length_map,List.length_map,sizeLine_eq]
    have:(addA (zCb S (ms.take i)) m).length<=(zCb S (ms.take i)).length+1:=by
     unfold addA
     split
     ·omega
     ·rw [List.length_append];exact Nat.le_refl _
    omega
   ·rw [mrg_set]
    refine ⟨⟨_,rfl⟩,Kp.new k3 fe,?_⟩
    rw [zAl em,joinA_snoc]
    exact upd_same
  ·rintro σ H2 ⟨⟨o3,rfl⟩,k2,h2⟩
   have eM:ms.take (ms.map V.str).length=ms:=by rw [List.length_map,List.take_length]
   rw [eM] at h2
   exact ⟨_,rfl,k e H2 fe h2 k2⟩
end
structure Fp (H0 H:Hp) (e:Addr) (ns D:List Str) (fa:Str->Addr) (S f:Str->List Str):Prop where
 top:H e=some (.dK (dT1 D fun n=>.ref (fa n)))
 nd:D.Nodup
 sub:∀n∈D,n∈ns
 row:∀n∈D,SetD H (fa n) (S n)
 snd:∀n∈D,(S n).Nodup
 sns:∀n∈D,∀x∈S n,x∈ns
 mem:∀n∈D,∀x,x∈S n↔x∈f n\/∃m∈f n,x∈S m
 cl:∀n∈D,∀x∈f n,x∈D
 ne:∀n∈D,fa n≠e
 fr:Fre H0 e
 frs:∀n∈D,Fre H0 (fa n)
theorem Fp.kp {H0 H H':Hp} {e:Addr} {ns D:List Str} {fa:Str->Addr} {S f:Str->List Str} (F:Fp H0 H e ns D fa S f) (k:Kp [] H H'):Fp H0 H' e ns D fa S f :=
 ⟨k e _ F.top (by simp),F.nd,F.sub,fun n hn=>k _ _ (F.row n hn) (by simp),F.snd,F.sns,F.mem,F.cl,F.ne,F.fr,F.frs⟩
theorem Fp.more {H0 H:Hp} {e b:Addr} {ns D:List Str} {fa:Str->Addr} {S f:Str->List Str} {n:Str} (F:Fp H0 H e ns D fa S f) (hn:n∈ns) (hD:n∉D) (hf:∀x∈f n,x∈D) (hs:∀x∈f n,x∈ns) (hb:SetD H b (zCb S (f n))) (nb:b≠e) (fb:Fre H0 b) :
  Fp H0 (upd H e (.dK (putK (dT1 D fun n=>.ref (fa n)) (.inr n) (.ref b)))) e ns (D++[n]) (fun x=>if x=n then b else fa x) (fun x=>if x=n then zCb S (f n) else S x) f:=by
 have hx:∀x∈D,¬x=n:=fun x h z=>hD (z▸h)
 have cs:∀x,x∈D++[n]->x∈D\/x=n:=fun x h=>by
  rcases List.mem_append.mp h with z| z
  ·exact .inl z
  ·exact .inr (List.mem_singleton.mp z)
 have eqS:∀{x},x∈D->(if x=n then zCb S (f n) else S x)=S x:=fun {x} h=>if_neg (hx x h)
 have eqn:(if n=n then zCb S (f n) else S n)=zCb S (f n):=if_pos rfl
 refine ⟨?_,?_,fun x h=>?_,fun x h=>?_,fun x h=>?_,fun x h y hy=>?_,fun x h y=>?_,fun x h y hy=>?_,fun x h=>?_,F.fr,fun x h=>?_⟩
 ·rw [upd_same,zGy _ hD]
  have:dT1 D (fun n=>V.ref (fa n))=dT1 D (fun x=>V.ref (if x=n then b else fa x)):=dT1_congr fun x h=>by rw [if_neg (hx x h)]
  rw [this]
  unfold dT1
  rw [List.map_append];simp
 ·refine List.nodup_append.mpr ⟨F.nd,by simp,fun a ha c hc=>?_⟩
  rw [List.mem_singleton.mp hc]
  exact hx a ha
 ·rcases cs x h with z| z
  ·exact F.sub x z
  ·rw [z];exact hn
 ·rcases cs x h with z| z
  ·show upd H e _ (if x=n then b else fa x)=some (.dK (dT1 (if x=n then zCb S (f n) else S x) fun _=>.bl true))
   rw [if_neg (hx x z),if_neg (hx x z),upd_ne (F.ne x z)];exact F.row x z
  ·subst z
   show upd H e _ (if x=x then b else fa x)=some (.dK (dT1 (if x=x then zCb S (f x) else S x) fun _=>.bl true))
   rw [if_pos rfl,if_pos rfl,upd_ne nb];exact hb
 ·rcases cs x h with z| z
  ·show (if x=n then zCb S (f n) else S x).Nodup
   rw [eqS z];exact F.snd x z
  ·subst z
   show (if x=x then zCb S (f x) else S x).Nodup
   rw [if_pos rfl];exact zG4 _ _
 ·rcases cs x h with z| z
  ·have hy:y∈(if x=n then zCb S (f n) else S x):=hy
   rw [eqS z] at hy;exact F.sns x z y hy
  ·subst z
   have hy:y∈(if x=x then zCb S (f x) else S x):=hy
   rw [if_pos rfl] at hy
   rcases zG8.mp hy with q| ⟨m,q1,q2⟩
   ·exact hs y q
   ·exact F.sns m (hf m q1) y q2
 ·rcases cs x h with z| z
  ·show y∈(if x=n then zCb S (f n) else S x)↔y∈f x\/∃m∈f x,y∈(if m=n then zCb S (f n) else S m)
   rw [eqS z,F.mem x z y]
   constructor
   ·rintro (q| ⟨m,q1,q2⟩)
    ·exact .inl q
    ·exact .inr ⟨m,q1,by rw [eqS (F.cl x z m q1)];exact q2⟩
   ·rintro (q| ⟨m,q1,q2⟩)
    ·exact .inl q
    ·rw [eqS (F.cl x z m q1)] at q2
     exact .inr ⟨m,q1,q2⟩
  ·subst z
   show y∈(if x=x then zCb S (f x) else S x)↔y∈f x\/∃m∈f x,y∈(if m=x then zCb S (f x) else S m)
   rw [if_pos rfl,zG8]
   constructor
   ·rintro (q| ⟨m,q1,q2⟩)
    ·exact .inl q
    ·exact .inr ⟨m,q1,by rw [eqS (hf m q1)];exact q2⟩
   ·rintro (q| ⟨m,q1,q2⟩)
    ·exact .inl q
    ·rw [eqS (hf m q1)] at q2
     exact .inr ⟨m,q1,q2⟩
 ·rcases cs x h with z| z
  ·exact List.mem_append_left _ (F.cl x z y hy)
  ·subst z
   exact List.mem_append_left _ (hf y hy)
 ·rcases cs x h with z| z
  ·show (if x=n then b else fa x)≠e
   rw [if_neg (hx x z)];exact F.ne x z
  ·subst z
   show (if x=x then b else fa x)≠e
   rw [if_pos rfl];exact nb
 ·rcases cs x h with z| z
  ·show Fre H0 (if x=n then b else fa x)
   rw [if_neg (hx x z)];exact F.frs x z
  ·subst z
   show Fre H0 (if x=x then b else fa x)
   rw [if_pos rfl];exact fb
theorem zHh {α:Type} {p:α->Bool} {x:α}:∀{L:List α},x∈L->p x=false->(L.filter p).length<L.length
 | a::L,h,hp=>by
  rcases List.mem_cons.mp h with z| z
  ·subst z
   rw [List.filter_cons,if_neg (by rw [hp];decide),List.length_cons]
   exact Nat.lt_succ_of_le (List.length_filter_le _ _)
  ·have:=zHh z hp
   rw [List.filter_cons,List.length_cons]
   split
   ·rw [List.length_cons];omega
   ·omega
theorem has_dT1 (D:List Str) (g:Str->V) (x:Str):(valV (dT1 D g) (.inr x)).isSome=decide (x∈D):=by
 rw [zCy]
 by_cases h:x∈D
 ·rw [if_pos h,decide_eq_true h];rfl
 ·rw [if_neg h,decide_eq_false h];rfl
section
variable {P:Program} {w:World} {K:PySem.W.Frag} {mg:Str->Option Value} {base:Heap}
abbrev zC0:Stmt:=top 32
theorem zB2:FnScope ["names", "told", "far", "left", "free", "name"] ["names", "told"] (zAe zC0):=⟨rfl,rfl,rfl,by decide +kernel,rfl,by decide +kernel,by decide +kernel⟩
def leftN (σ:St) (H:Hp):Nat:=match (σ[3]?:Option (Option V)) with
 | some (some (.ref a))=>match H a with
  | some (.lst xs)=>xs.length
  | _=>0
 | _=>0
end
def jf (r p e:Addr):List (Str×V):=putF "above" (.ref e) (putF "pairs" (.ref p) (putF "row" (.ref r) []))
theorem jf_row (r p e:Addr):(jf r p e).lookup ("row" : Str)=some (.ref r):=by
 unfold jf
 rw [zAu,if_neg (by decide +kernel),zAu,if_neg (by decide +kernel),zAu,if_pos rfl]
theorem jf_pairs (r p e:Addr):(jf r p e).lookup ("pairs" : Str)=some (.ref p):=by
 unfold jf
 rw [zAu,if_neg (by decide +kernel),zAu,if_pos rfl]
theorem jf_no (r p e:Addr) {m:Str} (h1:¬m= "above") (h2:¬m= "pairs") (h3:¬m= "row"):(jf r p e).lookup m=none:=by
 unfold jf
 rw [zAu,if_neg h1,zAu,if_neg h2,zAu,if_neg h3];rfl
structure JC (K:PySem.W.Frag) (mg:Str->Option Value) (C:Addr):Prop where
 cl:Cls K C
 n_row:zDj K C "row"
 n_pairs:zDj K C "pairs"
 n_above:zDj K C "above"
 mgC:mg "Jobs" = some (.ref C)
structure JR where
 dx:Addr
 r:Addr
 p:Addr
 e:Addr
 ns:List Str
 zs:List (List Str×Addr)
 D:List Str
 fa:Str->Addr
 S:Str->List Str
structure JobsAt (C:Addr) (H:Hp) (j:Addr) (J:JR):Prop where
 ob:H j=some (.ins C J.dx (jf J.r J.p J.e))
 row:Txs H J.r J.ns
 prs:Ords H J.p J.zs
 abv:H J.e=some (.dK (dT1 J.D fun n=>.ref (J.fa n)))
 all:∀n∈J.ns,n∈J.D
 sets:∀n∈J.D,SetD H (J.fa n) (J.S n)
 few:J.ns.length<=20
 zfew:J.zs.length<=63
 nd:J.ns.Nodup
 rise:(J.zs.map (·.1)).Pairwise fun a b=>ST.tlt a b=true
 zin:∀q∈J.zs,∀x∈q.1,x∈J.ns
 mem:∀n∈J.ns,∀x,x∈J.S n↔x∈told J.zs n\/∃m∈told J.zs n,x∈J.S m
theorem JobsAt.kp {M:List Addr} {C:Addr} {H H':Hp} {j:Addr} {J:JR} (A:JobsAt C H j J) (k:Kp M H H') (h:∀a o,H a=some o->a∈M->a≠j/\a≠J.r/\a≠J.p/\a≠J.e/\(∀q∈J.zs,a≠q.2)/\∀n∈J.D,a≠J.fa n):JobsAt C H' j J where
 ob:=k _ _ A.ob fun z=>(h _ _ A.ob z).1 rfl
 row:=k _ _ A.row fun z=>(h _ _ A.row z).2.1 rfl
 prs:=⟨k _ _ A.prs.top fun z=>(h _ _ A.prs.top z).2.2.1 rfl,fun q hq=>k _ _ (A.prs.row q hq) fun z=>(h _ _ (A.prs.row q hq) z).2.2.2.2.1 q hq rfl,A.prs.two⟩
 abv:=k _ _ A.abv fun z=>(h _ _ A.abv z).2.2.2.1 rfl
 all:=A.all
 sets:=fun n hn=>k _ _ (A.sets n hn) fun z=>(h _ _ (A.sets n hn) z).2.2.2.2.2 n hn rfl
 few:=A.few
 zfew:=A.zfew
 nd:=A.nd
 rise:=A.rise
 zin:=A.zin
 mem:=A.mem
theorem JobsAt.kp0 {C:Addr} {H H':Hp} {j:Addr} {J:JR} (A:JobsAt C H j J) (k:Kp [] H H'):JobsAt C H' j J:=A.kp k fun _ _ _ z=>nomatch z
section
variable {P:Program} {w:World} {K:PySem.W.Frag} {mg:Str->Option Value} {base:Heap} {C:Addr}
def spNames (C:Addr):Sp:=fun vs H Q _=>∃(j:Addr) (J:JR),vs=[.ref j]/\JobsAt C H j J/\∀l H',Fre H l->Txs H' l J.ns->Kp [] H H'->Q (.ref l) H'
abbrev zD8:Stmt:=zF6 (top 35) 1
theorem zIw:FnScope ["self"] ["self"] (zAe zD8):=⟨rfl,rfl,rfl,by decide +kernel,rfl,by decide +kernel,by decide +kernel⟩
theorem zJc {f:Addr} {fd:FuncData} (F:Fun K "names" "Jobs.names" zD8 f fd) (T:Txt K mg) (U:JC K mg C):FnOk P w K mg base CX0 1 f fd ["self"] (spNames C):=by
 refine F.ok zIw (fun vs H Q E h=>?_) (fun cdv A outer s H vs Q E hr h=>?_)
 ·obtain ⟨j,J,rfl,_⟩:=h
  rfl
 ·obtain ⟨j,J,rfl,A0,k⟩:=h
  refine ⟨_,(zAd (zAq (zAy zCo (by rfl) T.z_list zEh (zAa (pe_fld (pv 0) rfl) zAb)))),?_⟩
  refine ⟨_,rfl,_,_,_,_,_,rfl,A0.ob,U.cl,U.n_row,jf_row _ _ _,_,_,rfl,.inl (SqL.of A0.row),fun l hl=>?_⟩
  exact k l _ hl upd_same (Kp.new Kp.refl hl)
def spOrders (C:Addr):Sp:=fun vs H Q _=>∃(j:Addr) (J:JR),vs=[.ref j]/\JobsAt C H j J/\∀l H',Fre H l->Ords H' l J.zs->Kp [] H H'->Q (.ref l) H'
abbrev zDy:Stmt:=zF6 (top 35) 2
theorem zHr:FnScope ["self"] ["self"] (zAe zDy):=⟨rfl,rfl,rfl,by decide +kernel,rfl,by decide +kernel,by decide +kernel⟩
theorem zHv {f:Addr} {fd:FuncData} (F:Fun K "orders" "Jobs.orders" zDy f fd) (T:Txt K mg) (U:JC K mg C):FnOk P w K mg base CX0 1 f fd ["self"] (spOrders C):=by
 refine F.ok zHr (fun vs H Q E h=>?_) (fun cdv A outer s H vs Q E hr h=>?_)
 ·obtain ⟨j,J,rfl,_⟩:=h
  rfl
 ·obtain ⟨j,J,rfl,A0,k⟩:=h
  refine ⟨_,(zAd (zAq (zAy zCo (by rfl) T.z_list zEh (zAa (pe_fld (pv 0) rfl) zAb)))),?_⟩
  refine ⟨_,rfl,_,_,_,_,_,rfl,A0.ob,U.cl,U.n_pairs,jf_pairs _ _ _,_,_,rfl,.inl (SqL.of A0.prs.top),fun l hl=>?_⟩
  exact k l _ hl ⟨upd_same,fun q hq=>(Kp.new (M:=[]) Kp.refl hl) _ _ (A0.prs.row q hq) (by simp),A0.prs.two⟩ (Kp.new Kp.refl hl)
end
section
variable {P:Program} {w:World} {K:PySem.W.Frag} {mg:Str->Option Value} {base:Heap} {C:Addr}
theorem zJk {α:Type} {p:α->Bool} {xs:List α} {i:Nat} {x:α} (e:xs[i]?=some x) (h:p x=true):(xs.take (i+1)).filter p=(xs.take i).filter p++[x]:=by
 rw [zAl e,List.filter_append,List.filter_cons,if_pos h];rfl
theorem filt_no {α:Type} {p:α->Bool} {xs:List α} {i:Nat} {x:α} (e:xs[i]?=some x) (h:¬p x=true):(xs.take (i+1)).filter p=(xs.take i).filter p:=by
 rw [zAl e,List.filter_append,List.filter_cons,if_neg h];simp
theorem zJl {α:Type} {p:α->Bool} {xs:List α} {i:Nat} (h:xs.length<=4096):(((xs.take i).filter p)).length<sizeLine:=by
 have h1:=List.length_filter_le p (xs.take i)
 rw [List.length_take] at h1
 rw [sizeLine_eq];omega
end
end My
namespace Tim
open PySem PyProof.Rows
section
variable {prog:Program} {w:World} {A:Around} {E:Value->Shared->Prop} {s:Shared} {kd:SortKind} {κ:KeyKind} {a₀:Array Keyed}
theorem w_sortS {st:SortSt} {Q:Unit->SortSt->Prop} (C:CmpOk prog w A s kd κ) (ha:∀x∈a₀.toList,Has κ x) (hk:kindOf st=kd) (hf:failedOf st=none) (hp:(arrOf st).Perm a₀) (hpn:pendingOf st=#[]) (h1:1<=a₀.size) (h64:a₀.size<64)
  (h:∀st',failedOf st'=none->(arrOf st').Perm a₀->Srt κ (arrOf st').toList->Q () st'):wpS (model prog w) A E s sortRuns' Q st:=by
 have hz:(arrOf st).size=a₀.size:=hp.size_eq
 have mr:∀n,n<64->minRun' n n 0=n:=by decide +kernel
 refine wpS_bind (wpS_get ?_)
 refine wpS_bind (wpS_mono (wpS_forRange (I:=fun x c st'=>(c=((none,0):Option Unit×Nat)/\x=0/\st'=st)\/(c=(none,a₀.size)/\(pendingOf st').size<=1/\failedOf st'=none/\(arrOf st').Perm a₀/\Srt κ (arrOf st').toList))
  (Q:=fun c st'=>c=((none,a₀.size):Option Unit×Nat)/\(pendingOf st').size<=1/\failedOf st'=none/\(arrOf st').Perm a₀/\Srt κ (arrOf st').toList) ?step ?fin (.inl ⟨rfl,rfl,rfl⟩)) ?post)
 case fin =>
  rintro c st' (⟨_,z,_⟩| z)
  ·have:max 0 (arrOf st).size=0:=z
   omega
  ·exact z
 case step =>
  rintro x c st1 _ hx (⟨rfl,rfl,rfl⟩| ⟨rfl,z⟩)
  ·show wpS _ _ _ _ (if 0>=(arrOf st1).size then _ else _) _ _
   rw [if_neg (by omega)]
   have al:All κ st1:=fun x hx=>ha x ((Array.perm_iff_toList_perm.mp hp).mem_iff.mp hx)
   have fin:∀(n:Nat) (st3:SortSt),n=a₀.size->Fr 0 st1 st3->Up κ st3 0 n->(((none,0+n):Option Unit×Nat)=(none,0)/\0+1=0/\setPending st3 ((pendingOf st3).push (0,n,0))=st1)\/(((none,0+n):Option Unit×Nat)=(none,a₀.size)/\(pendingOf (setPending st3 ((pendingOf st3).push (0,n,0)))).size<=1/\failedOf (setPending st3 ((pendingOf st3).push (0,n,0)))=none/\(arrOf (setPending st3 ((pendingOf st3).push (0,n,0)))).Perm a₀/\Srt κ (arrOf (setPending st3 ((pendingOf st3).push (0,n,0)))).toList):=by
    intro n st3 en f u
    subst en
    have hz3:(arrOf st3).size=a₀.size:=f.size.trans hz
    refine .inr ⟨by rw [Nat.zero_add],?_,f.fl.trans hf,f.perm.trans hp,?_⟩
    ·show ((pendingOf st3).push (0,a₀.size,0)).size<=1
     rw [f.pn,hpn];simp
    ·have q:=(up_srt (κ:=κ) (st:=st3) (lo:=0) (n:=a₀.size) (by omega)).mp u
     unfold seg at q
     rw [List.drop_zero,List.take_of_length_le (by simp;omega)] at q
     exact q
   refine wpS_bind (w_count C hk al (nrem:=(arrOf st1).size - 0) (by omega) (by omega) fun m st2 f2 m1 m2 u2=>?_)
   by_cases c1:m<minRun' (arrOf st1).size (arrOf st1).size 0
   ·refine (show wpS _ _ _ _ (if m<minRun' (arrOf st1).size (arrOf st1).size 0 then _ else _) _ _ from ?_)
    rw [if_pos c1]
    refine wpS_bind (wpS_lift (wpAny_rule ⟨rfl,?_⟩))
    have em:min ((arrOf st1).size - 0) (minRun' (arrOf st1).size (arrOf st1).size 0)=a₀.size:=by rw [mr _ (by omega)];omega
    refine wpS_bind (w_ins (n:=min ((arrOf st1).size - 0) (minRun' (arrOf st1).size (arrOf st1).size 0)) C (f2.kd.trans hk) (al.fr f2) (by rw [f2.size];omega) (by omega) m1 u2 fun st3 f3 u3=>?_)
    show wpS _ _ _ _ (if false=true then _ else _) _ _
    rw [if_neg (by decide)]
    refine wpS_bind (wpS_get ?_)
    have f13:=f2.trans f3
    rcases hb:(pendingOf st3).back? with _| ⟨s1,q1,t1⟩
    case some=>rw [f13.pn,hpn] at hb;exact nomatch hb
    exact wpS_bind (wpS_modify (wpS_pure (fin _ st3 em f13 u3)))
   ·refine (show wpS _ _ _ _ (if m<minRun' (arrOf st1).size (arrOf st1).size 0 then _ else _) _ _ from ?_)
    rw [if_neg c1]
    rw [mr _ (by omega)] at c1
    refine wpS_bind (wpS_get ?_)
    rcases hb:(pendingOf st2).back? with _| ⟨s1,q1,t1⟩
    case some=>rw [f2.pn,hpn] at hb;exact nomatch hb
    exact wpS_bind (wpS_modify (wpS_pure (fin _ st2 (by omega) f2 u2)))
  ·show wpS _ _ _ _ (if a₀.size>=(arrOf st).size then _ else _) _ _
   rw [if_pos (by omega)]
   exact wpS_pure ⟨rfl,z⟩
 case post =>
  rintro c st1 ⟨rfl,z1,z2,z3,z4⟩
  refine wpS_bind (wpS_mono (wpS_forRange (I:=fun x c st'=>c=(none,())/\st'=st1) (Q:=fun c st'=>c=((none,()):Option Unit×Unit)/\st'=st1) ?s3 ?f3 ⟨rfl,rfl⟩) ?p3)
  case f3=>exact fun c st' h=>h
  case p3 =>
   rintro c st' ⟨rfl,rfl⟩
   exact wpS_pure (h st' z2 z3 z4)
  case s3 =>
   rintro y c st2 _ hy ⟨rfl,rfl⟩
   refine wpS_bind (wpS_get ?_)
   show wpS _ _ _ _ (if (pendingOf st2).size<=1 then _ else _) _ _
   rw [if_pos z1]
   exact wpS_pure ⟨rfl,rfl⟩
end
end Tim
namespace ST
open PySem PyProof.Rows PySem.W
section
variable {prog:Program} {w:World} {A:Around} {E:Value->Shared->Prop} {s:Shared}
theorem w_lsortS {κ:PyProof.Rows.KeyKind} {kd:SortKind} {a:Addr} {vs:List Value} {n:Nat} {P:Fin->Shared->Prop} (ho:s.heap.get? a=some (seqObj "list" vs.toArray n)) (hz:vs.length<64)
  (hS:∀h',(∀b o,b≠a->s.heap.get? b=some o->h'.get? b=some o)->Sortable prog w A κ kd vs {s with heap:=h'})
  (h:∀out:Array Value,out.toList.Perm vs->(out.toList.Pairwise fun x y=>κ.kle ((κ.keyOf x).getD κ.dflt) ((κ.keyOf y).getD κ.dflt))->P (.done (.ret .none)) {s with heap:=sortedHeap s.heap a vs out}) :
  wpAny (model prog w) A (Builtin.«list.sort» ⟨[.ref a],[]⟩) P E s:=by
 rw [list_sort_plain]
 have hsl:(4096:Nat)<=sizeLine:=by decide +kernel
 have ha:a<s.heap.objs.size:=Heap.lt_size ho
 have hsz:vs.toArray.size=vs.length:=by simp
 refine wpAny_bind (listItems_at ho rfl ?_)
 refine wpAny_bind (listUpdate_at ho rfl ?_ (by omega) (Nat.zero_le _))
 have h1:(s.heap.update a (Obj.mapSeq fun _=>#[])).get? a=some (seqObj "list" #[] _):=get?_update_seq ho fun _=>#[]
 refine wpAny_bind (seqEpoch_at h1 rfl ?_)
 refine wpAny_bind (wpAny_newTuple ?_ (by show vs.toArray.toList.length<=_;simp;omega))
 refine wpAny_bind (wpAny_newList ?_ (Nat.zero_le _))
 refine wpAny_holding ?_
 have h6:=Heap.get?_push_of_some (seqObj "list" #[] 0) (Heap.get?_push_of_some (seqObj "tuple" vs.toArray 0) h1)
 change wpAny (model prog w) A _ P E {s with heap:=((s.heap.update a (Obj.mapSeq fun _=>#[])).push (seqObj "tuple" vs.toArray 0)).push (seqObj "list" #[] 0)}
 dsimp only
 have S6:=hS (((s.heap.update a (Obj.mapSeq fun _=>#[])).push (seqObj "tuple" vs.toArray 0)).push (seqObj "list" #[] 0)) fun b o hb q=>by
  refine Heap.get?_push_of_some _ (Heap.get?_push_of_some _ ?_)
  rw [Heap.get?_update_other _ _ (Ne.symm hb)]
  exact q
 by_cases c:vs.toArray.size<2
 ·rw [if_pos c,if_pos c]
  refine wpAny_bind (wpAny_pure ?_)
  rw [StateT.run_pure]
  refine wpAny_bind (wpAny_pure ?_)
  dsimp only
  refine wpAny_bind (seqEpoch_at h6 rfl ?_)
  refine wpAny_bind (listUpdate_at h6 rfl ?_ (Nat.zero_le _) (by rw [Array.size_map];show (pairsOf vs).size<=_;rw [pairsOf_size];omega))
  simp only [bne_self_eq_false,Bool.false_eq_true,if_false]
  have e:(arrOf (SortSt.mk' general' (vs.toArray.zip vs.toArray) #[] 7 none)).Perm (pairsOf vs):=Array.Perm.refl _
  refine wpAny_pure (h _ (zGl e) ?_)
  exact pw_small (by rw [(zGl e).length_eq];omega)
 ·rw [if_neg c,if_neg c]
  refine wpAny_bind (S6.kind (by omega) _ _ ?_)
  have W:=Tim.w_sortS (E:=E) (a₀:=pairsOf vs) (st:=SortSt.mk' kd (vs.toArray.zip vs.toArray) #[] 7 none) (Q:=fun _ st'=>failedOf st'=none/\(arrOf st').Perm (pairsOf vs)/\Tim.Srt κ (arrOf st').toList) S6.cmp (fun p hp=>by
   rw [pairsOf_toList] at hp
   exact S6.has _ (mem_zip_self hp).2) rfl rfl (Array.Perm.refl _) rfl (by rw [pairsOf_size];omega) (by rw [pairsOf_size];omega) fun st' q1 q2 q3=>⟨q1,q2,q3⟩
  refine wpAny_bind (wpAny_mono W ?_ fun _ _ e=>e)
  rintro ⟨⟨⟩,st'⟩ s' ⟨rfl,q1,q2,q3⟩
  dsimp only
  refine wpAny_bind (seqEpoch_at h6 rfl ?_)
  have zz:=(zGl q2).length_eq
  refine wpAny_bind (listUpdate_at h6 rfl ?_ (Nat.zero_le _) (by simp at zz ⊢;omega))
  rw [q1]
  simp only [bne_self_eq_false,Bool.false_eq_true,if_false]
  exact wpAny_pure (h _ (zGl q2) (snd_srt q2 q3))
theorem w_sortedCS {κ:PyProof.Rows.KeyKind} {kd:SortKind} {v:Value} {Q:Value->Shared->Prop} {J:List Value->Shared->Prop} (hc:wpAny (model prog w) A.in1 (collect v) J E s)
  (hJ:∀vs s1,J vs s1->vs.length<64/\(∀h',Up s1.heap h'->Sortable prog w A.in1.in1 κ kd vs {s1 with heap:=h'}) /\
   ∀(out:List Value) c h',out.Perm vs->(out.Pairwise fun x y=>κ.kle ((κ.keyOf x).getD κ.dflt) ((κ.keyOf y).getD κ.dflt))->h'.get? s1.heap.objs.size=some (seqObj "list" out.toArray c)->Up s1.heap h'->Q (.ref s1.heap.objs.size) {s1 with heap:=h'}) :
  wpAny (model prog w) A (call (.builtin "sorted") [v]) Q E s:=by
 refine Calls.call_function_entry kind_sorted plain_sorted entry_sorted (args_sorted1 _) ?_
 unfold Builtin.«sorted»
 refine wpAny_bind (m:=checkCount "sorted" 1 1 _) (wpAny_pure ?_)
 refine wpAny_bind (wpAny_mono hc (fun vs s1 j=>?_) fun _ _ x=>x)
 obtain ⟨j1,j2,j3⟩:=hJ vs s1 j
 have hsl:(4096:Nat)<=sizeLine:=by decide +kernel
 refine wpAny_bind (wpAny_newList ?_ (by omega))
 have hD:(s1.heap.push (seqObj "list" vs.toArray 0)).get? s1.heap.objs.size=some (seqObj "list" vs.toArray 0):=Heap.get?_push_size _ rfl
 change wpAny _ _ _ _ _ {s1 with heap:=s1.heap.push (seqObj "list" vs.toArray 0)}
 have ne:∀b o,s1.heap.get? b=some o->b≠s1.heap.objs.size:=fun b o q=>Nat.ne_of_lt (Heap.lt_size q)
 refine wpAny_bind (wpAny_holding (wpAny_call_entry slot_list_sort ⟨_,hD,rfl⟩ entry_list_sort ?body (args_list_sort _)))
 case body =>
  refine w_lsortS (s:={s1 with heap:=s1.heap.push (seqObj "list" vs.toArray 0)}) hD j1 (fun h' q=>j2 h' fun b o e=>q b o (ne b o e) (Heap.get?_push_of_some _ e)) fun out p1 p2=>?_
  obtain ⟨⟨c,g1⟩,g2⟩:=srt_heap (out:=out) hD
  refine ⟨_,rfl,wpAny_pure ⟨_,rfl,j3 out.toList c _ p1 p2 (by simpa using g1) fun b o e=>g2 b o (ne b o e) (Heap.get?_push_of_some _ e)⟩⟩
end
end ST
namespace L2
open PySem PySem.Spec PyProof.Rows
section
variable {X:Cx} {pins:List (Addr×Obj)} {s:Shared} {σ:St} {H:Hp}
theorem zHx {k:Nat} (hr:Room k X.A):zCr X (.builtin "sorted") (fun xs H Q=>∃(a:Addr) (ys:List (List Str×Addr)),xs=[.ref a]/\H a=some (TSt X.prog X.w a ys)/\(∀p∈ys,RowT X.K H p)/\(∀p∈ys,p.1≠[])/\ys.length<=63 /\
  ∀b zs,H b=none->zs.Perm ys->RiseT zs->Q (.ref b) (upd H b (.lst (zs.map fun p=>V.ref p.2)))):=by
 intro pins s σ H xs us Q I r h
 obtain ⟨a,ys,rfl,ha,hk,hne,hc,q⟩:=h
 obtain ⟨u,rfl,rx⟩:=zHo r
 cases rx
 obtain ⟨⟨o,es,ep,t,z1,z2,z3,z4,z5,z6,z7,z8⟩,_⟩:=I.hok a _ ha
 have Z:ST.SetX (PySem.strKind X.prog X.w) s.heap a ys o es ep t:=⟨z1,z2,z3,z4,z5,z6,z7,fun p hp=>I.rowT (hk p hp),z8⟩
 refine ST.w_sortedCS (kd:=tuples' true) (κ:=ST.tupK fun b=>(ys.find? fun p=>p.2==b).map (·.1))
  (J:=fun vs s1=>vs.Perm (ys.map fun p=>Value.ref p.2)/\(∀b o,s.heap.get? b=some o->s1.heap.get? b=some o)/\s1.gens=s.gens/\s1.os=s.os)
  (ST.w_collect (A:=X.A.in1) hr.hd Z (Nat.le_trans hc (by decide)) fun s' vs v1 v2 v3 v4 _=>⟨v1,v2,v3,v4⟩) fun vs s1 ⟨v1,v2,v3,v4⟩=>?_
 have hvl:vs.length=ys.length:=by rw [v1.length_eq,List.length_map]
 refine ⟨by omega,fun h' up=>ST.tups_sortable v1 (fun p hp=>ST.key_kept (I.rowT (hk p hp)) fun o e=>up _ o (v2 _ o e)) hne,fun out c h' p1 p2 p3 up=>?_⟩
 obtain ⟨zs,e1,e2⟩:=perm_back _ (p1.trans v1)
 subst e2
 have I1:Inv X pins σ H s1:=I.call' (ch:=[]) v4 (Un.kept v2) (I.hok.kept v2) (by rw [v3];exact I.bare) (fun _ z=>nomatch z)
 have hz:(zs.map fun p=>V.ref p.2).length<=sizeLine:=by
  rw [List.length_map,e1.length_eq];exact Nat.le_trans hc (by decide +kernel)
 exact ⟨.ref s1.heap.objs.size,_,I1.laid (t':=s1.toks) up (Nat.le_refl _) (show zA7 X.prog X.w _ h' _ (.lst (zs.map fun p=>V.ref p.2)) from ⟨hz,_,c,refs_vals zs,p3⟩),rfl,q _ zs (I1.hok.fresh (Nat.le_refl _)) e1 (rise_of (h:=s.heap) e1 (fun p hp=>I.rowT (hk p hp)) p2)⟩
end
end L2
namespace My
open PySem L2
theorem zGn (f:Str) (v:V):∀fs:List (Str×V),(putF f v fs).length<=fs.length+1
 | []=>Nat.le_refl _
 | (g,x)::r=>by
  unfold putF
  split
  ·exact Nat.le_succ _
  ·have:=zGn f v r
   simp only [List.length_cons];omega
theorem zF8 {X:Cx} {P:Program} {w:World} {K:PySem.W.Frag} {k:Nat} (hr:Room k X.A) (hP:X.prog=P:=by rfl) (hw:X.w=w:=by rfl) (hK:X.K=K:=by rfl):zCr X (.type "set") (fun xs H Q=>∃(l:Addr) (ks:List (List Str×Addr)),xs=[.ref l]/\SqL K H l (ks.map fun p=>V.ref p.2)/\(∀p∈ks,RowT K H p)/\ks.length<=306 /\
  ∀a ys,H a=none->(∀p∈ys,p∈ks)->(∀p∈ks,p.1∈ys.map (·.1))->(ys.map (·.1)).Nodup->ys.length<=ks.length->Q (.ref a) (upd H a (TSt P w a ys))):=by
 subst hP hw hK;exact call_setT hr
theorem zDo {X:Cx} {P:Program} {w:World} {K:PySem.W.Frag} {k:Nat} (hr:Room k X.A) (hP:X.prog=P:=by rfl) (hw:X.w=w:=by rfl) (hK:X.K=K:=by rfl):zCr X (.builtin "sorted") (fun xs H Q=>∃(a:Addr) (ys:List (List Str×Addr)),xs=[.ref a]/\H a=some (TSt P w a ys)/\(∀p∈ys,RowT K H p)/\(∀p∈ys,p.1≠[])/\ys.length<=63 /\
  ∀b zs,H b=none->zs.Perm ys->RiseT zs->Q (.ref b) (upd H b (.lst (zs.map fun p=>V.ref p.2)))):=by
 subst hP hw hK;exact zHx hr
theorem zI2 {X:Cx} {K:PySem.W.Frag} {es:List Expr} {k:Nat} {t:TGs} {n:Nat} {pos:Pos} (hc:X.calm=true) (h:PGs X es t)
  (hn:(assignEach es X.env).length=n:=by rfl) (hst:(assignEach es X.env).findIdx? (·.1)=none:=by rfl) (hK:X.K=K:=by rfl):PG X (.Tuple es k pos) (gTup K n t):=by
 subst hK;exact pg_tup hc h hn hst
theorem zEo {qs:List (List Str×Addr)} {n x:Str}:x∈told qs n↔∃q∈qs,snd q=n/\fst q=x:=by
 unfold told
 simp only [List.mem_map,List.mem_filter,decide_eq_true_eq]
 exact ⟨fun ⟨q,⟨a,b⟩,c⟩=>⟨q,a,b,c⟩,fun ⟨q,a,b,c⟩=>⟨q,⟨a,b⟩,c⟩⟩
theorem fst_of {q q':List Str×Addr} (h:q.1=q'.1):fst q=fst q'/\snd q=snd q':=by unfold fst snd;rw [h];exact ⟨rfl,rfl⟩
section
variable {P:Program} {w:World} {K:PySem.W.Frag} {mg:Str->Option Value} {base:Heap} {C:Addr}
structure Good (ns:List Str) (qs:List (List Str×Addr)) (r:Str->Nat):Prop where
 nm:∀n∈ns,zBa n
 nd:ns.Nodup
 few:ns.length<=20
 qfew:qs.length<=63
 qin:∀q∈qs,∀x∈q.1,x∈ns
 rk:∀q∈qs,r (fst q)<r (snd q)
structure JNew (H:Hp) (J:JR):Prop where
 r:Fre H J.r
 p:Fre H J.p
 e:Fre H J.e
 z:∀q∈J.zs,Fre H q.2
 s:∀n∈J.D,Fre H (J.fa n)
abbrev zAw:Stmt:=zF6 (top 35) 0
theorem zBw:FnScope ["self", "names", "orders"] ["self", "names", "orders"] (zAe zAw):=⟨rfl,rfl,rfl,by decide +kernel,rfl,by decide +kernel,by decide +kernel⟩
end
def zBx:List Str:=zCd.cps.toList.map fun c=>⟨#[c]⟩
theorem zE3:zBx.length=26:=by
 unfold zBx
 rw [zDe];simp
theorem singles_nd:zBx.Nodup:=by decide +kernel
theorem single_ok {x:Str} (h:x∈zBx):zBa x:=by
 unfold zBx at h
 rw [zDe] at h
 obtain ⟨c,hc,rfl⟩:=List.mem_map.mp h
 obtain ⟨i,hi,rfl⟩:=List.mem_map.mp hc
 have:=List.mem_range.mp hi
 refine ⟨Nat.le_refl 1,by show 1<=8;decide,fun d hd=>?_⟩
 have:d=97+i:=by simpa using hd
 omega
theorem some_single {found:List Str} (h:found.length<=25):(zBx.filter fun x=>decide (x∉found))≠[]:=fun z=>by
 have:zBx.length<=found.length:=zEx singles_nd fun x hx=>by
  apply Classical.byContradiction
  intro y
  have:x∈zBx.filter fun x=>decide (x∉found):=List.mem_filter.mpr ⟨hx,decide_eq_true y⟩
  rw [z] at this;exact nomatch this
 rw [zE3] at this
 omega
section
variable {P:Program} {w:World} {K:PySem.W.Frag} {mg:Str->Option Value} {base:Heap}
def zIr:Sp:=fun vs H Q _=>∃(p:Addr) (m:Int),vs=[.ref p,.int m]/\zB1 H p/\0<=m/\m<=25/\∀(l:Addr) (ns:List Str) (H':Hp),Fre H l->Txs H' l ns->ns.length=m.toNat->ns.Nodup->(∀n∈ns,zBa n)->zB1 H' p->Kp [p] H H'->Q (.ref l) H'
abbrev zIx:Stmt:=top 44
theorem zDa:FnScope ["_law_purse_here", "_law_many", "_law_letters", "_law_found", "_law_k", "_law_word", "_law_j"] ["_law_purse_here", "_law_many"] (zAe zIx):=⟨rfl,rfl,rfl,by decide +kernel,rfl,by decide +kernel,by decide +kernel⟩
theorem ok_names {f:Addr} {fd:FuncData} (F:Fun K "_law_names" "_law_names" zIx f fd) (T:Txt K mg) (C_take:Cal P w K mg base "_law_take" 1 ["_law_purse_here", "_law_many"] zH3):FnOk P w K mg base CX0 2 f fd ["_law_purse_here", "_law_many"] zIr:=by
 refine F.ok zDa (fun vs H Q E h=>?_) (fun cdv A outer s H vs Q E hr h=>?_)
 ·obtain ⟨p,m,rfl,_⟩:=h
  rfl
 ·obtain ⟨p,m,rfl,hP,h0,h1,k⟩:=h
  have HR_take:=hr
  refine ⟨_,(zAc (zAn (i:=2) zDa.nd rfl (by walk_at "lc") zAo)
   (zAc (zAn (i:=3) zDa.nd rfl (by walk_at "lc") (zBo zAb))
   (zAc (zBb PassesOwn.never rfl (zBj rfl T.z_range (zAa (pv 1) zAb)) (zAk (i:=4) zDa.nd rfl (by walk_at "lc"))
    (zAc (zAn (i:=5) zDa.nd rfl (by walk_at "lc") zAo)
    (zAc (zBb PassesOwn.never rfl (zBj rfl T.z_range (zAa (zAs zCs zAg (zAs zFn (zAi C_take HR_take rfl (zAa (pv 0) (zAa zAg zAb))) (zAi C_take HR_take rfl (zAa (pv 0) (zAa zAg zAb))))) zAb)) (zAk (i:=6) zDa.nd rfl (by walk_at "lc"))
     (zAd (zAn (i:=5) zDa.nd rfl (by walk_at "lc") (zAs zBf (pv 5) (zA9 ix_str (pv 2) (zAi C_take HR_take rfl (zAa (pv 0) (zAa zAg zAb))) (fun _ _=>rfl))))))
    (zAc (zA2 (zAr zEb (pv 5) (pv 3) (by rfl))
     (zAd (zAn (i:=5) zDa.nd rfl (by walk_at "lc") (zA9 zA1 (zBz rfl (zB4 (sc:=zAe zIx) rfl (by decide +kernel)) (Draws.own (x:= "_law_letter") (Draws.tk (i:=3) rfl (by walk_at "vs") (by walk_at "vk") (by walk_at "vf") Draws.nil)) (pi_str (pv 2)) (fun C s₀ H₀ ex=>(zAk (i:=0) (show List.Nodup (["_law_letter", "_law_found"]:List Str) by decide +kernel) rfl (by walk_at "lc"))) (fun C s₀ H₀ ex=>(zF1 (zAr (zI3 (K:=K)) (pv 0) (pv 1) (by rfl)))) (fun C s₀ H₀ ex=>(pv 0))) zAg (fun _ _=>rfl))))
     zAm)
    (zAd (zA3 (zDm PySem.F.plainAttrs_list PySem.F.slot_list_append PySem.F.type_list_append zC4 (pv 3) (zAa (pv 5) zAb))))))))
   (zAd (zAq (pv 3)))))),?_⟩
  refine ⟨(by walk_at "ln"),fun l hl=>?_⟩
  have fl:Fre H l:=hl
  have npl:p≠l:=by obtain ⟨a,b,e,_⟩:=hP;exact ne_fre fl e
  have hP1:zB1 (upd H l (.lst [])) p:=hP.kp (M:=[]) (Kp.new Kp.refl fl) (by simp)
  refine ⟨_,rfl,_,rfl,by omega,by omega,zBu (lo:=0) (n:=m.toNat) (fun i σ H2=>∃(o4 o5 o6:Option V) (ws:List Str),σ=[some (.ref p),some (.int m),some (.str zCd),some (.ref l),o4,o5,o6]/\zB1 H2 p/\Kp [p] H H2/\Txs H2 l ws/\ws.length=i/\ws.Nodup/\∀s∈ws,zBa s)
   ⟨none,none,none,[],rfl,hP1,Kp.new Kp.refl fl,upd_same,rfl,List.nodup_nil,fun s h=>nomatch h⟩ ?_ ?_⟩
  ·rintro i σ H2 hi ⟨o4,o5,o6,ws,rfl,P2,K2,R2,e2,n2,q2⟩
   refine ⟨_,rfl,p,2,rfl,P2,by decide,by decide,fun d1 H3 a0 a1 P3 K3=>?_⟩
   refine ⟨_,rfl,p,8,rfl,P3,by decide,by decide,fun d2 H4 b0 b1 P4 K4=>?_⟩
   have hm0:0<=d1*d2:=Int.mul_nonneg a0 b0
   have hm1:d1*d2<=7:=by
    have:d1*d2<=1*7:=Int.mul_le_mul (by omega) (by omega) b0 (by decide)
    omega
   have K24:Kp [p] H2 H4:=K3.trans K4
   refine ⟨_,_,rfl,rfl,(by walk_at "ml"),_,_,rfl,rfl,_,rfl,by omega,by omega,zBu (lo:=0) (n:=(1+d1*d2).toNat) (fun n σ H7=>∃(o4 o6:Option V) (x:Str),σ=[some (.ref p),some (.int m),some (.str zCd),some (.ref l),o4,some (.str x),o6]/\zB1 H7 p/\Kp [p] H2 H7/\WordS n x)
    ⟨_,_,_,rfl,P4,K24,rfl,(fun c h=>absurd (show c∈([]:List Nat) from h) (by simp))⟩ ?_ ?_⟩
   ·rintro n σ H7 hn ⟨o4,o6,x,rfl,P8,K7,W⟩
    refine ⟨_,rfl,_,rfl,_,rfl,p,26,rfl,P8,by decide,by decide,fun d4 H8 e0 e1 P9 K8=>?_⟩
    refine ⟨_,_,_,rfl,rfl,by decide,letters_at e0 e1,_,_,rfl,rfl,?_,?_⟩
    ·rw [W.1]
     show n+1<=sizeLine
     rw [sizeLine_eq];omega
    ·exact ⟨_,_,_,rfl,P9,K7.trans K8,W.more (by omega) (by omega)⟩
   ·rintro σ H7 ⟨o4,o6,x,rfl,P8,K7,W⟩
    have h7:Txs H7 l ws:=K7 l _ R2 (nm1 npl.symm)
    have NX:zBa x:=⟨by have:=W.1;omega,by have:=W.1;omega,W.2⟩
    refine ⟨_,rfl,_,rfl,_,_,rfl,.inl (SqL.of h7),rfl,zCm ws,_,rfl,?_⟩
    rw [if_neg (by decide),zEd]
    refine if_mid (fun σ H8=>∃(y:Str),σ=[some (.ref p),some (.int m),some (.str zCd),some (.ref l),o4,some (.str y),o6]/\Kp [] H7 H8/\zBa y/\y∉ws) (fun N hN=>ite2 (fun c=>?_) (fun c=>?_)) ?_
    ·-- _law_word=[..][0]
     refine ⟨_,rfl,_,rfl,fun B hB=>comp_str (z:=zCd) (fun i ys τ H8=>(∃o0,τ=[o0,some (.ref l)])/\ys=((zBx.take i).filter fun x=>decide (x∉ws)).map V.str/\H8=upd H7 B (.lst ys)) ⟨⟨_,rfl⟩,rfl,rfl⟩ ?_ ?_⟩
     ·rintro i c ys τ H8 hc ⟨⟨o0,rfl⟩,rfl,rfl⟩
      have en:zBx[i]?=some ⟨#[c]⟩:=by unfold zBx;rw [List.getElem?_map,hc];rfl
      refine ⟨_,rfl,_,rfl,_,_,rfl,.inl (SqL.of ((upd_ne (ne_fre (show Fre H7 B from hB) h7)).trans h7)),rfl,zCm ws,_,rfl,?_⟩
      rw [if_pos rfl,zEd]
      have ed:(!decide ((⟨#[c]⟩:Str)∈ws))=decide ((⟨#[c]⟩:Str)∉ws):=by
       by_cases z:(⟨#[c]⟩:Str)∈ws
       ·simp [z]
       ·simp [z]
      rw [ed]
      refine ite2 (fun c=>?_) (fun c=>?_)
      ·refine ⟨_,rfl,upd_same,?_,⟨_,rfl⟩,?_,zDu⟩
       ·rw [List.length_map];exact zJl (by rw [zE3];decide)
       ·rw [zJk (p:=fun x=>decide (x∉ws)) en c,List.map_append];rfl
      ·refine ⟨⟨_,rfl⟩,?_,?_⟩
       ·rw [filt_no (p:=fun x=>decide (x∉ws)) en c]
       ·rfl
     ·rintro ys τ H8 ⟨_,rfl,rfl⟩
      have eT:zBx.take zCd.length=zBx:=List.take_of_length_le (by rw [zE3];decide)
      rw [eT]
      have hne:=some_single (found:=ws) (by omega)
      have hmm:∀y,y∈(zBx.filter fun x=>decide (x∉ws))->zBa y/\y∉ws:=fun y hy=>by
       have:=List.mem_filter.mp hy
       exact ⟨single_ok this.1,of_decide_eq_true this.2⟩
      generalize (zBx.filter fun x=>decide (x∉ws))=L at hne hmm
      obtain ⟨y,r,rfl⟩:∃y r,L=y::r:=by
       cases L with
       | nil=>exact absurd rfl hne
       | cons y r=>exact ⟨y,r,rfl⟩
      refine ⟨_,_,_,.str y,rfl,rfl,SqL.of upd_same,zA0 (by decide) rfl,?_⟩
      exact hN _ _ ⟨y,rfl,Kp.new Kp.refl hB,(hmm y List.mem_cons_self).1,(hmm y List.mem_cons_self).2⟩
    ·exact hN _ _ ⟨x,rfl,Kp.refl,NX,fun z=>c (decide_eq_true z)⟩
    ·rintro σ H8 ⟨y,rfl,K8,NY,ny⟩
     have h8:Txs H8 l ws:=K8 l _ h7 (by simp)
     refine ⟨_,rfl,.inl ⟨rfl,_,SqL.of h8⟩,_,rfl,_,_,_,rfl,rfl,h8,?_,?_⟩
     ·rw [sizeLine_eq,List.length_map];omega
     ·refine ⟨_,_,_,ws++[y],rfl,(P8.kp K8 (by simp)).kp (M:=[l]) (Kp.put Kp.refl (by simp)) (nm1 npl),Kp.new (K2.trans (K7.trans (K8.weak (by simp)))) fl,?_,by simp [e2],?_,fun s hs=>?_⟩
      ·show upd H8 l _ l=some (.lst ((ws++[y]).map V.str))
       rw [upd_same,List.map_append];rfl
      ·refine List.nodup_append.mpr ⟨n2,by simp,fun a ha b hb=>?_⟩
       rw [List.mem_singleton.mp hb]
       rintro rfl
       exact ny ha
      ·rcases List.mem_append.mp hs with z| z
       ·exact q2 s z
       ·rw [List.mem_singleton.mp z];exact NY
  ·rintro σ H2 ⟨o4,o5,o6,ws,rfl,P2,K2,R2,e2,n2,q2⟩
   exact ⟨_,rfl,k l ws H2 fl R2 e2 n2 q2 P2 K2⟩
end
structure ITs (H:Hp) (l:Addr) (ts:List ((Int×Int)×Addr)):Prop where
 top:H l=some (.lst (ts.map fun t=>V.ref t.2))
 row:∀t∈ts,H t.2=some (.tup [.int t.1.1,.int t.1.2])
theorem ITs.kp {M:List Addr} {H H':Hp} {l:Addr} {ts:List ((Int×Int)×Addr)} (I:ITs H l ts) (k:Kp M H H') (h1:l∉M) (h2:∀t∈ts,t.2∉M):ITs H' l ts:=⟨k l _ I.top h1,fun t ht=>k _ _ (I.row t ht) (h2 t ht)⟩
theorem ITs.more {H:Hp} {l t:Addr} {a b:Int} {ts:List ((Int×Int)×Addr)} (I:ITs H l ts) (ht:H t=some (.tup [.int a,.int b])):ITs (upd H l (.lst (ts.map (fun t=>V.ref t.2)++[.ref t]))) l (ts++[((a,b),t)]):=by
 refine ⟨by rw [upd_same,List.map_append];rfl,fun q hq=>?_⟩
 rcases List.mem_append.mp hq with z| z
 ·exact (upd_ne (zBd (I.row q z) I.top (fun y=>nomatch y))).trans (I.row q z)
 ·rw [List.mem_singleton.mp z]
  exact (upd_ne (zBd ht I.top (fun y=>nomatch y))).trans ht
theorem ITs.same {H:Hp} {l:Addr} {ts:List ((Int×Int)×Addr)} (I:ITs H l ts):ITs (upd H l (.lst (ts.map (fun t=>V.ref t.2)++[]))) l ts:=by
 rw [List.append_nil]
 exact ⟨upd_same,fun q z=>(upd_ne (zBd (I.row q z) I.top (fun y=>nomatch y))).trans (I.row q z)⟩
theorem tri_step (i:Nat):i*(i+1)+2*(i+1)=(i+1)*(i+2):=by
 rw [<-Nat.add_mul,Nat.mul_comm]
theorem inV12 (w:Int):inV (.int w) [.int 1,.int 2]=(decide (w=1)||decide (w=2)):=by
 show ((1==w)||((2==w)||false))=_
 by_cases h1:w=1
 ·subst h1;rfl
 ·by_cases h2:w=2
  ·subst h2;rfl
  ·rw [decide_eq_false h1,decide_eq_false h2,beq_eq_false_iff_ne.mpr (Ne.symm h1),beq_eq_false_iff_ne.mpr (Ne.symm h2)];rfl
def zDp (m:Int) (ts:List ((Int×Int)×Addr)):Prop:=∀t∈ts,0<=t.1.1/\t.1.1<t.1.2/\t.1.2<m
theorem zDp.more {m a b:Int} {t:Addr} {ts:List ((Int×Int)×Addr)} (h:zDp m ts) (h1:0<=a) (h2:a<b) (h3:b<m):zDp m (ts++[((a,b),t)]):=fun q hq=>by
 rcases List.mem_append.mp hq with z| z
 ·exact h q z
 ·rw [List.mem_singleton.mp z];exact ⟨h1,h2,h3⟩
section
variable {P:Program} {w:World} {K:PySem.W.Frag} {mg:Str->Option Value} {base:Heap}
def spLPairs:Sp:=fun vs H Q _=>∃(p:Addr) (m way thin:Int),vs=[.ref p,.int m,.int way,.int thin]/\zB1 H p/\0<=m/\m<=8/\2<=thin/\thin<=12/\∀(l:Addr) (ts:List ((Int×Int)×Addr)) (H':Hp),Fre H l->ITs H' l ts->(∀t∈ts,Fre H t.2)->ts.length<=28->zDp m ts->zB1 H' p->Kp [p] H H'->Q (.ref l) H'
abbrev s_pairs:Stmt:=top 45
theorem zC9:FnScope ["_law_purse_here", "_law_many", "_law_way", "_law_thin", "_law_pairs_here", "_law_j", "_law_far", "_law_i", "_law_near"] ["_law_purse_here", "_law_many", "_law_way", "_law_thin"] (zAe s_pairs):=⟨rfl,rfl,rfl,by decide +kernel,rfl,by decide +kernel,by decide +kernel⟩
theorem ok_pairs {f:Addr} {fd:FuncData} (F:Fun K "_law_pairs" "_law_pairs" s_pairs f fd) (T:Txt K mg) (C_take:Cal P w K mg base "_law_take" 1 ["_law_purse_here", "_law_many"] zH3):FnOk P w K mg base CX0 2 f fd ["_law_purse_here", "_law_many", "_law_way", "_law_thin"] spLPairs:=by
 refine F.ok zC9 (fun vs H Q E h=>?_) (fun cdv A outer s H vs Q E hr h=>?_)
 ·obtain ⟨p,m,way,thin,rfl,_⟩:=h
  rfl
 ·obtain ⟨p,m,way,thin,rfl,hP,h0,h1,t0,t1,k⟩:=h
  have HR_take:=hr
  refine ⟨_,(zAc (zAn (i:=4) zC9.nd rfl (by walk_at "lc") (zBo zAb))
   (zAc (zBb PassesOwn.never rfl (pi_range2 rfl T.z_range (zAa zAg (zAa (pv 1) zAb))) (zAk (i:=5) zC9.nd rfl (by walk_at "lc"))
    (zAc (zAn (i:=6) zC9.nd rfl (by walk_at "lc") zAg)
    (zAc (zA2 (zAr zEu (pv 2) zAg (zAt _))
     (zAc (zAn (i:=6) zC9.nd rfl (by walk_at "lc") (zAi C_take HR_take rfl (zAa (pv 0) (zAa (zAs zCs (zAs zG2 (pv 1) (pv 5)) zAg) zAb))))
     (zAd (zA3 (zDm PySem.F.plainAttrs_list PySem.F.slot_list_extend PySem.F.type_list_extend mt_extend (pv 4) (zAa (zAs op_rep (zBo (zAa (zB9 (zAa (zAs zG2 (pv 5) zAg) (zAa (zAs zCs (zAs zG2 (pv 5) zAg) (pv 6)) zAb))) zAb)) (zAy zFv (by rfl) T.z_int bo_int (zAa (zBg op_gt (pv 6) zAg (zAt _)) zAb))) zAb)))))
     zAm)
    (zAc (zA2 (zAr zEu (pv 2) zAg (zAt _))
     (zAc (zAn (i:=6) zC9.nd rfl (by walk_at "lc") (zAi C_take HR_take rfl (zAa (pv 0) (zAa (zAs zCs (pv 5) zAg) zAb))))
     (zAd (zA3 (zDm PySem.F.plainAttrs_list PySem.F.slot_list_extend PySem.F.type_list_extend mt_extend (pv 4) (zAa (zAs op_rep (zBo (zAa (zB9 (zAa (zAs zG2 (pv 5) (pv 6)) (zAa (pv 5) zAb))) zAb)) (zAy zFv (by rfl) T.z_int bo_int (zAa (zBg op_gt (pv 6) zAg (zAt _)) zAb))) zAb)))))
     zAm)
    (zAd (zBb PassesOwn.never rfl (zBj rfl T.z_range (zAa (zAs zFn (pv 5) (zAy zFv (by rfl) T.z_int bo_int (zAa (zBg zDd (pv 2) (zBo (zAa zAg (zAa zAg zAb))) (by rfl)) zAb))) zAb)) (zAk (i:=7) zC9.nd rfl (by walk_at "lc"))
     (zAc (zAn (i:=8) zC9.nd rfl (by walk_at "lc") (pe_or (zBg op_ne (pv 2) zAg (zAt _)) (zH9 (zBg zEu (zAs zCs (zAs zI4 (pv 7) (pv 3)) zAg) (zAs zI4 (pv 5) (pv 3)) (zAt _)))))
     (zAd (zA2 (PW.pt (pw_and (zBi (pv 8)) (pw_and1 (zAr zEu (zBg zEu (zAi C_take HR_take rfl (zAa (pv 0) (zAa (pv 3) zAb))) zAg (zAt _)) (zBg op_ne (pv 2) zAg (zAt _)) (zAt _)))))
      (zAd (zA3 (zDm PySem.F.plainAttrs_list PySem.F.slot_list_append PySem.F.type_list_append zC4 (pv 4) (zAa (zB9 (zAa (pv 7) (zAa (pv 5) zAb))) zAb))))
      zAm)))))))))
   (zAd (zAq (pv 4))))),?_⟩
  refine ⟨(by walk_at "ln"),fun l hl=>?_⟩
  have fl:Fre H l:=hl
  have npl:p≠l:=by obtain ⟨a,b,e,_⟩:=hP;exact ne_fre fl e
  have hP1:zB1 (upd H l (.lst [])) p:=hP.kp (M:=[]) (Kp.new Kp.refl fl) (by simp)
  refine ⟨_,rfl,_,_,rfl,?_,zBu (lo:=1) (n:=(m - 1).toNat) (fun i σ H2=>∃(o5 o6 o7 o8:Option V) (ts:List ((Int×Int)×Addr)),σ=[some (.ref p),some (.int m),some (.int way),some (.int thin),some (.ref l),o5,o6,o7,o8]/\zB1 H2 p/\Kp [p] H H2/\ITs H2 l ts/\(∀t∈ts,Fre H t.2)/\ts.length*2<=i*(i+1)/\zDp m ts)
   ⟨none,none,none,none,[],rfl,hP1,Kp.new Kp.refl fl,⟨upd_same,(fun t h=>nomatch h)⟩,(fun t h=>nomatch h),Nat.zero_le _,(fun t h=>nomatch h)⟩ ?_ ?_⟩
  ·exact ⟨by decide,by decide,by omega,by omega⟩
  ·rintro i σ H2 hi ⟨o5,o6,o7,o8,ts,rfl,P2,K2,R2,f2,e2,q2⟩
   have hi19:i<=18:=by omega
   refine ⟨_,rfl,rfl,_,rfl,if_mid (fun σ H3=>∃(v6:Int) (ts1:List ((Int×Int)×Addr)),σ=[some (.ref p),some (.int m),some (.int way),some (.int thin),some (.ref l),some (.int (1+(i:Int))),some (.int v6),o7,o8]/\zB1 H3 p/\Kp [p] H H3/\ITs H3 l ts1/\(∀t∈ts1,Fre H t.2)/\ts1.length<=ts.length+(if way=1 then 1 else 0)/\zDp m ts1) (fun N hN=>ite2 (fun c=>?_) (fun c=>?_)) ?_⟩
   ·have cw:way=1:=by simpa using c
    refine ⟨_,rfl,_,rfl,_,rfl,_,_,rfl,rfl,_,_,rfl,rfl,p,m - (1+(i:Int))+1,rfl,P2,by omega,by omega,fun d H3 d0 d1 P3 K3=>?_⟩
    have K23:=K2.trans K3
    have R3:ITs H3 l ts:=R2.kp K3 (nm1 npl.symm) fun t ht=>nm1 (by obtain ⟨a,b,e,_⟩:=hP;exact (ne_fre (f2 t ht) e).symm)
    refine ⟨_,rfl,.inl ⟨rfl,_,SqL.of R3.top⟩,_,rfl,_,_,rfl,rfl,_,rfl,_,_,rfl,rfl,_,rfl,_,_,rfl,rfl,(by walk_at "ln"),fun t ht=>?_⟩
    have ft:Fre H3 t:=ht
    refine ⟨(by walk_at "ln"),fun q hq=>?_⟩
    have fq:Fre (upd H3 t _) q:=hq
    have ntq:t≠q:=ne_fre fq upd_same
    refine ⟨_,rfl,_,_,rfl,rfl,.inr ⟨_,rfl,?_⟩⟩
    have nlt:l≠t:=ne_fre ft R3.top
    have h4:∀o,(upd H3 t o) l=some (.lst (ts.map fun t=>V.ref t.2)):=fun o=>(upd_ne nlt).trans R3.top
    have nlq:l≠q:=ne_fre fq (h4 _)
    have fin:∀(b:Bool) (r:Addr),b=decide (0<d)->(upd (upd H3 t (.tup [.int (1+(i:Int) - 1),.int (1+(i:Int) - 1+d)])) q (.lst [.ref t])) r=none ->
      ∃ts1:List ((Int×Int)×Addr),zB1 (upd (upd (upd (upd H3 t (.tup [.int (1+(i:Int) - 1),.int (1+(i:Int) - 1+d)])) q (.lst [.ref t])) r (.lst (List.replicate (if b=true then (1:Int) else 0).toNat [V.ref t]).flatten)) l (.lst (ts.map (fun t=>V.ref t.2)++(List.replicate (if b=true then (1:Int) else 0).toNat [V.ref t]).flatten))) p /\
       Kp [p] H (upd (upd (upd (upd H3 t (.tup [.int (1+(i:Int) - 1),.int (1+(i:Int) - 1+d)])) q (.lst [.ref t])) r (.lst (List.replicate (if b=true then (1:Int) else 0).toNat [V.ref t]).flatten)) l (.lst (ts.map (fun t=>V.ref t.2)++(List.replicate (if b=true then (1:Int) else 0).toNat [V.ref t]).flatten))) /\
       ITs (upd (upd (upd (upd H3 t (.tup [.int (1+(i:Int) - 1),.int (1+(i:Int) - 1+d)])) q (.lst [.ref t])) r (.lst (List.replicate (if b=true then (1:Int) else 0).toNat [V.ref t]).flatten)) l (.lst (ts.map (fun t=>V.ref t.2)++(List.replicate (if b=true then (1:Int) else 0).toNat [V.ref t]).flatten))) l ts1 /\
       (∀t∈ts1,Fre H t.2)/\ts1.length<=ts.length+1/\zDp m ts1:=fun b r hb hr'=>by
     have fr:Fre (upd (upd H3 t (.tup [.int (1+(i:Int) - 1),.int (1+(i:Int) - 1+d)])) q (.lst [.ref t])) r:=hr'
     have kA:Kp [] H3 (upd (upd (upd H3 t (.tup [.int (1+(i:Int) - 1),.int (1+(i:Int) - 1+d)])) q (.lst [.ref t])) r (.lst (List.replicate (if b=true then (1:Int) else 0).toNat [V.ref t]).flatten)):=by
      have a1:Kp [] H3 (upd H3 t (.tup [.int (1+(i:Int) - 1),.int (1+(i:Int) - 1+d)])):=Kp.new Kp.refl ft
      have a2:Kp [] H3 (upd (upd H3 t (.tup [.int (1+(i:Int) - 1),.int (1+(i:Int) - 1+d)])) q (.lst [.ref t])):=Kp.new a1 (a1.fre fq (by simp))
      exact Kp.new a2 (a2.fre fr (by simp))
     have RA:=R3.kp kA (by simp) (by simp)
     have hTt:(upd (upd (upd H3 t (.tup [.int (1+(i:Int) - 1),.int (1+(i:Int) - 1+d)])) q (.lst [.ref t])) r (.lst (List.replicate (if b=true then (1:Int) else 0).toNat [V.ref t]).flatten)) t=some (.tup [.int (1+(i:Int) - 1),.int (1+(i:Int) - 1+d)]):=by
      have b1:(upd (upd H3 t (.tup [.int (1+(i:Int) - 1),.int (1+(i:Int) - 1+d)])) q (.lst [.ref t])) t=some (.tup [.int (1+(i:Int) - 1),.int (1+(i:Int) - 1+d)]):=(upd_ne ntq).trans upd_same
      exact (upd_ne (ne_fre fr b1)).trans b1
     have pA:=P3.kp kA (by simp)
     have kH:Kp [p] H (upd (upd (upd H3 t (.tup [.int (1+(i:Int) - 1),.int (1+(i:Int) - 1+d)])) q (.lst [.ref t])) r (.lst (List.replicate (if b=true then (1:Int) else 0).toNat [V.ref t]).flatten)):=K23.trans (kA.weak (by simp))
     have ntp:t≠p:=by obtain ⟨a,b,e,_⟩:=P3;exact (ne_fre ft e).symm
     have ftH:Fre H t:=K23.fre ft (nm1 ntp)
     by_cases c2:0<d
     ·have eb:b=true:=by rw [hb];exact decide_eq_true c2
      subst eb
      refine ⟨ts++[(((1+(i:Int) - 1),(1+(i:Int) - 1+d)),t)],pA.kp (M:=[l]) (Kp.put Kp.refl (by simp)) (nm1 npl),Kp.new kH fl,RA.more hTt,fun u hu=>?_,by rw [List.length_append];exact Nat.le_refl _,q2.more (by omega) (by omega) (by omega)⟩
      rcases List.mem_append.mp hu with z| z
      ·exact f2 u z
      ·rw [List.mem_singleton.mp z];exact ftH
     ·have eb:b=false:=by rw [hb];exact decide_eq_false c2
      subst eb
      exact ⟨ts,pA.kp (M:=[l]) (Kp.put Kp.refl (by simp)) (nm1 npl),Kp.new kH fl,RA.same,f2,Nat.le_succ _,q2⟩
    refine ⟨_,_,_,rfl,rfl,upd_same,by split<;>decide,by split<;>decide,?_,fun r hr'=>?_⟩
    ·rw [sizeLine_eq];show 1*_<=_;split<;>decide
    have hl6:∀o2 o3,(upd (upd (upd H3 t (.tup [.int (1+(i:Int) - 1),.int (1+(i:Int) - 1+d)])) q o2) r o3) l=some (.lst (ts.map fun t=>V.ref t.2))\/l=r:=fun o2 o3=>by
     by_cases z:l=r
     ·exact .inr z
     ·exact .inl ((upd_ne z).trans ((upd_ne nlq).trans (h4 _)))
    have nlr:l≠r:=ne_fre (show Fre _ r from hr') ((upd_ne nlq).trans (h4 _))
    obtain ⟨ts1,g1,g2,g3,g4,g5,g6⟩:=fin _ r rfl hr'
    refine ⟨_,_,_,_,rfl,rfl,(upd_ne nlr).trans ((upd_ne nlq).trans (h4 _)),upd_same,?_,hN _ _ ⟨d,ts1,rfl,g1,g2,g3,g4,?_,g6⟩⟩
    ·have hl3:ts.length*2<=19*20:=Nat.le_trans e2 (Nat.mul_le_mul (by omega) (by omega))
     rw [List.length_map,len_rep,sizeLine_eq]
     have:(if decide (0<d)=true then (1:Int) else 0).toNat<=1:=by split<;>decide
     simp only [List.length_cons,List.length_nil]
     omega
    ·rw [if_pos cw];exact g5
   ·have cw:¬way=1:=by simpa using c
    exact hN _ _ ⟨0,ts,rfl,P2,K2,R2,f2,Nat.le_add_right _ _,q2⟩
   ·rintro σ H4 ⟨v6,ts1,rfl,P4,K4,R4,f3,e3,q3⟩
    have hle:ts.length*2<=19*20:=Nat.le_trans e2 (Nat.mul_le_mul (by omega) (by omega))
    have hl1:ts1.length<=191:=by
     have:(if way=1 then 1 else 0)<=1:=by split<;>decide
     omega
    refine ⟨_,rfl,rfl,_,rfl,if_mid (fun σ H3=>∃(v6:Int) (ts2:List ((Int×Int)×Addr)),σ=[some (.ref p),some (.int m),some (.int way),some (.int thin),some (.ref l),some (.int (1+(i:Int))),some (.int v6),o7,o8]/\zB1 H3 p/\Kp [p] H H3/\ITs H3 l ts2/\(∀t∈ts2,Fre H t.2)/\ts2.length<=ts.length+(if way=1\/way=2 then 1 else 0)/\zDp m ts2) (fun N hN=>ite2 (fun c=>?_) (fun c=>?_)) ?_⟩
    ·have cw:way=2:=by simpa using c
     refine ⟨_,rfl,_,rfl,_,_,rfl,rfl,p,1+(i:Int)+1,rfl,P4,by omega,by omega,fun d H5 d0 d1 P5 K5=>?_⟩
     have K25:=K4.trans K5
     have R5:ITs H5 l ts1:=R4.kp K5 (nm1 npl.symm) fun t ht=>nm1 (by obtain ⟨a,b,e,_⟩:=hP;exact (ne_fre (f3 t ht) e).symm)
     refine ⟨_,rfl,.inl ⟨rfl,_,SqL.of R5.top⟩,_,rfl,_,rfl,_,_,rfl,rfl,_,rfl,(by walk_at "ln"),fun t ht=>?_⟩
     have ft:Fre H5 t:=ht
     refine ⟨(by walk_at "ln"),fun q hq=>?_⟩
     have fq:Fre (upd H5 t _) q:=hq
     have ntq:t≠q:=ne_fre fq upd_same
     refine ⟨_,rfl,_,_,rfl,rfl,.inr ⟨_,rfl,?_⟩⟩
     have nlt:l≠t:=ne_fre ft R5.top
     have h4:∀o,(upd H5 t o) l=some (.lst (ts1.map fun t=>V.ref t.2)):=fun o=>(upd_ne nlt).trans R5.top
     have nlq:l≠q:=ne_fre fq (h4 _)
     have fin:∀(b:Bool) (r:Addr),b=decide (0<d)->(upd (upd H5 t (.tup [.int (1+(i:Int) - d),.int (1+(i:Int))])) q (.lst [.ref t])) r=none ->
       ∃ts2:List ((Int×Int)×Addr),zB1 (upd (upd (upd (upd H5 t (.tup [.int (1+(i:Int) - d),.int (1+(i:Int))])) q (.lst [.ref t])) r (.lst (List.replicate (if b=true then (1:Int) else 0).toNat [V.ref t]).flatten)) l (.lst (ts1.map (fun t=>V.ref t.2)++(List.replicate (if b=true then (1:Int) else 0).toNat [V.ref t]).flatten))) p /\
        Kp [p] H (upd (upd (upd (upd H5 t (.tup [.int (1+(i:Int) - d),.int (1+(i:Int))])) q (.lst [.ref t])) r (.lst (List.replicate (if b=true then (1:Int) else 0).toNat [V.ref t]).flatten)) l (.lst (ts1.map (fun t=>V.ref t.2)++(List.replicate (if b=true then (1:Int) else 0).toNat [V.ref t]).flatten))) /\
        ITs (upd (upd (upd (upd H5 t (.tup [.int (1+(i:Int) - d),.int (1+(i:Int))])) q (.lst [.ref t])) r (.lst (List.replicate (if b=true then (1:Int) else 0).toNat [V.ref t]).flatten)) l (.lst (ts1.map (fun t=>V.ref t.2)++(List.replicate (if b=true then (1:Int) else 0).toNat [V.ref t]).flatten))) l ts2 /\
        (∀t∈ts2,Fre H t.2)/\ts2.length<=ts1.length+1/\zDp m ts2:=fun b r hb hr'=>by
      have fr:Fre (upd (upd H5 t (.tup [.int (1+(i:Int) - d),.int (1+(i:Int))])) q (.lst [.ref t])) r:=hr'
      have kA:Kp [] H5 (upd (upd (upd H5 t (.tup [.int (1+(i:Int) - d),.int (1+(i:Int))])) q (.lst [.ref t])) r (.lst (List.replicate (if b=true then (1:Int) else 0).toNat [V.ref t]).flatten)):=by
       have a1:Kp [] H5 (upd H5 t (.tup [.int (1+(i:Int) - d),.int (1+(i:Int))])):=Kp.new Kp.refl ft
       have a2:Kp [] H5 (upd (upd H5 t (.tup [.int (1+(i:Int) - d),.int (1+(i:Int))])) q (.lst [.ref t])):=Kp.new a1 (a1.fre fq (by simp))
       exact Kp.new a2 (a2.fre fr (by simp))
      have RA:=R5.kp kA (by simp) (by simp)
      have hTt:(upd (upd (upd H5 t (.tup [.int (1+(i:Int) - d),.int (1+(i:Int))])) q (.lst [.ref t])) r (.lst (List.replicate (if b=true then (1:Int) else 0).toNat [V.ref t]).flatten)) t=some (.tup [.int (1+(i:Int) - d),.int (1+(i:Int))]):=by
       have b1:(upd (upd H5 t (.tup [.int (1+(i:Int) - d),.int (1+(i:Int))])) q (.lst [.ref t])) t=some (.tup [.int (1+(i:Int) - d),.int (1+(i:Int))]):=(upd_ne ntq).trans upd_same
       exact (upd_ne (ne_fre fr b1)).trans b1
      have pA:=P5.kp kA (by simp)
      have kH:Kp [p] H (upd (upd (upd H5 t (.tup [.int (1+(i:Int) - d),.int (1+(i:Int))])) q (.lst [.ref t])) r (.lst (List.replicate (if b=true then (1:Int) else 0).toNat [V.ref t]).flatten)):=K25.trans (kA.weak (by simp))
      have ntp:t≠p:=by obtain ⟨a,b,e,_⟩:=P5;exact (ne_fre ft e).symm
      have ftH:Fre H t:=K25.fre ft (nm1 ntp)
      by_cases c2:0<d
      ·have eb:b=true:=by rw [hb];exact decide_eq_true c2
       subst eb
       refine ⟨ts1++[(((1+(i:Int) - d),(1+(i:Int))),t)],pA.kp (M:=[l]) (Kp.put Kp.refl (by simp)) (nm1 npl),Kp.new kH fl,RA.more hTt,fun u hu=>?_,by rw [List.length_append];exact Nat.le_refl _,q3.more (by omega) (by omega) (by omega)⟩
       rcases List.mem_append.mp hu with z| z
       ·exact f3 u z
       ·rw [List.mem_singleton.mp z];exact ftH
      ·have eb:b=false:=by rw [hb];exact decide_eq_false c2
       subst eb
       exact ⟨ts1,pA.kp (M:=[l]) (Kp.put Kp.refl (by simp)) (nm1 npl),Kp.new kH fl,RA.same,f3,Nat.le_succ _,q3⟩
     refine ⟨_,_,_,rfl,rfl,upd_same,by split<;>decide,by split<;>decide,?_,fun r hr'=>?_⟩
     ·rw [sizeLine_eq];show 1*_<=_;split<;>decide
     have hl6:∀o2 o3,(upd (upd (upd H5 t (.tup [.int (1+(i:Int) - d),.int (1+(i:Int))])) q o2) r o3) l=some (.lst (ts1.map fun t=>V.ref t.2))\/l=r:=fun o2 o3=>by
      by_cases z:l=r
      ·exact .inr z
      ·exact .inl ((upd_ne z).trans ((upd_ne nlq).trans (h4 _)))
     have nlr:l≠r:=ne_fre (show Fre _ r from hr') ((upd_ne nlq).trans (h4 _))
     obtain ⟨ts2,g1,g2,g3,g4,g5,g6⟩:=fin _ r rfl hr'
     refine ⟨_,_,_,_,rfl,rfl,(upd_ne nlr).trans ((upd_ne nlq).trans (h4 _)),upd_same,?_,hN _ _ ⟨d,ts2,rfl,g1,g2,g3,g4,?_,g6⟩⟩
     ·have hl3:ts1.length<=191:=hl1
      rw [List.length_map,len_rep,sizeLine_eq]
      have:(if decide (0<d)=true then (1:Int) else 0).toNat<=1:=by split<;>decide
      simp only [List.length_cons,List.length_nil]
      omega
     ·rw [if_pos (Or.inr cw)];rw [if_neg (by omega)] at e3;omega
    ·have cw:¬way=2:=by simpa using c
     refine hN _ _ ⟨v6,ts1,rfl,P4,K4,R4,f3,?_,q3⟩
     by_cases z:way=1
     ·rw [if_pos z] at e3;rw [if_pos (Or.inl z)];exact e3
     ·rw [if_neg z] at e3;omega
    ·rintro σ H5 ⟨v6,ts2,rfl,P5,K5,R5,f4,e4,q4⟩
     refine ⟨_,rfl,_,rfl,(by walk_at "ln"),fun b hb=>?_⟩
     have fb:Fre H5 b:=hb
     refine ⟨_,_,rfl,.inl (SqL.of upd_same),rfl,rfl,.inr ⟨_,rfl,?_⟩⟩
     rw [if_pos rfl,inV12]
     have npb:p≠b:=by obtain ⟨x,y,e,_⟩:=P5;exact ne_fre fb e
     have nlb:l≠b:=ne_fre fb R5.top
     have hb2:(if (!(decide (way=1)||decide (way=2)))=true then (1:Int) else 0)=0\/((if (!(decide (way=1)||decide (way=2)))=true then (1:Int) else 0)=1/\¬(way=1\/way=2)):=by
      by_cases z:way=1\/way=2
      ·left
       have:(decide (way=1)||decide (way=2))=true:=by
        rcases z with z| z<;>simp [z]
       rw [this];rfl
      ·right
       refine ⟨?_,z⟩
       have:(decide (way=1)||decide (way=2))=false:=by
        rw [decide_eq_false fun y=>z (.inl y),decide_eq_false fun y=>z (.inr y)];rfl
       rw [this];rfl
     generalize (if (!(decide (way=1)||decide (way=2)))=true then (1:Int) else 0)=nn at hb2 ⊢
     have hnn:(1+(i:Int))*nn=0\/((1+(i:Int))*nn=1+i/\¬(way=1\/way=2)):=by
      rcases hb2 with z| ⟨z,z'⟩
      ·left;rw [z];omega
      ·right;rw [z];exact ⟨by omega,z'⟩
     have hmul:(1+(i:Int))*nn=0\/(1+(i:Int))*nn=1+i:=hnn.imp id And.left
     have k5b:Kp [] H5 (upd H5 b (.lst [.int 1,.int 2])):=Kp.new Kp.refl fb
     refine ⟨_,_,rfl,rfl,?_,_,rfl,by omega,by omega,zBu (lo:=0) (n:=((1+(i:Int))*nn).toNat) (fun a σ H6=>∃(o7 o8:Option V) (ts3:List ((Int×Int)×Addr)),σ=[some (.ref p),some (.int m),some (.int way),some (.int thin),some (.ref l),some (.int (1+(i:Int))),some (.int v6),o7,o8]/\zB1 H6 p/\Kp [p] H H6/\ITs H6 l ts3/\(∀t∈ts3,Fre H t.2)/\ts3.length<=ts2.length+a/\zDp m ts3)
      ⟨_,_,ts2,rfl,P5.kp k5b (by simp),K5.trans (k5b.weak (by simp)),R5.kp k5b (by simp) (by simp),f4,Nat.le_refl _,q4⟩ ?_ ?_⟩
     ·rcases hb2 with z| ⟨z,_⟩
      ·rw [z];exact Or.inl ⟨by omega,by omega⟩
      ·rw [z];exact Or.inl ⟨by omega,by omega⟩
     ·rintro a σ H6 ha ⟨o7',o8',ts3,rfl,P6,K6,R6,f5,e5,q5⟩
      have ha':(a:Int)<1+i:=by omega
      refine seq_mid (fun σ H7=>∃bN:Bool,σ=[some (.ref p),some (.int m),some (.int way),some (.int thin),some (.ref l),some (.int (1+(i:Int))),some (.int v6),some (.int (0+(a:Int))),some (.bl bN)]/\H7=H6) (fun N hN=>?_) ?_
      ·refine ⟨_,rfl,rfl,_,rfl,ite2 (fun c=>?_) (fun c=>?_)⟩
       ·exact hN _ _ ⟨true,rfl,rfl⟩
       ·refine ⟨_,rfl,_,rfl,_,_,rfl,rfl,⟨by omega,by omega⟩,_,_,rfl,rfl,_,rfl,_,rfl,_,_,rfl,rfl,⟨by omega,by omega⟩,rfl,?_⟩
        exact hN _ _ ⟨_,rfl,rfl⟩
      ·rintro σ H7 ⟨bN,rfl,rfl⟩
       refine ⟨_,rfl,_,rfl,ite2 (fun c=>?_) (fun c=>?_)⟩
       ·refine ⟨_,rfl,_,rfl,p,thin,rfl,P6,by omega,by omega,fun d H8 d0 d1 P8 K8=>?_⟩
        have R8:ITs H8 l ts3:=R6.kp K8 (nm1 npl.symm) fun t ht=>nm1 (by obtain ⟨x,y,e,_⟩:=hP;exact (ne_fre (f5 t ht) e).symm)
        have K68:=K6.trans K8
        refine ⟨rfl,_,rfl,rfl,rfl,_,rfl,ite2 (fun c=>?_) (fun c=>?_)⟩
        ·-- _law_pairs_here.append((_law_i,_law_j))
         refine ⟨_,rfl,.inl ⟨rfl,_,SqL.of R8.top⟩,_,rfl,_,rfl,(by walk_at "ln"),fun t ht=>?_⟩
         have ft:Fre H8 t:=ht
         have nlt:l≠t:=ne_fre ft R8.top
         have ntp:t≠p:=by obtain ⟨x,y,e,_⟩:=P8;exact (ne_fre ft e).symm
         have k8:Kp [] H8 (upd H8 t (.tup [.int (0+(a:Int)),.int (1+(i:Int))])):=Kp.new Kp.refl ft
         refine ⟨_,_,_,rfl,rfl,(upd_ne nlt).trans R8.top,?_,_,_,ts3++[((0+(a:Int),1+(i:Int)),t)],rfl,(P8.kp k8 (by simp)).kp (M:=[l]) (Kp.put Kp.refl (by simp)) (nm1 npl),Kp.new (K68.trans (k8.weak (by simp))) fl,(R8.kp k8 (by simp) (by simp)).more upd_same,fun u hu=>?_,?_,q5.more (by omega) (by omega) (by omega)⟩
         ·rw [List.length_map,sizeLine_eq]
          have:(if way=1\/way=2 then 1 else 0)<=1:=by split<;>decide
          omega
         ·rcases List.mem_append.mp hu with z| z
          ·exact f5 u z
          ·rw [List.mem_singleton.mp z];exact K68.fre ft (nm1 ntp)
         ·rw [List.length_append];simp only [List.length_cons,List.length_nil];omega
        ·exact ⟨_,_,ts3,rfl,P8,K68,R8,f5,by omega,q5⟩
       ·exact ⟨_,_,ts3,rfl,P6,K6,R6,f5,by omega,q5⟩
     ·rintro σ H6 ⟨o7',o8',ts3,rfl,P6,K6,R6,f5,e5,q5⟩
      refine ⟨_,_,_,_,ts3,rfl,P6,K6,R6,f5,?_,q5⟩
      have:=tri_step i
      have e6:ts3.length<=ts.length+(i+1):=by
       rcases hnn with z| ⟨z,z'⟩
       ·have:(if way=1\/way=2 then 1 else 0)<=1:=by split<;>decide
        rw [z] at e5
        have e5:ts3.length<=ts2.length+0:=e5
        omega
       ·rw [if_neg z'] at e4
        rw [z] at e5
        have:(1+(i:Int)).toNat=i+1:=by omega
        omega
      have e7:(i+1)*(i+1+1)=(i+1)*(i+2):=rfl
      rw [e7,<-this]
      omega
  ·rintro σ H2 ⟨o5,o6,o7,o8,ts,rfl,P2,K2,R2,f2,e2,q2⟩
   have hle:(m - 1).toNat*((m - 1).toNat+1)<=7*8:=Nat.mul_le_mul (by omega) (by omega)
   exact ⟨_,rfl,k l ts H2 fl R2 f2 (by omega) q2 P2 K2⟩
end
theorem zHf {α:Type} [BEq α] [LawfulBEq α]:∀{L:List α} {i:Nat} {x:α},L.Nodup->L[i]?=some x->L.idxOf x=i
 | [],i,x,_,h=>by simp at h
 | y::L,0,x,_,h=>by
  have:y=x:=Option.some.inj h
  subst this
  simp
 | y::L,i+1,x,hn,h=>by
  rw [List.getElem?_cons_succ] at h
  obtain ⟨h1,h2⟩:=List.nodup_cons.mp hn
  have hne:y≠x:=fun z=>h1 (z▸List.mem_of_getElem? h)
  rw [List.idxOf_cons,beq_eq_false_iff_ne.mpr hne]
  show L.idxOf x+1=i+1
  rw [zHf h2 h]
theorem map_nodup {α β:Type} {f:α->β}:∀{L:List α},L.Nodup->(∀a∈L,∀b∈L,f a=f b->a=b)->(L.map f).Nodup
 | [],_,_=>List.nodup_nil
 | x::L,h,hi=>by
  obtain ⟨h1,h2⟩:=List.nodup_cons.mp h
  rw [List.map_cons]
  refine List.nodup_cons.mpr ⟨fun z=>?_,map_nodup h2 fun a ha b hb=>hi a (List.mem_cons_of_mem _ ha) b (List.mem_cons_of_mem _ hb)⟩
  obtain ⟨y,hy,e⟩:=List.mem_map.mp z
  rw [hi y (List.mem_cons_of_mem _ hy) x List.mem_cons_self e] at hy
  exact h1 hy
theorem ne_nil_read {K:PySem.W.Frag} {H:Hp} {c e:Addr} {xs:List V} {Q:VK} (h1:SqL K H c xs) (h2:SqL K H e []) (h:∀bb:Bool,(bb=true->xs≠[])->Q (.bl bb) H):zH7 K 8 false (.ref c) (.ref e) H Q\/rUnlen K true (.ref c) (.ref e) H Q:=by
 by_cases z:xs=[]
 ·subst z
  exact .inl ⟨c,e,_,_,rfl,rfl,h1,h2,rfl,(fun i x y h=>by simp at h),h false (fun z=>nomatch z)⟩
 ·refine .inr ⟨c,e,_,_,rfl,rfl,h1,h2,fun y=>z (List.length_eq_zero_iff.mp y),h true fun _=>z⟩
structure Spots (Is:List Int) (m:Nat):Prop where
 len:Is.length=m
 nd:Is.Nodup
 lt:∀x∈Is,0<=x/\x<m
theorem Spots.put {Is:List Int} {m:Nat} (S:Spots Is m) (d:Nat):Spots (Is.take d++(m:Int)::Is.drop d) (m+1):=by
 have hp:=ST.ins_perm Is d (m:Int)
 refine ⟨by rw [hp.length_eq,List.length_cons,S.len],hp.nodup_iff.mpr (List.nodup_cons.mpr ⟨fun z=>?_,S.nd⟩),fun x hx=>?_⟩
 ·have:=(S.lt _ z).2;omega
 ·rcases List.mem_cons.mp (hp.mem_iff.mp hx) with z| z
  ·subst z;omega
  ·have:=S.lt x z;omega
def rowOf (ns:List Str) (Is:List Int):List Str:=Is.map fun k=>ns.getD k.toNat Str.empty
theorem rowOf_nd {ns:List Str} {Is:List Int} (hn:ns.Nodup) (S:Spots Is ns.length):(rowOf ns Is).Nodup:=by
 refine map_nodup S.nd fun a ha b hb e=>?_
 have h1:=S.lt a ha
 have h2:=S.lt b hb
 have e1:ns.getD a.toNat Str.empty=ns[a.toNat]'(by omega):=by rw [List.getD_eq_getElem?_getD,List.getElem?_eq_getElem (by omega)];rfl
 have e2:ns.getD b.toNat Str.empty=ns[b.toNat]'(by omega):=by rw [List.getD_eq_getElem?_getD,List.getElem?_eq_getElem (by omega)];rfl
 rw [e1,e2] at e
 have:=(List.getElem_inj hn).mp e
 omega
theorem rowOf_at {ns:List Str} {Is:List Int} (S:Spots Is ns.length) {i:Int} (h0:0<=i) (h1:i<ns.length):∃s n,Is[i.toNat]?=some s/\0<=s/\ns[s.toNat]?=some n/\(rowOf ns Is)[i.toNat]?=some n:=by
 have hi:i.toNat<Is.length:=by rw [S.len];omega
 have hs:=S.lt Is[i.toNat] (List.getElem_mem hi)
 have hs':Is[i.toNat].toNat<ns.length:=by omega
 refine ⟨Is[i.toNat],ns[Is[i.toNat].toNat],List.getElem?_eq_getElem hi,hs.1,List.getElem?_eq_getElem hs',?_⟩
 unfold rowOf
 rw [List.getElem?_map,List.getElem?_eq_getElem hi]
 show some (ns.getD _ _)=_
 rw [List.getD_eq_getElem?_getD,List.getElem?_eq_getElem hs'];rfl
theorem ins_map {α β:Type} (f:α->β) (L:List α) (d:Nat) (x:α):(L.map f).take d++f x::(L.map f).drop d=(L.take d++x::L.drop d).map f:=by
 rw [List.map_append,List.map_cons,List.map_take,List.map_drop]
theorem it_at {ts:List ((Int×Int)×Addr)} {i:Nat} {v:V} (h:(ts.map fun q=>V.ref q.2)[i]?=some v):∃q,ts[i]?=some q/\v= .ref q.2:=by
 rw [List.getElem?_map] at h
 obtain ⟨n,e,r⟩:=Option.map_eq_some_iff.mp h
 exact ⟨n,e,r.symm⟩
section
variable {P:Program} {w:World} {K:PySem.W.Frag} {mg:Str->Option Value} {base:Heap}
def spLJobs:Sp:=fun vs H Q _=>∃(p:Addr) (mo:Int),vs=[.ref p,.int mo]/\0<=mo/\mo<=8/\zB1 H p/\∀(t l m:Addr) (ns:List Str) (qs:List (List Str×Addr)) (r:Str->Nat) (H':Hp),(ns.length:Int)<=mo->qs.length<=30->H' t=some (.tup [.ref l,.ref m])->Fre H t->Fre H l->Fre H m->(∀q∈qs,Fre H q.2)->Txs H' l ns->Ords H' m qs->Good ns qs r->zB1 H' p->Kp [p] H H'->Q (.ref t) H'
abbrev s_jobs:Stmt:=top 46
theorem zDx:FnScope ["_law_purse_here", "_law_most", "_law_many", "_law_names_here", "_law_way", "_law_thin", "_law_pairs_here", "_law_k", "_law_spots"] ["_law_purse_here", "_law_most"] (zAe s_jobs):=⟨rfl,rfl,rfl,by decide +kernel,rfl,by decide +kernel,by decide +kernel⟩
theorem ok_jobs {f:Addr} {fd:FuncData} (F:Fun K "_law_jobs" "_law_jobs" s_jobs f fd) (T:Txt K mg) (C_take:Cal P w K mg base "_law_take" 1 ["_law_purse_here", "_law_many"] zH3) (C_names:Cal P w K mg base "_law_names" 2 ["_law_purse_here", "_law_many"] zIr)
  (C_pairs:Cal P w K mg base "_law_pairs" 2 ["_law_purse_here", "_law_many", "_law_way", "_law_thin"] spLPairs):FnOk P w K mg base CX0 3 f fd ["_law_purse_here", "_law_most"] spLJobs:=by
 refine F.ok zDx (fun vs H Q E h=>?_) (fun cdv A outer s H vs Q E hr h=>?_)
 ·obtain ⟨p,mo,rfl,_⟩:=h
  rfl
 ·obtain ⟨p,mo,rfl,mo0,mo1,hP,k⟩:=h
  have HR_names:=hr
  have HR_pairs:=hr
  have HR_take:=hr.mono (j:=1) (by decide)
  refine ⟨_,(zAc (zAn (i:=2) zDx.nd rfl (by walk_at "lc") (zAi C_take HR_take rfl (zAa (pv 0) (zAa (zAs zCs (pv 1) zAg) zAb))))
   (zAc (zAn (i:=3) zDx.nd rfl (by walk_at "lc") (zAi C_names HR_names rfl (zAa (pv 0) (zAa (pv 2) zAb))))
   (zAc (zAn (i:=4) zDx.nd rfl (by walk_at "lc") (zAi C_take HR_take rfl (zAa (pv 0) (zAa zAg zAb))))
   (zAc (zAn (i:=5) zDx.nd rfl (by walk_at "lc") (zA9 zA1 (zBo (zAa zAg (zAa zAg (zAa zAg (zAa zAg (zAa zAg zAb)))))) (zAi C_take HR_take rfl (zAa (pv 0) (zAa zAg zAb))) (fun _ _=>rfl)))
   (zAc (zAn (i:=6) zDx.nd rfl (by walk_at "lc") (zAi C_pairs HR_pairs rfl (zAa (pv 0) (zAa (pv 2) (zAa (pv 4) (zAa (pv 5) zAb))))))
   (zAc (zBb PassesOwn.never rfl (zBj rfl T.z_range (zAa (zAs zFn (zAy zFv (by rfl) T.z_int bo_int (zAa (zBg (op_neAU HR_take) (pv 6) (zBo zAb) (zAt _)) zAb)) (zAi C_take HR_take rfl (zAa (pv 0) (zAa zAg zAb)))) zAb)) (zAk (i:=7) zDx.nd rfl (by walk_at "lc"))
    (zAd (zA3 (zDm PySem.F.plainAttrs_list PySem.F.slot_list_insert PySem.F.type_list_insert zG7 (pv 6) (zAa (zAi C_take HR_take rfl (zAa (pv 0) (zAa (zAs zCs (zAf zAp (by rfl) T.z_len zBv (zAa (pv 6) zAb)) zAg) zAb))) (zAa (zA9 zA1 (pv 6) (zAi C_take HR_take rfl (zAa (pv 0) (zAa (zAf zAp (by rfl) T.z_len zBv (zAa (pv 6) zAb)) zAb))) (fun _ _=>rfl)) zAb))))))
   (zAc (zAn (i:=8) zDx.nd rfl (by walk_at "lc") (zBo zAb))
   (zAc (zBb PassesOwn.never rfl (zBj rfl T.z_range (zAa (pv 2) zAb)) (zAk (i:=7) zDx.nd rfl (by walk_at "lc"))
    (zAd (zA3 (zDm PySem.F.plainAttrs_list PySem.F.slot_list_insert PySem.F.type_list_insert zG7 (pv 8) (zAa (zAi C_take HR_take rfl (zAa (pv 0) (zAa (zAs zCs (pv 7) zAg) zAb))) (zAa (pv 7) zAb))))))
   (zAd (zAq (zB9 (zAa (pv 3) (zAa (zBz rfl (zB4 (sc:=zAe s_jobs) rfl (by decide +kernel)) (Draws.own (x:= "_law_i") (Draws.own (x:= "_law_j") (Draws.tk (i:=3) rfl (by walk_at "vs") (by walk_at "vk") (by walk_at "vf") (Draws.tk (i:=8) rfl (by walk_at "vs") (by walk_at "vk") (by walk_at "vf") Draws.nil)))) (zAx (pv 6)) (fun C s₀ H₀ ex=>(zI2 (K:=K) (n:=2) rfl (zA8 (zAk (i:=0) (show List.Nodup (["_law_i", "_law_j", "_law_names_here", "_law_spots"]:List Str) by decide +kernel) rfl (by walk_at "lc")) (zA8 (zAk (i:=1) (show List.Nodup (["_law_i", "_law_j", "_law_names_here", "_law_spots"]:List Str) by decide +kernel) rfl (by walk_at "lc")) zD9)))) (fun C s₀ H₀ ex=>zB8) (fun C s₀ H₀ ex=>(zB9 (zAa (zA9 (zCh (K:=K)) (pv 2) (zA9 (zCh (K:=K)) (pv 3) (pv 0) (fun _ _=>rfl)) (fun _ _=>rfl)) (zAa (zA9 (zCh (K:=K)) (pv 2) (zA9 (zCh (K:=K)) (pv 3) (pv 1) (fun _ _=>rfl)) (fun _ _=>rfl)) zAb))))) zAb))))))))))))),?_⟩
  refine ⟨_,rfl,_,rfl,_,_,rfl,rfl,p,mo+1,rfl,hP,by omega,by omega,fun m H1 m0 m1 P1 K1=>?_⟩
  refine ⟨_,rfl,_,rfl,p,m,rfl,P1,m0,by omega,fun l ns H2 fl hl en nd nm P2 K2=>?_⟩
  have npl:p≠l:=by obtain ⟨a,b,e,_⟩:=P1;exact ne_fre fl e
  refine ⟨_,rfl,p,6,rfl,P2,by decide,by decide,fun way H3 w0 w1 P3 K3=>?_⟩
  refine ⟨(by walk_at "ln"),fun b hb=>?_⟩
  have fb:Fre H3 b:=hb
  have npb:p≠b:=by obtain ⟨x,y,e,_⟩:=P3;exact ne_fre fb e
  refine ⟨_,rfl,p,5,rfl,P3.kp (M:=[]) (Kp.new Kp.refl fb) (by simp),by decide,by decide,fun d H4 d0 d1 P4 K4=>?_⟩
  obtain ⟨th,hth,th2,th12⟩:∃th:Int,([V.int 2,.int 3,.int 4,.int 6,.int 12])[d.toNat]?=some (.int th)/\2<=th/\th<=12:=by
   have:d=0\/d=1\/d=2\/d=3\/d=4:=by omega
   rcases this with rfl| rfl| rfl| rfl| rfl
   ·exact ⟨2,rfl,by decide,by decide⟩
   ·exact ⟨3,rfl,by decide,by decide⟩
   ·exact ⟨4,rfl,by decide,by decide⟩
   ·exact ⟨6,rfl,by decide,by decide⟩
   ·exact ⟨12,rfl,by decide,by decide⟩
  refine ⟨_,_,_,.int th,rfl,rfl,SqL.of (K4 b _ upd_same (nm1 npb.symm)),zA0 d0 hth,?_⟩
  have K34:Kp [p] H3 H4:=Kp.trans (Kp.new Kp.refl fb) K4
  have K14:Kp [p] H1 H4:=K2.trans (K3.trans K34)
  have hl4:Txs H4 l ns:=(K3.trans K34) l _ hl (nm1 npl.symm)
  refine ⟨_,rfl,_,rfl,_,rfl,_,rfl,p,m,way,th,rfl,P4,m0,by omega,th2,th12,fun c ts H5 fc I5 ft5 tl5 ok5 P5 K5=>?_⟩
  have npc:p≠c:=by obtain ⟨x,y,e,_⟩:=P4;exact ne_fre fc e
  have hl5:Txs H5 l ns:=K5 l _ hl4 (nm1 npl.symm)
  have nlc:l≠c:=ne_fre fc hl4
  have K05:Kp [p] H H5:=K1.trans (K14.trans K5)
  have fcH:Fre H c:=(K1.trans K14).fre fc (nm1 npc.symm)
  have flH:Fre H l:=K1.fre fl (nm1 npl.symm)
  refine ⟨_,rfl,(by walk_at "ln"),fun e he=>?_⟩
  have fe:Fre H5 e:=he
  have npe:p≠e:=by obtain ⟨x,y,q,_⟩:=P5;exact ne_fre fe q
  have k5e:Kp [] H5 (upd H5 e (.lst [])):=Kp.new Kp.refl fe
  have I5e:=I5.kp k5e (by simp) (by simp)
  refine ne_nil_read (xs:=ts.map fun t=>V.ref t.2) (SqL.of I5e.top) (SqL.of upd_same) fun bb hbb=>?_
  refine .inr ⟨bb,rfl,?_⟩
  refine ⟨_,rfl,p,3,rfl,P5.kp k5e (by simp),by decide,by decide,fun dd H6 dd0 dd1 P6 K6=>?_⟩
  have K56:Kp [p] H5 H6:=Kp.trans (k5e.weak (by simp)) K6
  have ntp:∀t∈ts,t.2∉[p]:=fun t ht=>nm1 (by obtain ⟨x,y,q,_⟩:=P4;exact (ne_fre (ft5 t ht) q).symm)
  have I6:ITs H6 c ts:=I5e.kp K6 (nm1 npc.symm) ntp
  have hmul:(if bb=true then (1:Int) else 0)*dd=0\/((if bb=true then (1:Int) else 0)*dd=dd/\ts≠[]):=by
   cases bb with
   | false=>left;rw [if_neg (by decide)];omega
   | true=>right;rw [if_pos rfl];exact ⟨by omega,fun z=>hbb rfl (by rw [z];rfl)⟩
  have hml:(if bb=true then (1:Int) else 0)=0\/(if bb=true then (1:Int) else 0)=1:=by cases bb<;>simp
  generalize (if bb=true then (1:Int) else 0)=n01 at hmul hml ⊢
  refine ⟨_,_,rfl,rfl,?_,_,rfl,by rcases hmul with z| ⟨z,_⟩<;>omega,by rcases hmul with z| ⟨z,_⟩<;>omega,zBu (lo:=0) (n:=(n01*dd).toNat) (fun i σ H7=>∃(o7 o8:Option V) (ts':List ((Int×Int)×Addr)),σ=[some (.ref p),some (.int mo),some (.int m),some (.ref l),some (.int way),some (.int th),some (.ref c),o7,o8]/\zB1 H7 p/\Kp [p] H H7/\Txs H7 l ns/\ITs H7 c ts'/\(∀t∈ts',t∈ts)/\ts'.length=ts.length+i)
   ⟨_,_,ts,rfl,P6,K05.trans K56,K56 l _ hl5 (nm1 npl.symm),I6,fun t h=>h,rfl⟩ ?_ ?_⟩
  ·rcases hml with z| z
   ·exact Or.inl ⟨by omega,by omega⟩
   ·exact Or.inl ⟨by omega,by omega⟩
  ·rintro i σ H7 hi ⟨o7,o8,ts',rfl,P7,K7,hl7,I7,s7,e7⟩
   have ne:ts≠[]:=by
    rcases hmul with z| ⟨_,z⟩
    ·rw [z] at hi;exact absurd hi (Nat.not_lt_zero _)
    ·exact z
   have pos:0<ts'.length:=by
    have:=List.length_pos_iff.mpr ne
    omega
   have ntp':∀t∈ts',t.2∉[p]:=fun t ht=>ntp t (s7 t ht)
   have nlc':l≠c:=nlc
   refine ⟨_,rfl,.inl ⟨rfl,_,SqL.of I7.top⟩,_,rfl,_,rfl,_,_,rfl,.inl (SqL.of I7.top),_,_,rfl,rfl,p,_,rfl,P7,?_,?_,fun d1 H8 x0 x1 P8 K8=>?_⟩
   ·omega
   ·rw [List.length_map]
    have:i<3:=by rcases hmul with z| ⟨z,_⟩<;>omega
    omega
   have I8:ITs H8 c ts':=I7.kp K8 (nm1 npc.symm) ntp'
   refine ⟨_,rfl,_,rfl,_,rfl,_,_,rfl,.inl (SqL.of I8.top),p,_,rfl,P8,?_,?_,fun d2 H9 y0 y1 P9 K9=>?_⟩
   ·rw [List.length_map];omega
   ·rw [List.length_map]
    have:i<3:=by rcases hmul with z| ⟨z,_⟩<;>omega
    omega
   have I9:ITs H9 c ts':=I8.kp K9 (nm1 npc.symm) ntp'
   rw [List.length_map] at x1 y1
   obtain ⟨t,et⟩:∃t,ts'[d2.toNat]?=some t:=⟨ts'[d2.toNat]'(by omega),List.getElem?_eq_getElem (by omega)⟩
   have evt:(ts'.map fun t=>V.ref t.2)[d2.toNat]?=some (V.ref t.2):=by rw [List.getElem?_map,et];rfl
   refine ⟨_,_,_,.ref t.2,rfl,rfl,SqL.of I9.top,zA0 y0 evt,_,_,_,_,rfl,rfl,I9.top,?_,x0,?_,?_⟩
   ·rw [List.length_map,sizeLine_eq]
    have:i<3:=by rcases hmul with z| ⟨z,_⟩<;>omega
    omega
   ·rw [List.length_map];omega
   ·have hp:=ST.ins_perm ts' d1.toNat t
    refine ⟨_,_,ts'.take d1.toNat++t::ts'.drop d1.toNat,rfl,P9.kp (M:=[c]) (Kp.put Kp.refl (by simp)) (nm1 npc),Kp.new (K7.trans (K8.trans K9)) fcH,(upd_ne nlc).trans ((K8.trans K9) l _ hl7 (nm1 npl.symm)),⟨?_,fun u hu=>?_⟩,fun u hu=>?_,?_⟩
    ·rw [upd_same,ins_map (fun t:(Int×Int)×Addr=>V.ref t.2)]
    ·have hu':u∈ts':=by
      rcases List.mem_cons.mp (hp.mem_iff.mp hu) with z| z
      ·rw [z];exact List.mem_of_getElem? et
      ·exact z
     exact (upd_ne (zBd (I9.row u hu') I9.top (fun y=>nomatch y))).trans (I9.row u hu')
    ·rcases List.mem_cons.mp (hp.mem_iff.mp hu) with z| z
     ·rw [z];exact s7 t (List.mem_of_getElem? et)
     ·exact s7 u z
    ·rw [hp.length_eq,List.length_cons,e7];omega
  ·rintro σ H7 ⟨o7,o8,ts',rfl,P7,K7,hl7,I7,s7,e7⟩
   have hts:ts'.length<=30:=by rcases hmul with z| ⟨z,_⟩<;>omega
   refine ⟨(by walk_at "ln"),fun g hg=>?_⟩
   have fg:Fre H7 g:=hg
   have npg:p≠g:=by obtain ⟨x,y,q,_⟩:=P7;exact ne_fre fg q
   have nlg:l≠g:=ne_fre fg hl7
   have ncg:c≠g:=ne_fre fg I7.top
   have fgH:Fre H g:=K7.fre fg (nm1 npg.symm)
   have k7g:Kp [] H7 (upd H7 g (.lst [])):=Kp.new Kp.refl fg
   have ntp':∀t∈ts',t.2∉[p]:=fun t ht=>ntp t (s7 t ht)
   refine ⟨_,rfl,_,rfl,by omega,by omega,zBu (lo:=0) (n:=m.toNat) (fun i σ H8=>∃(o7:Option V) (Is:List Int),σ=[some (.ref p),some (.int mo),some (.int m),some (.ref l),some (.int way),some (.int th),some (.ref c),o7,some (.ref g)]/\zB1 H8 p/\Kp [p] H H8/\Txs H8 l ns/\ITs H8 c ts'/\H8 g=some (.lst (Is.map V.int))/\Spots Is i)
    ⟨_,[],rfl,P7.kp k7g (by simp),Kp.new K7 fgH,k7g l _ hl7 (by simp),I7.kp k7g (by simp) (by simp),upd_same,rfl,List.nodup_nil,(fun x h=>nomatch h)⟩ ?_ ?_⟩
   ·rintro i σ H8 hi ⟨o7,Is,rfl,P8,K8,hl8,I8,hg8,S8⟩
    refine ⟨_,rfl,.inl ⟨rfl,_,SqL.of hg8⟩,_,rfl,_,rfl,_,_,rfl,rfl,p,_,rfl,P8,?_,?_,fun d1 H9 x0 x1 P9 K9=>?_⟩
    ·omega
    ·omega
    have hg9:=K9 g _ hg8 (nm1 npg.symm)
    refine ⟨_,rfl,_,_,_,_,rfl,rfl,hg9,?_,x0,?_,?_⟩
    ·rw [List.length_map,S8.len,sizeLine_eq];omega
    ·rw [List.length_map,S8.len];omega
    ·have e1:(Is.map V.int).take d1.toNat++V.int (0+(i:Int))::(Is.map V.int).drop d1.toNat=(Is.take d1.toNat++(i:Int)::Is.drop d1.toNat).map V.int:=by
      rw [Int.zero_add];exact ins_map V.int Is d1.toNat (i:Int)
     rw [e1]
     have hl9:=K9 l _ hl8 (nm1 npl.symm)
     have I9:=I8.kp K9 (nm1 npc.symm) ntp'
     exact ⟨_,_,rfl,P9.kp (M:=[g]) (Kp.put Kp.refl (by simp)) (nm1 npg),Kp.new (K8.trans K9) fgH,(upd_ne nlg).trans hl9,⟨(upd_ne ncg).trans I9.top,fun u hu=>(upd_ne (zBd (I9.row u hu) hg9 (fun y=>nomatch y))).trans (I9.row u hu)⟩,upd_same,S8.put _⟩
   ·rintro σ H8 ⟨o7,Is,rfl,P8,K8,hl8,I8,hg8,S8⟩
    rw [<-en] at S8
    have hmn:(ns.length:Int)=m:=by rw [en];omega
    refine ⟨_,rfl,_,rfl,_,rfl,⟨_,SqL.of I8.top⟩,fun B hB=>zBl (ts'.map fun t=>V.ref t.2) (fun i ys τ H9=>∃ks:List (List Str×Addr),(∃o0 o1,τ=[o0,o1,some (.ref l),some (.ref g)])/\ys=(ks.map fun q=>V.ref q.2)/\ks.length=i/\(∀q∈ks,H9 q.2=some (.tup (q.1.map V.str))/\Fre H q.2/\∃(a b:Str) (x y:Nat),q.1=[a,b]/\x<y/\(rowOf ns Is)[x]?=some a/\(rowOf ns Is)[y]?=some b)/\Kp [] H8 H9/\H9 B=some (.lst ys))
     ⟨[],⟨_,_,rfl⟩,rfl,rfl,(fun q h=>nomatch h),Kp.new Kp.refl hB,upd_same⟩ (fun i ys τ H9 ⟨_,_,_,_,_,k9,_⟩=>SqL.of (k9 c _ I8.top (by simp))) ?_ ?_⟩
    ·rintro i v ys τ H9 hv ⟨ks,⟨o0,o1,rfl⟩,rfl,ek,hk,k9,h9⟩
     obtain ⟨t,eq,rfl⟩:=it_at hv
     have mt:=List.mem_of_getElem? eq
     have okt:=ok5 t (s7 t mt)
     have hrow:H9 t.2=some (.tup [.int t.1.1,.int t.1.2]):=k9 t.2 _ (I8.row t mt) (by simp)
     refine ⟨_,_,rfl,.inl (.inl hrow),rfl,_,_,rfl,_,_,rfl,rfl,?_⟩
     obtain ⟨s1,n1,a1,a2,a3,a4⟩:=rowOf_at S8 okt.1 (by omega)
     obtain ⟨s2,n2,b1,b2,b3,b4⟩:=rowOf_at S8 (i:=t.1.2) (by omega) (by omega)
     have hl9:=k9 l _ hl8 (by simp)
     have hg9:=k9 g _ hg8 (by simp)
     have ai:∀{x:Int} {s:Int},0<=x->Is[x.toNat]?=some s->atI (Is.map V.int) x=some (.int s):=fun h0 h=>zA0 h0 (by rw [List.getElem?_map,h];rfl)
     have an:∀{x:Int} {n:Str},0<=x->ns[x.toNat]?=some n->atI (ns.map V.str) x=some (.str n):=fun h0 h=>zA0 h0 (by rw [List.getElem?_map,h];rfl)
     refine ⟨_,rfl,_,rfl,_,rfl,_,_,_,_,rfl,rfl,SqL.of hg9,ai okt.1 a1,_,_,_,_,rfl,rfl,SqL.of hl9,an a2 a3,_,rfl,_,rfl,_,rfl,_,_,_,_,rfl,rfl,SqL.of hg9,ai (by omega) b1,_,_,_,_,rfl,rfl,SqL.of hl9,an b2 b3,(by walk_at "ln"),fun u hu=>?_⟩
     have fu:Fre H9 u:=hu
     have nBu:B≠u:=ne_fre fu h9
     have hu8:Fre H8 u:=k9.fre fu (by simp)
     have npu:p≠u:=by obtain ⟨x,y,q,_⟩:=P8;exact ne_fre hu8 q
     have fuH:Fre H u:=K8.fre hu8 (nm1 npu.symm)
     refine ⟨(upd_ne nBu).trans h9,?_,ks++[([n1,n2],u)],⟨_,_,rfl⟩,?_,by rw [List.length_append,ek];rfl,fun q hq=>?_,Kp.new (Kp.new k9 (k9.fre fu (by simp))) hB,upd_same⟩
     ·have:=(List.getElem?_eq_some_iff.mp eq).1
      rw [List.length_map,ek,sizeLine_eq];omega
     ·rw [List.map_append];rfl
     ·rcases List.mem_append.mp hq with z| z
      ·obtain ⟨z1,z2⟩:=hk q z
       exact ⟨(upd_ne (zBd z1 h9 (fun y=>nomatch y))).trans ((upd_ne (ne_fre fu z1)).trans z1),z2⟩
      ·rw [List.mem_singleton.mp z]
       exact ⟨(upd_ne nBu.symm).trans upd_same,fuH,n1,n2,t.1.1.toNat,t.1.2.toNat,rfl,by omega,a4,b4⟩
    ·rintro ys τ H9 ⟨ks,_,rfl,ek,hk,k9,h9⟩
     rw [List.length_map] at ek
     refine ⟨(by walk_at "ln"),fun t ht=>?_⟩
     have ft:Fre H9 t:=ht
     have k10:Kp [] H9 (upd H9 t (.tup [.ref l,.ref B])):=Kp.new Kp.refl ft
     have ft8:Fre H8 t:=k9.fre ft (by simp)
     have npt:p≠t:=by obtain ⟨x,y,q,_⟩:=P8;exact ne_fre ft8 q
     have npB:p≠B:=by obtain ⟨x,y,q,_⟩:=P8;exact ne_fre (show Fre H8 B from hB) q
     have rnd:=rowOf_nd nd S8
     have rin:∀{x:Nat} {a:Str},(rowOf ns Is)[x]?=some a->a∈ns:=fun {x a} h=>by
      obtain ⟨s,hs,e⟩:=List.mem_map.mp (List.mem_of_getElem? h)
      have:=S8.lt s hs
      rw [<-e,List.getD_eq_getElem?_getD,List.getElem?_eq_getElem (by omega)]
      exact List.getElem_mem _
     refine k t l B ns ks (fun n=>(rowOf ns Is).idxOf n) _ (by rw [en];omega) (by omega) upd_same (K8.fre ft8 (nm1 npt.symm)) flH (K8.fre (show Fre H8 B from hB) (nm1 npB.symm)) (fun q hq=>(hk q hq).2.1) ((k9.trans k10) l _ hl8 (by simp)) ⟨k10 B _ h9 (by simp),fun q hq=>k10 _ _ (hk q hq).1 (by simp),fun q hq=>?_⟩ ⟨nm,nd,by rw [en];omega,by omega,fun q hq x hx=>?_,fun q hq=>?_⟩ (P8.kp (k9.trans k10) (by simp)) (K8.trans ((k9.trans k10).weak (by simp)))
     ·obtain ⟨a,b,x,y,e,_⟩:=(hk q hq).2.2
      exact ⟨a,b,e⟩
     ·obtain ⟨a,b,i,j,e,_,h1,h2⟩:=(hk q hq).2.2
      rw [e] at hx
      rcases List.mem_cons.mp hx with z| z
      ·rw [z];exact rin h1
      ·rw [List.mem_singleton.mp z];exact rin h2
     ·obtain ⟨a,b,i,j,e,hij,h1,h2⟩:=(hk q hq).2.2
      have e1:fst q=a:=by unfold fst;rw [e];rfl
      have e2:snd q=b:=by unfold snd;rw [e];rfl
      rw [e1,e2,zHf rnd h1,zHf rnd h2]
      exact hij
end
end My
namespace ST
open PySem L2 PySem.SetTable PyProof.Rows
def SetT {prog:Program} {w:World} (h:Heap) (a:Addr) (ks:List Str):Prop:=∃S,h.SetOf (PySem.strKind prog w) a S ks.length/\∀k,S k=decide (k∈ks)
section
variable {prog:Program} {w:World} {A:Around} {R:Result->Shared->Prop} {I:Addr} {fp wr:List Addr} {G:Array GenState->Array GenState->Prop} {P:Nat->Value->Prop} {St:Nat->Shared->Prop}
theorem SetT.kept {h h':Heap} {a:Addr} {ks:List Str} (g:SetT (prog:=prog) (w:=w) h a ks) (e:∀o,h.get? a=some o->h'.get? a=some o):SetT (prog:=prog) (w:=w) h' a ks :=
 let ⟨S,⟨o,es,ep,t,ho,r⟩,m⟩:=g
 ⟨S,⟨o,es,ep,t,e o ho,r⟩,m⟩
theorem c_fillS {ks:List Str} (W:WalksS prog w A.in1 I fp wr G ks.length P St) (a:Addr) (haf:a∉fp) (hP:∀i v,P i v->∃x,ks[i]?=some x/\RelV (.str x) v) (nd:ks.Nodup) (hc:ks.length<=306) :
  ∀(k i:Nat) (s:Shared),ks.length=i+k->St i s->SetT (prog:=prog) (w:=w) s.heap a (ks.take i) ->
   (∀s',Moved (a::wr) G s s'->SetT (prog:=prog) (w:=w) s'.heap a ks->R (.ok (.ret .none)) s')->codeAny (model prog w) A (.builtin "set.update.loop" ⟨[.ref a,.ref I],[]⟩) R s:=by
 have haw:a∉wr:=fun z=>haf (W.sub a z)
 intro k
 induction k with
 | zero =>
  intro i s e st g hR
  have e:i=ks.length:=by omega
  subst e
  rw [List.take_length] at g
  refine codeAny_builtin PyProof.Rows.F.entry_set_update_loop ?_
  rw [Around.under_plainId PyProof.Rows.F.plain_set_update_loop _]
  change wpAny _ A.in1 (pyNext (Value.ref I) >>= _) _ _ s
  exact wpAny_bind (W.done s _ _ st fun s1 mv=>wpAny_pure (hR s1 (mv.mono fun b hb=>List.mem_cons_of_mem a hb) (g.kept fun o q=>mv.heap a o haw q)))
 | succ k ih =>
  intro i s e st g hR
  have hi:i<ks.length:=by omega
  refine codeAny_builtin PyProof.Rows.F.entry_set_update_loop ?_
  rw [Around.under_plainId PyProof.Rows.F.plain_set_update_loop _]
  change wpAny _ A.in1 (pyNext (Value.ref I) >>= _) _ _ s
  refine wpAny_bind (W.item i s _ _ hi st fun v s1 pv st1 mv=>?_)
  obtain ⟨x,ex,t,rfl⟩:=hP i v pv
  have hx:x∉ks.take i:=fun z=>by
   obtain ⟨hi',rfl⟩:=List.getElem?_eq_some_iff.mp ex
   obtain ⟨j,hj,e2⟩:=List.mem_iff_getElem.mp z
   rw [List.length_take] at hj
   rw [List.getElem_take] at e2
   have:=(List.getElem_inj nd).mp e2
   omega
  obtain ⟨S,g1,m⟩:=g.kept (h':=s1.heap) fun o q=>mv.heap a o haw q
  change wpAny _ A.in1 (holding [Value.str x t] (setAdd a (.str x t)) >>= _) _ _ s1
  refine wpAny_bind (wpAny_holding ?_)
  unfold setAdd
  have lt:(ks.take i).length=i:=by rw [List.length_take];omega
  refine wpAny_holding (wpAny_bind ((PySem.strKind prog w).pyHash (k:=x) (v:=.str x t) (by show Value.isStrOf x (.str x t)=true;simp [Value.isStrOf]) ?_))
  refine wpAny_setAddHashed_of (knd:=PySem.strKind prog w) (s:={s1 with toks:=s1.toks+1}) (k:=x) (by show Value.isStrOf x (.str x t)=true;simp [Value.isStrOf]) rfl g1 (by rw [lt];unfold scanBound;omega) fun h' sb g2=>?_
  have g3:SetT (prog:=prog) (w:=w) h' a (ks.take (i+1)):=by
   refine ⟨_,(?_:h'.SetOf (PySem.strKind prog w) a (fun k'=>S k'||decide (k'=x)) _),fun k=>?_⟩
   ·have e1:S x=false:=by rw [m];simp [hx]
    rw [e1,if_neg Bool.false_ne_true] at g2
    rw [show (ks.take (i+1)).length=(ks.take i).length+1 by rw [List.length_take,List.length_take];omega]
    exact g2
   ·rw [m,List.take_succ,ex]
    simp
  have st2:=W.frame (i+1) s1 h' (s1.toks+1) st1 (Nat.le_add_right _ _) fun b hb o q=>by
   rw [sb.2 b fun z=>haf (z▸hb)];exact q
  refine wpAny_pure ⟨plainId_quiet PyProof.Rows.F.plain_set_update_loop _,ih (i+1) _ (by omega) st2 g3 fun s2 mv2 g4=>hR s2 ?_ g4⟩
  refine Moved.trans W.gtrans ((mv.mono fun b hb=>List.mem_cons_of_mem a hb).then_heap (Nat.le_add_right _ _) fun b o hb z=>?_) mv2
  exact (sb.2 b fun y=>hb (y▸List.mem_cons_self)).trans z
end
section
variable {prog:Program} {w:World} {A:Around} {E:Value->Shared->Prop} {s:Shared}
theorem w_setS {l:Addr} {its:Array Value} {ks:List Str} {Q:Value->Shared->Prop} (hh:A.handled=none) (hl:s.heap.IsList l its) (ei:Vals (ks.map V.str) its.toList) (nd:ks.Nodup) (hc:ks.length<=306)
  (h:∀(h':Heap) (tk:Nat),s.toks<=tk->SetT (prog:=prog) (w:=w) h' s.heap.objs.size ks->(∀b o,s.heap.get? b=some o->h'.get? b=some o)->Q (.ref s.heap.objs.size) {s with heap:=h',toks:=tk}) :
  wpAny (model prog w) A (call (.type "set") [.ref l]) Q E s:=by
 refine w_setBy hh hl (fun A1 R s3 fp G St _ W hf hS _ st hR=>?_) h
 have ez:its.size=ks.length:=by
  have:=ei.length
  simpa using this.symm
 rw [ez] at W
 refine c_fillS W s.heap.objs.size hf (ks:=ks) (fun i v hv=>?_) nd hc ks.length 0 _ (by omega) st ⟨_,(setObjOf_fresh (knd:=PySem.strKind prog w) (!byt w)).setOf hS (by unfold scanBound;omega),fun k=>by simp⟩ hR
 have hi:its.toList[i]?=some v:=by rw [Array.getElem?_toList];exact hv
 cases hk:ks[i]? with
 | none =>
  have:=ei.none_of (i:=i) (by rw [List.getElem?_map,hk];rfl)
  rw [hi] at this;cases this
 | some x =>
  obtain ⟨u,q1,q2⟩:=ei.get (i:=i) (x:=.str x) (by rw [List.getElem?_map,hk];rfl)
  rw [hi] at q1;cases q1
  exact ⟨x,rfl,q2⟩
end
end ST
namespace L2
open PySem PySem.Spec PyProof.Rows
section
variable {prog:Program} {w:World} {A:Around} {E:Value->Shared->Prop} {s:Shared}
theorem rv_len:typeLookup (.type "list_reverseiterator") "__len__" = pure none:=by rw [typeLookup_type,builtinLookup_eq_fast];kernel_rfl
theorem rv_hint:typeLookup (.type "list_reverseiterator") "__length_hint__" = pure (some (.builtin "list_reverseiterator.__length_hint__")):=by rw [typeLookup_type,builtinLookup_eq_fast];kernel_rfl
theorem hint_rev {r l:Addr} {i:Int} {Q:Bool->Shared->Prop} (hr:s.heap.IsRevIter r l i) (h:Q false s):wpAny (model prog w) A (Builtin.List.listLengthHint (.ref r)) Q E s:=by
 unfold Builtin.List.listLengthHint
 refine wpAny_bind (wpAny_specialOf hr.typeIs rv_len ?_)
 refine wpAny_ite_split (fun hab=>absurd hab (by decide +kernel)) (fun _=>?_)
 refine wpAny_ite_split (fun hab=>absurd hab (by decide)) (fun _=>?_)
 refine wpAny_bind (wpAny_specialOf hr.typeIs rv_hint ?_)
 generalize hid:("list_reverseiterator.__length_hint__" : String)=id0
 wp_delta
 rw [show splitId id0=some ("list_reverseiterator", "__length_hint__") from by subst hid;decide +kernel]
 subst hid
 refine wpAny_bind (wpAny_isInstance (T:= "list_reverseiterator") (b:=true) hr.typeIs (by rw [isSubtype_type];kernel_rfl) ?_)
 refine wpAny_ite_split (fun hab=>absurd hab (by decide)) (fun _=>?_)
 refine wpAny_ite_split (fun _=>?_) (fun hab=>absurd (by decide +kernel) hab)
 refine wpAny_ite_split (fun hab=>absurd hab (by decide +kernel)) (fun _=>?_)
 exact wpAny_pure h
theorem rev_items {its acc:Array Value} (h:ItemsOf (fun i v=>its[its.size - 1 - i]?=some v) acc its.size):acc.toList=its.toList.reverse:=by
 refine List.ext_getElem? fun i=>?_
 rw [Array.getElem?_toList]
 by_cases hi:i<its.size
 ·have e:acc[i]?=some (acc[i]'(by rw [h.1];exact hi)):=Array.getElem?_eq_getElem (by rw [h.1];exact hi)
  rw [e,<-h.2 i _ e,List.getElem?_reverse (by simpa using hi)]
  simp
 ·rw [Array.getElem?_eq_none (by rw [h.1];omega),List.getElem?_eq_none (by simp;omega)]
theorem list_rev {r l:Addr} {its:Array Value} {Q:Value->Shared->Prop} (hh:A.handled=none) (hr:s.heap.IsRevIter r l ((its.size:Int) - 1)) (hl:s.heap.IsList l its) (ne:l≠r) (hz:its.size<=sizeLine)
  (q:∀h' tk acc c,(∀b o,b≠r->s.heap.get? b=some o->h'.get? b=some o)->h'.get? s.heap.objs.size=some {cls:=.type "list",dict:=none,data:=.seq acc c,slots:=#[]}->acc.toList=its.toList.reverse->Q (.ref s.heap.objs.size) {s with heap:=h',toks:=tk}) :
  wpAny (model prog w) A (call (.type "list") [.ref r]) Q E s:=by
 obtain ⟨h0,g,dd,tk,os⟩:=s
 have lr:r<h0.objs.size:=by obtain ⟨o,y,_⟩:=hr;exact Heap.lt_size y
 have ll:l<h0.objs.size:=by obtain ⟨o,y,_⟩:=hl;exact Heap.lt_size y
 refine callType_codes (Q₁:=fun obj s₁=>obj= .ref h0.objs.size/\s₁=⟨h0.push {cls:=.type "list",data:=.seq #[]},g,dd,tk,os⟩) F.called_list (F.typeCall_list_1 _) F.entry_list_init (code_list_new _ ⟨rfl,rfl⟩) fun obj s1 h1=>?_
 obtain ⟨rfl,rfl⟩:=h1
 have hS:(h0.push {cls:=.type "list",data:=.seq #[]}).get? h0.objs.size=some {cls:=.type "list",data:=.seq #[]}:=Heap.get?_push_size _ rfl
 refine ⟨⟨_,hS,rfl⟩,F.args_list_init_2 _ _,?_⟩
 show wpAny _ A.in1.in1 (do let old<-Builtin.List.listItems (.ref h0.objs.size);Builtin.List.listUpdate (.ref h0.objs.size) (fun _=>#[]);letGo old.toList.reverse;Builtin.List.listExtendWith (.ref h0.objs.size) (.ref r) .none) _ _ _
 refine wpAny_bind ?_
 unfold Builtin.List.listItems
 refine wpAny_bind (wpAny_seqItems hS rfl (wpAny_pure ?_))
 show wpAny _ A.in1.in1 (updateSeq h0.objs.size (fun _=>#[]) >>= fun _=>letGo (#[]:Array Value).toList.reverse >>= fun _=>Builtin.List.listExtendWith (.ref h0.objs.size) (.ref r) .none) _ _ _
 refine wpAny_bind (wpAny_updateSeq hS rfl ?_)
 have S1:=Heap.get?_update_self (Obj.mapSeq (fun _=>(#[]:Array Value))) hS rfl
 have o1:∀b o,h0.get? b=some o->((h0.push {cls:=.type "list",data:=.seq #[]}).update h0.objs.size (Obj.mapSeq (fun _=>(#[]:Array Value)))).get? b=some o:=fun b o y=>(Heap.get?_update_other _ _ (Nat.ne_of_gt (Heap.lt_size y))).trans (Heap.get?_push_of_some _ y)
 generalize (h0.push {cls:=.type "list",data:=.seq #[]}).update h0.objs.size (Obj.mapSeq (fun _=>(#[]:Array Value)))=h1 at S1 o1 ⊢
 refine wpAny_bind (wpAny_letGo ?_)
 have hr1:h1.IsRevIter r l ((its.size:Int) - 1):=Heap.IsRevIter.at hr fun o y=>o1 _ _ y
 have hl1:h1.IsList l its:=hl.at fun o y=>o1 _ _ y
 unfold Builtin.List.listExtendWith
 refine wpAny_bind (wpAny_typeOf (T:= "list_reverseiterator") (s:=⟨h1,g,dd,tk,os⟩) hr1.typeIs ?_)
 have d1:Builtin.List.listSameRef (.ref h0.objs.size) (.ref r)=false:=beq_eq_false_iff_ne.mpr (Nat.ne_of_gt lr)
 have d2:(Value.type "list_reverseiterator" == Value.type "list")=false:=by decide
 have d3:(Value.type "list_reverseiterator" == Value.type "tuple")=false:=by decide
 simp only [d1,d2,d3,Bool.or_false,Bool.false_eq_true,if_false]
 refine wpAny_bind (wpAny_pyIter_revIter (s:=⟨h1,g,dd,tk,os⟩) hr1 (wpAny_bind (wpAny_holding (hint_rev (s:=⟨h1,g,dd,tk,os⟩) hr1 ?_))))
 refine wpAny_ite_split (fun hab=>absurd hab (by decide +kernel)) fun _=>wpAny_pure ⟨plainId_quiet F.plain_extend_loop _,?_⟩
 have W:=(Walks.listRev (prog:=prog) (w:=w) (A:=A.in1.in1) hh r l ne its).toS
 refine codeAny_extend_loopS W hz h0.objs.size ?_ .none its.size 0 ⟨h1,g,dd,tk,os⟩ #[] _ rfl (Nat.zero_le _) ⟨Nat.zero_le _,by simpa using hr1,hl1⟩ S1 (ItemsOf.nil _) fun s' acc c mv hS' it=>?_
 ·simp only [List.mem_cons,List.not_mem_nil,or_false,not_or]
  exact ⟨Nat.ne_of_gt lr,Nat.ne_of_gt ll⟩
 ·rw [Moved.eq_with mv]
  refine ⟨rfl,q s'.heap s'.toks acc c (fun b o hb e=>mv.heap b o ?_ (o1 b o e)) hS' (rev_items it)⟩
  simp only [List.mem_cons,List.not_mem_nil,or_false,not_or]
  exact ⟨Nat.ne_of_lt (Heap.lt_size e),hb⟩
end
def rvN (n0:Nat) (r l:Addr) (n:Nat):HO:=.ext fun h=>h.IsRevIter r l ((n:Int) - 1)/\n0<=r
def SSt (P:Program) (w:World) (a:Addr) (n:Nat):HO:=.ext fun h=>∃S,h.SetOf (PySem.strKind P w) a S n
theorem vals_rev:∀{xs:List V} {us:List Value},Vals xs us->Vals xs.reverse us.reverse
 | _,_,.nil=>.nil
 | _,_,.cons r t=>by rw [List.reverse_cons,List.reverse_cons];exact (vals_rev t).append (.cons r .nil)
section
variable {X:Cx}
theorem zHy:zCr X (.type "reversed") (fun xs H Q=>∃l ys,xs=[.ref l]/\H l=some (.lst ys)/\∀r,H r=none->Q (.ref r) (upd H r (rvN X.s₀.heap.objs.size r l ys.length))):=by
 intro pins s σ H xs us Q I rv h
 obtain ⟨l,ys,rfl,e,q⟩:=h
 obtain ⟨u,rfl,ru⟩:=rv.one
 cases ru
 obtain ⟨z,its,n,rel,hl⟩:zA7 X.prog X.w H s.heap l (.lst ys):=I.hok l _ e
 have len:=rel.length
 refine call_reversed_list (items:=its.toArray) ⟨_,hl,rfl,n,rfl⟩ ?_
 have ge:(s.heap.push (revObj l ((its.toArray.size:Int) - 1))).IsRevIter s.heap.objs.size l ((ys.length:Int) - 1):=⟨_,Heap.get?_push_size _ rfl,rfl,by rw [List.size_toArray,<-len];rfl⟩
 refine ⟨.ref s.heap.objs.size,_,I.laid (o:=rvN X.s₀.heap.objs.size s.heap.objs.size l ys.length) (t':=s.toks) (fun b o z=>Heap.get?_push_of_some _ z) (Nat.le_refl _) ?_,rfl,q _ (I.hok.fresh (Nat.le_refl _))⟩
 exact ⟨⟨ge,I.sz⟩,⟨_,Heap.get?_push_size _ rfl⟩,fun h1 h2 x y=>⟨x.1.at y,x.2⟩⟩
theorem call_listRv (hc:X.calm=true):zCr X (.type "list") (fun xs H Q=>∃r l ys,xs=[.ref r]/\H r=some (rvN X.s₀.heap.objs.size r l ys.length)/\H l=some (.lst ys)/\∀p,H p=none->Q (.ref p) (upd (del H r) p (.lst ys.reverse))):=by
 intro pins s σ H xs us Q I rv h
 obtain ⟨r,l,ys,rfl,er,e,q⟩:=h
 obtain ⟨u,rfl,ru⟩:=rv.one
 cases ru
 obtain ⟨⟨hr,n0⟩,_,_⟩:zA7 X.prog X.w H s.heap r (rvN X.s₀.heap.objs.size r l ys.length):=I.hok r _ er
 obtain ⟨z,its,n,rel,hl⟩:zA7 X.prog X.w H s.heap l (.lst ys):=I.hok l _ e
 have len:=rel.length
 have ne:l≠r:=zBd e er fun z=>nomatch z
 refine list_rev (its:=its.toArray) (I.ok.hd hc) (by rw [List.size_toArray,<-len];exact hr) ⟨_,hl,rfl,n,rfl⟩ ne (by rw [List.size_toArray];omega) fun h' tk acc c kp ge ea=>?_
 have fr:H s.heap.objs.size=none:=I.hok.fresh (Nat.le_refl _)
 refine ⟨.ref s.heap.objs.size,_,?_,rfl,q _ fr⟩
 have rs:r≠s.heap.objs.size:=zAj er fr
 refine I.call' (s':={s with heap:=h',toks:=tk}) (ch:=[r]) rfl ⟨fun b o z m _ nr=>kp b o (fun y=>nr (by rw [y];simp)) z,fun b o z m _ nr=>⟨o.slots,kp b o (fun y=>nr (by rw [y];simp)) z⟩,fun b o z m nr=>?_,fun b o z nr=>⟨o,kp b o (fun y=>nr (by rw [y];simp)) z⟩,fun b xs z=>?_,fun b o u z=>?_,fun b ps z=>⟨#[],?_⟩⟩ (fun b o z=>?_) I.bare (fun b hb=>?_)
 ·rw [upd_ne (Nat.ne_of_lt (Heap.lt_size z)),zCn (fun y=>nr (by rw [y];simp))];exact m
 ·rw [upd_ne (zAj z fr),zCn (zBd z er fun y=>nomatch y)];exact z
 ·rw [upd_ne (zAj z fr),zCn (zBd z er fun y=>nomatch y)];exact z
 ·rw [Array.append_empty,upd_ne (zAj z fr),zCn (zBd z er fun y=>nomatch y)];exact z
 ·by_cases hb:b=s.heap.objs.size
  ·subst hb
   rw [upd_same] at z;cases z
   refine ⟨by rw [List.length_reverse];exact ‹ys.length<=sizeLine›,acc.toList,c,?_,by simpa using ge⟩
   rw [ea]
   exact vals_rev rel
  ·rw [upd_ne hb] at z
   obtain ⟨br,z⟩:=zJm z
   refine (I.hok b o z).stay (fun d v hd y=>kp d v ?_ y) (fun d y=>?_) fun d xs y=>?_
   ·rcases hd with rfl| hd
    ·exact br
    ·exact zBd hd er fun y=>nomatch y
   ·rw [upd_ne (zAj y fr),zCn (zBd y er fun y=>nomatch y)];exact y
   ·rw [upd_ne (zAj y fr),zCn (zBd y er fun y=>nomatch y)];exact y
 ·rw [List.mem_singleton.mp hb]
  refine ⟨.inr n0,fun y=>?_,fun x c y w=>?_,fun p hp y=>?_⟩
  ·rw [y,I.free] at er;cases er
  ·rw [<-w,I.freeC x c y] at er;cases er
  ·rw [<-y,(I.pin p hp).2.1] at er;cases er
theorem call_setS {P:Program} {w:World} {K:PySem.W.Frag} {k:Nat} (hr:Room k X.A) (hP:X.prog=P:=by rfl) (hw:X.w=w:=by rfl) (hK:X.K=K:=by rfl):zCr X (.type "set") (fun xs H Q=>∃(l:Addr) (ks:List Str),xs=[.ref l]/\SqL K H l (ks.map V.str)/\ks.Nodup/\ks.length<=306/\∀a,H a=none->Q (.ref a) (upd H a (SSt P w a ks.length))):=by
 subst hP hw hK
 intro pins s σ H xs us Q I r h
 obtain ⟨l,ks,rfl,hl,nd,hc,q⟩:=h
 obtain ⟨u,rfl,rx⟩:=zHo r
 cases rx
 obtain ⟨its,r',pl,hz⟩:=I.list hl
 refine ST.w_setS hr.hd pl.isList (by simpa using r') nd hc fun h' tk _ g kp=>?_
 obtain ⟨S,⟨o,es,ep,t,ho,rest⟩,_⟩:=g
 exact ⟨.ref s.heap.objs.size,_,I.laid (t':=tk) (o:=SSt X.prog X.w s.heap.objs.size ks.length) kp (Nat.le_refl _) ⟨⟨S,o,es,ep,t,ho,rest⟩,⟨o,ho⟩,fun h1 h2 ⟨S,o,es,ep,t,q,r⟩ k=>⟨S,o,es,ep,t,k o q,r⟩⟩,rfl,q _ (I.hok.fresh (Nat.le_refl _))⟩
theorem call_lenS {P:Program} {w:World} (hP:X.prog=P:=by rfl) (hw:X.w=w:=by rfl):zCr X (.builtin "len") (fun xs H Q=>∃a n,xs=[.ref a]/\H a=some (SSt P w a n)/\Q (.int n) H):=by
 subst hP hw
 intro pins s σ H xs us Q I r h
 obtain ⟨a,n,rfl,e,q⟩:=h
 obtain ⟨u,rfl,rx⟩:=zHo r
 cases rx
 obtain ⟨⟨S,o,es,ep,t,ho,ex,hd,_,_,hb,hf,hn⟩,_⟩:=(show zA7 _ _ _ _ _ (SSt X.prog X.w a n) from I.hok a _ e)
 refine call_len_set ho ex hd hf (by unfold scanBound at hb;omega) ⟨.int n,H,I.tok _,⟨_,by rw [hn]⟩,q⟩
def rIndex:V->List V->Hp->VK->Prop:=fun x vs H Q=>∃(l:Addr) (ks:List Str) (y:Str),x= .ref l/\vs=[.str y]/\H l=some (.lst (ks.map V.str))/\y∈ks/\ks.length<=4096/\Q (.int (ks.idxOf y)) H
theorem mt_index:MtM X "list.index" rIndex:=by
 intro pins s σ H x vs v us Q I rx rv h
 obtain ⟨l,ks,y,rfl,rfl,hH,hy,hk,q⟩:=h
 cases rx
 obtain ⟨u,rfl,ru⟩:=rv.one
 obtain ⟨z,its,n,r,hl,e⟩:=I.lstM hH
 have fs:(ks.map V.str).all zE9=true:=by simp [zE9]
 rw [List.length_map] at hl
 have jl:ks.idxOf y<ks.length:=List.idxOf_lt_length_of_mem hy
 have at':∀m (hm:m<its.toArray.size),eqU (.str y) its.toArray[m]=decide (ks[m]'(by rw [List.size_toArray] at hm;omega)=y):=fun m hm=>by
  rw [List.size_toArray] at hm
  have hm2:m<ks.length:=by omega
  obtain ⟨w0,hu,r0⟩:=r.get (i:=m) (x:=V.str ks[m]) (by rw [List.getElem?_map,List.getElem?_eq_getElem hm2];rfl)
  rw [List.getElem?_eq_getElem hm] at hu
  cases hu
  rw [show its.toArray[m]=its[m] by simp,eqU_of r0 rfl]
  show (ks[m]==y)=_
  by_cases z:ks[m]=y<;>simp [z]
 refine call_meets F.slot_list_index ⟨_,e,rfl⟩ F.entry_list_index (F.args_list_index_2 _ _)
  (SeqAt.list_indexAt l its.toArray n none #[] u (eqU (.str y)) (ks.idxOf y) (by rw [List.size_toArray];omega) (by omega) ?_ fun m hm hj=>?_) ⟨e,fun w0 hw=>zEp ru rfl r fs w0 (by simpa using hw),⟨.int _,H,I.tok _,⟨_,rfl⟩,q⟩⟩
 ·rw [at' _ (by rw [List.size_toArray];omega)]
  exact decide_eq_true (List.getElem_idxOf jl)
 ·rw [at' m hm]
  refine decide_eq_false fun h=>?_
  have:=List.not_of_lt_findIdx (show m<ks.findIdx (·==y) from hj)
  simp [h] at this
end
section
variable {X:Cx}
theorem all_at (p q:List Str):((List.range (min p.length q.length)).all (fun j=>p[j]?==q[j]?)&&p.length==q.length)=decide (p=q):=by
 by_cases e:p=q
 ·subst e;simp
 ·rw [decide_eq_false e]
  refine Bool.eq_false_iff.mpr fun z=>e ?_
  simp only [Bool.and_eq_true,List.all_eq_true,List.mem_range,beq_iff_eq] at z
  refine List.ext_getElem? fun i=>?_
  by_cases hi:i<min p.length q.length
  ·exact z.1 i hi
  ·rw [List.getElem?_eq_none (by omega),List.getElem?_eq_none (by omega)]
theorem row_same {pins:List (Addr×Obj)} {σ:St} {H:Hp} {s:Shared} {a:Addr} {p q:List Str} (I:Inv X pins σ H s) (ha:SqT X.K H a (p.map V.str)) (hb:SqT X.K H a (q.map V.str)):p=q:=by
 obtain ⟨its,r,pl,hz⟩:=I.tuple ha
 obtain ⟨its2,r2,pl2,hz2⟩:=I.tuple hb
 have e1:=r.length
 have e2:=r2.length
 rw [List.length_map] at e1 e2
 have:its=its2:=by
  obtain ⟨o,g1,_,n,g2⟩:=pl
  obtain ⟨o',g1',_,n',g2'⟩:=pl2
  rw [g1] at g1';cases g1'
  rw [g2] at g2'
  injection g2' with z _
  exact Array.toList_inj.mpr z|> (by simpa using ·)
 subst this
 refine List.ext_getElem? fun i=>?_
 cases h1:p[i]? with
 | none=>rw [List.getElem?_eq_none (by have:=List.getElem?_eq_none_iff.mp h1;omega)]
 | some x =>
  obtain ⟨u,g1,t,rfl⟩:=r.get (i:=i) (x:=.str x) (by rw [List.getElem?_map,h1];rfl)
  cases h2:q[i]? with
  | none =>
   have:=List.getElem?_eq_none_iff.mp h2
   have:=(List.getElem?_eq_some_iff.mp h1).1
   omega
  | some y =>
   obtain ⟨u',g1',t',e⟩:=r2.get (i:=i) (x:=.str y) (by rw [List.getElem?_map,h2];rfl)
   rw [g1] at g1';cases g1'
   cases e;rfl
theorem row_eq {pins:List (Addr×Obj)} {σ:St} {H:Hp} {s:Shared} {A:Around} {a b:Addr} {p q:List Str} (I:Inv X pins σ H s) (ha:SqT X.K H a (p.map V.str)) (hb:SqT X.K H b (q.map V.str)) (hu:A.units+1<cLine):SeqAt.EqAt A s (.ref a) (.ref b) (decide (p=q)):=by
 by_cases ab:a=b
 ·subst ab
  rw [decide_eq_true (row_same I ha hb)]
  exact SeqAt.EqAt.same _
 ·obtain ⟨its,r,pl,hz⟩:=I.tuple ha
  obtain ⟨its2,r2,pl2,hz2⟩:=I.tuple hb
  have e1:=r.length
  have e2:=r2.length
  rw [List.length_map] at e1 e2
  have c:=SeqAt.RcAt.tuples (A:=A) (s:=s) (e:=fun j=>p[j]?==q[j]?) (show s.heap.IsTuple a its.toArray from pl) (show s.heap.IsTuple b its2.toArray from pl2) (by omega) (fun j h1 h2=>by
   rw [List.size_toArray] at h1 h2
   have j1:j<p.length:=by omega
   have j2:j<q.length:=by omega
   obtain ⟨u1,q1,ru1⟩:=r.get (i:=j) (x:=.str p[j]) (by rw [List.getElem?_map,List.getElem?_eq_getElem j1];rfl)
   obtain ⟨v1,q2,rv1⟩:=r2.get (i:=j) (x:=.str q[j]) (by rw [List.getElem?_map,List.getElem?_eq_getElem j2];rfl)
   rw [List.getElem?_eq_getElem h1] at q1
   rw [List.getElem?_eq_getElem h2] at q2
   cases q1
   cases q2
   have z:=eqAt_V (A:=A.in1) (s:=s) ru1 rv1 rfl rfl
   rw [show its.toArray[j]=its[j] by simp,show its2.toArray[j]=its2[j] by simp,List.getElem?_eq_getElem j1,List.getElem?_eq_getElem j2]
   simpa [eqV] using z)
  rw [List.size_toArray,List.size_toArray,<-e1,<-e2,all_at] at c
  exact SeqAt.EqAt.of_refs ab c
def rInRow (K:PySem.W.Frag):R2:=fun x y H Q=>∃(t l:Addr) (p:List Str) (qs:List (List Str×Addr)),x= .ref t/\y= .ref l/\SqT K H t (p.map V.str)/\SqL K H l (qs.map fun q=>V.ref q.2)/\(∀q∈qs,RowT K H q)/\Q (.bl (decide (p∈qs.map (·.1)))) H
theorem op_inRow {K:PySem.W.Frag} (hu:X.A.units+2<cLine) (hK:X.K=K:=by rfl):OpR X (compareOp .In) (rInRow K):=by
 subst hK
 intro pins s σ H x y v u Q I rx ry h
 obtain ⟨t,l,p,qs,rfl,rfl,ht,hl,hq,k⟩:=h
 cases rx
 cases ry
 obtain ⟨its,r,pl,hz⟩:=I.list hl
 have ei:=zGr r
 have key:∀q∈qs,SeqAt.EqAt X.A.in1 s (.ref q.2) (.ref t) (decide (q.1=p)):=fun q hq'=>row_eq I (hq q hq') ht (by show X.A.units+1+1<cLine;omega)
 let e:Value->Bool:=fun u=>match u with
  | .ref a=>qs.any fun q=>decide (q.2=a)&&decide (q.1=p)
  | _=>false
 have same:∀q∈qs,∀q'∈qs,q.2=q'.2->q.1=q'.1:=fun q h1 q' h2 z=>by
  have a2:=hq q' h2
  unfold RowT at a2
  rw [<-z] at a2
  exact row_same I (hq q h1) a2
 have eq:∀q∈qs,e (.ref q.2)=decide (q.1=p):=fun q h1=>by
  show (qs.any fun q'=>decide (q'.2=q.2)&&decide (q'.1=p))=_
  by_cases z:q.1=p
  ·rw [decide_eq_true z,List.any_eq_true]
   exact ⟨q,h1,by simp [z]⟩
  ·rw [decide_eq_false z]
   refine Bool.eq_false_iff.mpr fun y=>z ?_
   obtain ⟨q',h2,y⟩:=List.any_eq_true.mp y
   simp only [Bool.and_eq_true,decide_eq_true_eq] at y
   rw [<-y.2];exact (same q' h2 q h1 y.1).symm
 refine SeqAt.in_listAt e pl.isList (fun w hw=>?_) ⟨.bl _,H,I,rfl,?_⟩
 ·rw [List.mem_toArray,ei] at hw
  obtain ⟨q,h1,rfl⟩:=List.mem_map.mp hw
  rw [eq q h1];exact key q h1
 ·rw [show its.toArray.any e=decide (p∈qs.map (·.1)) from ?_]
  ·exact k
  ·rw [show its.toArray.any e=its.any e by simp,ei,List.any_map]
   by_cases z:p∈qs.map (·.1)
   ·obtain ⟨q,h1,h2⟩:=List.mem_map.mp z
    rw [decide_eq_true z,List.any_eq_true]
    exact ⟨q,h1,by show e (.ref q.2)=true;rw [eq q h1];exact decide_eq_true h2⟩
   ·rw [decide_eq_false z]
    refine Bool.eq_false_iff.mpr fun y=>z ?_
    obtain ⟨q,h1,y⟩:=List.any_eq_true.mp y
    have y:e (.ref q.2)=true:=y
    rw [eq q h1] at y
    exact List.mem_map.mpr ⟨q,h1,of_decide_eq_true y⟩
theorem listText_len:∀(ts:List Str),ts≠[]->(listText ts).length=piled ts
 | [],h=>absurd rfl h
 | t::r,_=>by
  have h:=textFrom_length_pos r 1 (("[" : Str)++(if (0:Nat)>0 then ", " else "" : String)++t) (Nat.succ_pos 0)
  have e:(("[" : Str)++(if (0:Nat)>0 then ", " else "" : String)++t).length=1+t.length:=by rw [strLen_append,strLen_append];rfl
  have x:(listText (t::r)).length=(textFrom 1 (("[" : Str)++(if (0:Nat)>0 then ", " else "" : String)++t) r).length+1:=by
   show (textFrom 1 _ r++ "]").length=_
   rw [strLen_append];rfl
  rw [x,h,e,piled_cons];omega
theorem piled_le (n:Nat):∀(ts:List Str),(∀t∈ts,t.length<=n)->piled ts<=ts.length*(n+2)
 | [],_=>Nat.zero_le _
 | t::r,h=>by
  have a:=piled_le n r fun x hx=>h x (List.mem_cons_of_mem _ hx)
  have b:=h t List.mem_cons_self
  rw [piled_cons,List.length_cons,Nat.add_mul];omega
def tFmtL (K:PySem.W.Frag) (t:TE):TE:=fun σ H Q=>t σ H fun x H1=>∃(l:Addr) (ys:List Str),x= .ref l/\SqL K H1 l (ys.map V.str)/\ys≠[]/\ys.length<=100/\(∀y∈ys,y.length<=100/\∀c∈y.cps.toList,c<16^8)/\∀z,Q (.str z) H1
theorem pe_fmtL {e:Expr} {t:TE} {c:Str} {j k:Nat} {p1 p2 pos:Pos} (hr:Room k X.A) (he:PE X e t) (hc:c.length<=100:=by decide):PE X (.JoinedStr [.Constant (.str c) j p2,.FormattedValue e 114 none p1] pos) (tFmtL X.K t):=by
 intro pins s σ H Q I h
 have hs:=sizeLine_eq
 refine JoinedStr_many (joinParts_cons (Calls.Constant_str ⟨by rw [strLen_append];show 0+c.length<=_;omega,?_⟩))
 refine joinParts_cons ?_
 show wpAny _ _ (do let v<-eval e X.env;standAt p1;formatField (<-holding [v] (pyReprObj v)) Str.empty) _ _ _
 refine wpAny_bind (thn (he pins _ σ H _ (I.tok _) h) fun v s1 ⟨x,H1,I1,r1,l,ys,ex,hl,ne,hn,hy,q⟩=>wpAny_bind (wpAny_standAt ?_))
 subst ex
 cases r1
 obtain ⟨its,r,pl,hz⟩:=I1.list hl
 have len:=r.length
 rw [List.length_map] at len
 have hR:∀y∈ys,(reprText y).length<=1002:=fun y h1=>by
  have:=StrLaws.reprText_len y (hy y h1).2
  have:=(hy y h1).1
  omega
 have tl:(listText (ys.map reprText)).length<=101000:=by
  rw [listText_len _ (by simpa using ne)]
  have:=piled_le 1002 (ys.map reprText) fun t ht=>by
   obtain ⟨y,h1,rfl⟩:=List.mem_map.mp ht
   exact hR y h1
  rw [List.length_map] at this
  omega
 obtain ⟨o,n,g1,g2,g3,g4⟩:=pl
 have:∃x l,its=x::l:=by
  cases its with
  | nil=>exact absurd (List.length_eq_zero_iff.mp len) ne
  | cons x l=>exact ⟨x,l,rfl⟩
 obtain ⟨x0,l0,rfl⟩:=this
 refine wpAny_bind (wpAny_holding (wpAny_pyReprObj_list (ts:=ys.map reprText) ⟨_,g1,g2⟩ hr.gd (fun _ _ _ z=>nomatch z) hr.units0 g1 g4 (by rw [List.size_toArray,<-len,List.length_map]) (fun i y hi=>?_) (fun h' u tk kp=>?_) (by omega)))
 ·have hi:(x0::l0)[i]?=some y:=by simpa using hi
  cases hk:ys[i]? with
  | none =>
   have:=r.none_of (i:=i) (by rw [List.getElem?_map,hk];rfl)
   rw [hi] at this;cases this
  | some z =>
   obtain ⟨u,q1,t,q2⟩:=r.get (i:=i) (x:=.str z) (by rw [List.getElem?_map,hk];rfl)
   rw [hi] at q1;cases q1
   subst q2
   exact ⟨reprText z,by rw [List.getElem?_map,hk];rfl,ReprIs.str z t (by have:=hR z (List.mem_of_getElem? hk);omega)⟩
 ·refine formatField_str (fun t' tk2=>?_) (by omega)
  have z:(Str.empty++c++listText (ys.map reprText)).length<=sizeLine:=by
   rw [strLen_append,strLen_append]
   show 0+c.length+_<=_
   omega
  exact ⟨z,joinParts_nil ⟨.str _,H1,I1.kept (t':=tk2+1) kp,⟨_,rfl⟩,q _⟩ z⟩
theorem pe_makeX {CX:CXT} {k:Nat} {C f:Addr} {fd:FuncData} {ps:List Str} {sp:Sp} {E:St->XK} {x:Str} {p pos:Pos} {e:Expr} {es:List Expr} {t:TA} (M:Mk X.K C f) (F:FnOk X.prog X.w X.K X.mg X.base CX k f fd ps sp) (hr:Room (k+1) X.A) (hg:Gl X x) (hm:X.mg x=some (.ref C)) (hb:zC5 X.K fd ps []) (hx:zJs CX X E)
  (ha:PA X (e::es) t) (hdb:(x==("__debug__" : Str))=false:=by decide) (he:starEach (e::es) X.env=(false,eval e X.env)::starEach es X.env:=by rfl) (hpl:(backTo pos (starEach es X.env)).any (·.1)=false:=by rfl) :
  PE X (.Call (.Name x p) (e::es) [] pos) (fun σ H Q=>t σ H fun vs H1=>∀x dx,H1 x=none->H1 dx=none->dx≠x->sp (.ref x::vs) (upd (upd H1 dx (.own x)) x (.ins C dx [])) (fun v H2=>v= .non/\Q (.ref x) H2) (E σ)):=by
 intro pins s0 σ H0 Q I0 h0
 refine wpAny_Call_Name_kw (zEc I0 hg hm ?_ hdb)
 refine PySem.W.callWith_K (h₀:=X.base) I0.ok.mod.kin M.kp (thn (ha pos pins s0 σ H0 _ I0 h0) fun us s ⟨vs,H,I,r,h⟩=>⟨I.kIn,?_⟩) he hpl
 have hq:=h (s.heap.objs.size+1) s.heap.objs.size (I.hok.fresh (Nat.le_succ _)) (I.hok.fresh (Nat.le_refl _)) (Nat.ne_of_lt (Nat.lt_succ_self _))
 have I2:=Inv.made (C:=C) I
 have r2:Vals (V.ref (s.heap.objs.size+1)::vs) (Value.ref (s.heap.objs.size+1)::us):=.cons rfl r
 have bd:=hb {s with heap:=(s.heap.push PySem.W.emptyDict).push (PySem.W.instObj C s.heap.objs.size)} (Value.ref (s.heap.objs.size+1)::us) I2.kIn (by rw [List.append_nil,<-r2.length];exact F.len _ _ _ _ hq)
 rw [List.append_nil] at bd
 refine wpAny_call (make_map (f:=f) I.kIn M.makes M.init (beq_iff_eq.mp M.fn) (codeAny_mono (F.run _ X.stack _ _ ⟨_,[]⟩ _ _ _ _ (hr.make C us []) (I2.env0.make C us []) bd r2 hq) fun r s' hq'=>?_))
 cases r with
 | error e=>exact hx pins σ _ _ e s' I2 hq'
 | ok fl =>
  cases fl with
  | ret u =>
   obtain ⟨v,H',I3,rv,ev,q3⟩:=I2.after hq'
   subst ev
   exact ⟨rv,⟨V.ref (s.heap.objs.size+1),H',I3,rfl,q3⟩⟩
  | next=>exact False.elim hq'
  | brk=>exact False.elim hq'
  | cont=>exact False.elim hq'
end
end L2
namespace RV
open PySem
end RV
namespace L2
open PySem PySem.Spec PyProof.Rows
end L2
namespace RV
open PySem
end RV
namespace L2
open PySem PySem.Spec PyProof.Rows
end L2
namespace ST
open PySem PyProof.Rows PySem.W
end ST
namespace L2
open PySem PySem.Spec PyProof.Rows
section
variable {P:Program} {w:World} {K:PySem.W.Frag} {mg:Str->Option Value} {base:Heap}
structure FunD (K:PySem.W.Frag) (x qual:Str) (st:Stmt) (f:Addr) (fd:FuncData) (T:Addr) (its:Array Value):Prop where
 ex:∃(oc:Value) (od:Option Addr) (kV doc pm:Value) (an:Option Addr) (cdv ct:Value) (osl:Array (Option Value)),
  fd=PySem.W.fnOf x qual (zCe st) (zBr st) (zAe st) (.ref T) kV doc pm an cdv ct/\K.lookup f=some ⟨oc,od,.func fd,osl⟩/\PySem.W.codeIn K cdv qual=true
 tp:∃(o:Obj) (n:Nat),K.lookup T=some o/\o.data= .seq its n
 kp:PySem.W.keepIn K (.ref f)=true
theorem FunD.ok {x qual:Str} {st:Stmt} {f:Addr} {fd:FuncData} {T:Addr} {its:Array Value} {N ps:List Str} {k:Nat} {sp:Sp} (F:FunD K x qual st f fd T its) (S:FnScope N ps (zAe st)) (len:∀vs H Q E,sp vs H Q E->vs.length=ps.length)
  (hbody:∀(cdv:Value) (A:Around) (outer:List Env) (s:Shared) (H:Hp) (vs:List V) (Q:VK) (E:XK),Room k (A.deeper (envOfC qual (zAe st) s.heap.objs.size f cdv))->sp vs H Q E ->
   ∃t,PSs (cxOf CX0 P w K mg base N qual (zAe st) f cdv A outer s H E).nox (zBr st) t/\t {nx:=fun _ H'=>Q .non H',rt:=Q} (zHp N vs) H):FnOk P w K mg base CX0 (k+1) f fd ps sp:=by
 obtain ⟨oc,od,kV,doc,pm,an,cdv,ct,osl,rfl,lk,hcd⟩:=F.ex
 refine fn_of lk hcd S len fun A outer s H vs Q E hr hsp=>?_
 obtain ⟨t,h,q⟩:=hbody cdv A outer s H vs Q E hr hsp
 exact ⟨t,h.nox,q⟩
theorem FunD.binds {x qual:Str} {st:Stmt} {f:Addr} {fd:FuncData} {T:Addr} {its:Array Value} {ps:List Str} {ds:List Value} (F:FunD K x qual st f fd T its)
  (h:∀(kV doc pm:Value) (an:Option Addr) (cdv ct:Value) (us:List Value),(us++ds).length=ps.length->∃k:Option (Array Value)->Sem (List (Str×Value)),bindArgs (PySem.W.fnOf x qual (zCe st) (zBr st) (zAe st) (.ref T) kV doc pm an cdv ct) ⟨us,[]⟩=(seqItems? (.ref T) >>= k)/\k (some its)=pure (ps.zip (us++ds))):zC5 K fd ps ds:=by
 obtain ⟨oc,od,kV,doc,pm,an,cdv,ct,osl,rfl,lk,hcd⟩:=F.ex
 obtain ⟨o,n,h1,h2⟩:=F.tp
 intro s us kin hl
 obtain ⟨k,e1,e2⟩:=h kV doc pm an cdv ct us hl
 exact BindsTo.of_defaults (T:=T) rfl (kin _ _ h1) h2 e1 e2
structure CalD (P:Program) (w:World) (K:PySem.W.Frag) (mg:Str->Option Value) (base:Heap) (x:Str) (k:Nat) (ps:List Str) (dvs:List V) (sp:Sp):Prop where
 to:∃(f:Addr) (fd:FuncData) (ds:List Value),mg x=some (.ref f)/\PySem.W.keepIn K (.ref f)=true/\zC5 K fd ps ds/\Vals dvs ds/\FnOk P w K mg base CX0 k f fd ps sp
end
theorem pe_callD {X:Cx} {x:Str} {k:Nat} {ps:List Str} {dvs:List V} {sp:Sp} {e:Expr} {es:List Expr} {p pos:Pos} {t:TA} (C:CalD X.prog X.w X.K X.mg X.base x k ps dvs sp) (hr:Room k X.A) (hg:Gl X x) (ha:PA X (e::es) t)
  (hdb:(x==("__debug__" : Str))=false:=by decide) (he:starEach (e::es) X.env=(false,eval e X.env)::starEach es X.env:=by rfl) (hpl:(backTo pos (starEach es X.env)).any (·.1)=false:=by rfl) :
  PE X (.Call (.Name x p) (e::es) [] pos) (tCall sp dvs E0 t):=by
 obtain ⟨f,fd,ds,h1,h2,h3,h5,h4⟩:=C.to
 exact pe_call h4 hr hg h1 h2 h3 h5 pass0 ha hdb he hpl
section
variable {X:Cx}
def tFmtR (t1 t2:TE):TE:=fun σ H Q=>t1 σ H fun x H1=>∃a:Str,x= .str a/\a.length<=100/\t2 σ H1 fun y H2=>∃b:Str,y= .str b/\b.length<=100/\(∀c∈b.cps.toList,c<16^8)/\∀z,Q (.str z) H2
theorem pe_fmtR {e1 e2:Expr} {t1 t2:TE} {c:Str} {j:Nat} {p1 p2 p3 pos:Pos} (h1:PE X e1 t1) (h2:PE X e2 t2) (hc:c.length<=100:=by decide):PE X (.JoinedStr [.FormattedValue e1 (-1) none p1,.Constant (.str c) j p2,.FormattedValue e2 114 none p3] pos) (tFmtR t1 t2):=by
 intro pins s σ H Q I h
 refine JoinedStr_many (joinParts_cons (FormattedValue_plain (thn (h1 pins s σ H _ I h) fun v s1 ⟨x,H1,I1,r1,q1⟩=>?_)))
 obtain ⟨a,rfl,ha,q1⟩:=q1
 obtain ⟨t,rfl⟩:=r1
 have hs:=sizeLine_eq
 have ea:(Str.empty++a)=a:=by
  exact empty_app a
 refine formatField_str (fun t' tk=>?_) (by omega)
 refine ⟨by rw [ea];omega,?_⟩
 rw [ea]
 refine joinParts_cons (Calls.Constant_str ⟨?_,?_⟩)
 ·rw [strLen_append];omega
 refine joinParts_cons ?_
 show wpAny _ _ (do let v<-eval e2 X.env;standAt p3;formatField (<-holding [v] (pyReprObj v)) Str.empty) _ _ _
 refine wpAny_bind (thn (h2 pins _ σ H1 _ (I1.tok _) q1) fun v s2 ⟨y,H2,I2,r2,q2⟩=>wpAny_bind (wpAny_standAt ?_))
 obtain ⟨b,rfl,hb,hcp,q2⟩:=q2
 obtain ⟨t2,rfl⟩:=r2
 have hR:(reprText b).length<=1002:=by
  have:=StrLaws.reprText_len b hcp
  omega
 refine wpAny_bind (wpAny_holding (wpAny_pyReprObj_str ?_ (by omega)))
 refine formatField_str (fun t' tk=>?_) (by omega)
 have hz:(a++c++reprText b).length<=sizeLine:=by rw [strLen_append,strLen_append];omega
 exact ⟨hz,joinParts_nil ⟨.str _,H2,I2.tok _,⟨_,rfl⟩,q2 _⟩ hz⟩
end
end L2
namespace My
open PySem L2
structure RingOf (f:Str->List Str) (rs:List Str):Prop where
 ne:rs≠[]
 nd:rs.Nodup
 go:∀(k:Nat) (x y:Str),rs[k]?=some y->rs[if k=0 then rs.length - 1 else k - 1]?=some x->x∈f y
def Wk (f:Str->List Str) (xs:List Str):Prop:=∀(i:Nat) (a b:Str),xs[i]?=some a->xs[i+1]?=some b->b∈f a
theorem Wk.snoc {f:Str->List Str} {xs:List Str} {a b:Str} (w:Wk f (xs++[a])) (h:b∈f a):Wk f (xs++[a]++[b]):=fun i x y hx hy=>by
 by_cases c:i+1<(xs++[a]).length
 ·rw [List.getElem?_append_left (by omega)] at hx
  rw [List.getElem?_append_left c] at hy
  exact w i x y hx hy
 ·have hy':=(List.getElem?_eq_some_iff.mp hy).1
  simp only [List.length_append,List.length_singleton] at c hy'
  have ei:i=xs.length:=by omega
  subst ei
  rw [List.getElem?_append_left (by simp)] at hx
  simp at hx hy
  rw [<-hx,<-hy];exact h
theorem Wk.ring {f:Str->List Str} {ts:List Str} {h:Str} (w:Wk f (ts++[h])) (nd:ts.Nodup) (hm:h∈ts):RingOf f (ts.drop (ts.idxOf h)).reverse:=by
 have jl:ts.idxOf h<ts.length:=List.idxOf_lt_length_of_mem hm
 have hR:∀i,(ts.drop (ts.idxOf h)++[h])[i]?=(ts++[h])[ts.idxOf h+i]?:=fun i=>by
  rw [<-List.getElem?_drop,List.drop_append_of_le_length (by omega)]
 have wR:Wk f (ts.drop (ts.idxOf h)++[h]):=fun i a b h1 h2=>by
  rw [hR] at h1 h2
  exact w _ a b h1 (by rw [Nat.add_assoc];exact h2)
 have hd:(ts.drop (ts.idxOf h))[0]?=some h:=by
  rw [List.getElem?_drop,Nat.add_zero,List.getElem?_eq_getElem jl,List.getElem_idxOf jl]
 have len:0<(ts.drop (ts.idxOf h)).length:=by rw [List.length_drop];omega
 have nd2:(ts.drop (ts.idxOf h)).Nodup:=nd.sublist (List.drop_sublist _ _)
 generalize ts.drop (ts.idxOf h)=R at wR hd len nd2
 refine ⟨fun z=>?_,(List.reverse_perm R).nodup_iff.mpr nd2,fun k x y hy hx=>?_⟩
 ·have:=congrArg List.length z
  simp at this
  rw [this] at len;exact Nat.lt_irrefl _ len
 ·have hk:=(List.getElem?_eq_some_iff.mp hy).1
  rw [List.length_reverse] at hk hx
  rw [List.getElem?_reverse hk] at hy
  by_cases k0:k=0
  ·subst k0
   rw [if_pos rfl,List.getElem?_reverse (by omega),show R.length - 1 - (R.length - 1)=0 by omega,hd] at hx
   cases hx
   refine wR (R.length - 1) y h (by rw [List.getElem?_append_left (by omega)];simpa using hy) ?_
   rw [show R.length - 1+1=R.length by omega,List.getElem?_append_right (Nat.le_refl _)];simp
  ·rw [if_neg k0,List.getElem?_reverse (by omega)] at hx
   refine wR (R.length - 1 - k) y x (by rw [List.getElem?_append_left (by omega)];exact hy) ?_
   rw [List.getElem?_append_left (by omega),show R.length - 1 - k+1=R.length - 1 - (k - 1) by omega];exact hx
structure RC (K:PySem.W.Frag) (mg:Str->Option Value) (CB CR:Addr):Prop where
 bi:InitX K CB
 mgB:mg "BenchError" = some (.ref CB)
 xc:XCls K CR
 nr:zDj K CR "ring"
 mgR:mg "Ring" = some (.ref CR)
 gt:XGet K CR
 self:(mroK K CR).contains (.ref CB)=true
section
variable {P:Program} {w:World} {K:PySem.W.Frag} {mg:Str->Option Value} {base:Heap} {CB CR:Addr}
def spRing (CR:Addr):Sp:=fun vs H Q _=>∃(e l:Addr) (ys:List Str),vs=[.ref e,.ref l]/\H e=some (excN e CR none)/\Txs H l ys/\ys≠[]/\ys.length<=20/\(∀y∈ys,zBa y)/\∀dx,H dx=none->Q .non (upd (upd H dx (.xd [("ring",.ref l)])) e (excN e CR (some dx)))
abbrev zC1:Stmt:=zF6 (top 7) 0
theorem zGd:FnScope ["self", "ring"] ["self", "ring"] (zAe zC1):=⟨rfl,rfl,rfl,by decide +kernel,rfl,by decide +kernel,by decide +kernel⟩
theorem ok_Ring_init {f:Addr} {fd:FuncData} (F:Fun K "__init__" "Ring.__init__" zC1 f fd) (R:RC K mg CB CR):FnOk P w K mg base CX0 1 f fd ["self", "ring"] (spRing CR):=by
 refine F.ok zGd (fun vs H Q E h=>?_) (fun cdv A outer s H vs Q E hr h=>?_)
 ·obtain ⟨e,l,ys,rfl,_⟩:=h
  rfl
 ·obtain ⟨e,l,ys,rfl,he,hl,h1,h2,h3,k⟩:=h
  refine ⟨_,(zAc (zA3 (pe_base R.bi rfl R.mgB (zAa (pv 0) (zAa (pe_fmtL hr (pv 1)) zAb))))
   (zAd (ps_fldX (pv 0) (pv 1) rfl))),?_⟩
  refine ⟨_,rfl,_,rfl,l,ys,rfl,SqL.of hl,h1,by omega,fun y hy=>⟨by have:=(h3 y hy).2.1;omega,fun c hc=>by have:=((h3 y hy).2.2 c hc).2;omega⟩,fun z=>?_⟩
  refine ⟨e,CR,none,.str z,rfl,he,R.xc.exc,?_⟩
  exact ⟨_,rfl,_,rfl,e,CR,rfl,he,R.xc,R.nr,fun dx hdx=>k dx hdx⟩
def zGu:Sp:=fun vs H Q _=>∃(l d:Addr) (ns L:List Str) (la:Str->Addr) (f:Str->List Str),vs=[.ref l,.ref d]/\Txs H l L/\L≠[]/\L.length<=20/\H d=some (.dK (dT1 ns fun n=>.ref (la n)))/\(∀n∈L,n∈ns/\Txs H (la n) (f n)/\(f n).length<=4096/\∃m∈f n,m∈L) /\
 ∀p rs H',Fre H p->Txs H' p rs->Kp [] H H'->RingOf f rs->(∀x∈rs,x∈L)->rs.length<=20->Q (.ref p) H'
abbrev zDb:Stmt:=top 34
theorem zB6:FnScope ["left", "told", "trail", "here", "ring"] ["left", "told"] (zAe zDb):=⟨rfl,rfl,rfl,by decide +kernel,rfl,by decide +kernel,by decide +kernel⟩
def trailN (σ:St) (H:Hp):Nat:=match (σ[2]?:Option (Option V)) with
 | some (some (.ref a))=>match H a with
  | some (.lst xs)=>20 - xs.length
  | _=>0
 | _=>0
theorem zI6 {f:Addr} {fd:FuncData} (F:Fun K "ring_among" "ring_among" zDb f fd) (T:Txt K mg):FnOk P w K mg base CX0 1 f fd ["left", "told"] zGu:=by
 refine F.ok zB6 (fun vs H Q E h=>?_) (fun cdv A outer s H vs Q E hr h=>?_)
 ·obtain ⟨l,d,ns,L,la,f,rfl,_⟩:=h
  rfl
 ·obtain ⟨l,d,ns,L,la,f,rfl,hl,L0,hn,hd,hf,k⟩:=h
  have hu:=hu_of hr
  refine ⟨_,(zAc (zAn (i:=2) zB6.nd rfl (by walk_at "lc") (zBo zAb))
   (zAc (zAn (i:=3) zB6.nd rfl (by walk_at "lc") (zA9 zA1 (pv 0) zAg (fun _ _=>rfl)))
   (zAc (ps_while PassesOwn.never (zAr zDd (pv 3) (pv 2) (by rfl))
    (zAc (zA3 (zDm PySem.F.plainAttrs_list PySem.F.slot_list_append PySem.F.type_list_append zC4 (pv 2) (zAa (pv 3) zAb)))
    (zAd (zAn (i:=3) zB6.nd rfl (by walk_at "lc") (zA9 zA1 (zBz rfl (zB4 (sc:=zAe zDb) rfl (by decide +kernel)) (Draws.own (x:= "name") (Draws.tk (i:=0) rfl (by walk_at "vs") (by walk_at "vk") (by walk_at "vf") Draws.nil)) (zAx (zG1 hu (pv 1) (pv 3) (fun _ _=>rfl))) (fun C s₀ H₀ ex=>(zAk (i:=0) (show List.Nodup (["name", "left"]:List Str) by decide +kernel) rfl (by walk_at "lc"))) (fun C s₀ H₀ ex=>(zF1 (zAr zIa (pv 0) (pv 1) (by rfl)))) (fun C s₀ H₀ ex=>(pv 0))) zAg (fun _ _=>rfl))))))
   (zAc (zAn (i:=4) zB6.nd rfl (by walk_at "lc") (zCg zIv (pv 2) (zDk (zDm PySem.F.plainAttrs_list PySem.F.slot_list_index PySem.F.type_list_index mt_index (pv 2) (zAa (pv 3) zAb))) zDl))
   (zAd (zAq (zAy (call_listRv rfl) (by rfl) T.z_list zEh (zAa (zAy zHy (by rfl) T.z_reversed bo_reversed (zAa (pv 4) zAb)) zAb)))))))),?_⟩
  refine ⟨(by walk_at "ln"),fun tr htr=>?_⟩
  have ftr:Fre H tr:=htr
  have k1:Kp [] H (upd H tr (.lst [])):=Kp.new Kp.refl ftr
  obtain ⟨h0,L1,eL⟩:∃a b,L=a::b:=by
   cases L with
   | nil=>exact absurd rfl L0
   | cons a b=>exact ⟨a,b,rfl⟩
  refine ⟨_,rfl,_,_,_,.str h0,rfl,rfl,SqL.of (k1 l _ hl (by simp)),zA0 (by decide) (by rw [eL];rfl),?_⟩
  refine while_by (fun σ H2=>∃(ts:List Str) (h:Str),σ=[some (.ref l),some (.ref d),some (.ref tr),some (.str h),none]/\Kp [] H H2/\Txs H2 tr ts/\ts.Nodup/\(∀x∈ts,x∈L)/\h∈L/\Wk f (ts++[h])) trailN
   ⟨[],h0,rfl,k1,upd_same,List.nodup_nil,(fun x h=>nomatch h),by rw [eL];exact List.mem_cons_self,fun i a b _ h2=>by simp at h2⟩ ?_ (fun σ H Q Q' hq hc=>?_)
  ·rintro σ H2 ⟨ts,h,rfl,k2,ht,nd,sub,hL,wk⟩
   have tl:ts.length<=L.length:=zEx nd sub
   refine ⟨_,rfl,_,rfl,_,_,rfl,.inl (SqL.of ht),rfl,zCm ts,_,rfl,?_⟩
   rw [zEd]
   refine ite2 (fun c=>?_) (fun c=>?_)
   ·have hn':h∉ts:=fun z=>by simp [z] at c
    have nd2:(ts++[h]).Nodup:=List.nodup_append.mpr ⟨nd,by simp,fun a ha b hb=>by rw [List.mem_singleton.mp hb];rintro rfl;exact hn' ha⟩
    have sub2:∀x∈ts++[h],x∈L:=fun x hx=>by
     rcases List.mem_append.mp hx with z| z
     ·exact sub x z
     ·rw [List.mem_singleton.mp z];exact hL
    have tl2:=zEx nd2 sub2
    rw [List.length_append,List.length_singleton] at tl2
    refine ⟨_,rfl,.inl ⟨rfl,_,SqL.of ht⟩,_,rfl,_,_,_,rfl,rfl,ht,by rw [List.length_map,sizeLine_eq];omega,?_⟩
    have k3:Kp [] H (upd H2 tr (.lst (ts.map V.str++[.str h]))):=Kp.new k2 ftr
    have ht3:Txs (upd H2 tr (.lst (ts.map V.str++[.str h]))) tr (ts++[h]):=by
     show upd _ tr _ tr=some (.lst ((ts++[h]).map V.str))
     rw [upd_same,List.map_append];rfl
    generalize upd H2 tr (.lst (ts.map V.str++[.str h]))=H3 at k3 ht3
    obtain ⟨n1,n2,n3,n4⟩:=hf h hL
    refine ⟨_,rfl,_,rfl,_,.ref (la h),rfl,?_,_,rfl,⟨_,SqL.of (k3 _ _ n2 (by simp))⟩,fun B hB=>zEf ((f h).map V.str) (fun i ys τ H4=>(∃o0,τ=[o0,some (.ref l)])/\ys=(((f h).take i).filter fun n=>decide (n∈L)).map V.str/\H4=upd H3 B (.lst ys))
     ⟨⟨_,rfl⟩,rfl,rfl⟩ (fun i ys τ H4 ⟨_,_,z⟩=>by subst z;exact SqL.of ((Kp.new (M:=[]) k3 (k3.fre hB (by simp))) _ _ n2 (by simp))) ?_ ?_⟩
    ·have:=DGet.k (k:=Sum.inr h) (k3 d _ hd (by simp))
     rw [zCy,if_pos n1] at this;exact this
    ·rintro i v ys τ H4 hv ⟨⟨o0,rfl⟩,rfl,rfl⟩
     obtain ⟨n,en,rfl⟩:=zBn hv
     refine ⟨_,rfl,_,rfl,_,_,rfl,.inl (SqL.of ((Kp.new (M:=[]) k3 (k3.fre hB (by simp))) l _ hl (by simp))),rfl,zCm L,_,rfl,?_⟩
     rw [zEd]
     refine ite2 (fun c=>?_) (fun c=>?_)
     ·refine ⟨_,rfl,upd_same,?_,⟨_,rfl⟩,?_,zDu⟩
      ·rw [List.length_map];exact zJl n3
      ·rw [zJk en c,List.map_append];rfl
     ·refine ⟨⟨_,rfl⟩,?_,?_⟩
      ·rw [filt_no en c]
      ·rfl
    ·rintro ys τ H4 ⟨_,rfl,rfl⟩
     have eT:(f h).take ((f h).map V.str).length=f h:=by rw [List.length_map,List.take_length]
     rw [eT]
     obtain ⟨m,m1,m2⟩:=n4
     obtain ⟨x,r,eF⟩:∃x r,((f h).filter fun n=>decide (n∈L))=x::r:=by
      cases q:((f h).filter fun n=>decide (n∈L)) with
      | nil =>
       have:m∈((f h).filter fun n=>decide (n∈L)):=List.mem_filter.mpr ⟨m1,decide_eq_true m2⟩
       rw [q] at this;cases this
      | cons x r=>exact ⟨x,r,rfl⟩
     have mx:x∈((f h).filter fun n=>decide (n∈L)):=by rw [eF];exact List.mem_cons_self
     obtain ⟨x1,x2⟩:=List.mem_filter.mp mx
     rw [eF]
     refine ⟨_,_,_,.str x,rfl,rfl,SqL.of upd_same,zA0 (by decide) rfl,?_⟩
     have k4:Kp [] H (upd H3 B (.lst ((x::r).map V.str))):=Kp.new k3 (k3.fre hB (by simp))
     have ht4:Txs (upd H3 B (.lst ((x::r).map V.str))) tr (ts++[h]):=(upd_ne (ne_fre hB ht3)).trans ht3
     refine ⟨⟨ts++[h],x,rfl,k4,ht4,nd2,sub2,of_decide_eq_true x2,wk.snoc x1⟩,?_⟩
     have m1:trailN [some (V.ref l),some (.ref d),some (.ref tr),some (.str h),none] H2=20 - ts.length:=by
      show (match H2 tr with| some (.lst xs)=>20 - xs.length| _=>0)=_
      rw [ht];simp
     have m2:∀o3,trailN [some (V.ref l),some (.ref d),some (.ref tr),o3,none] (upd H3 B (.lst ((x::r).map V.str)))=20 - (ts.length+1):=fun o3=>by
      show (match upd H3 B (.lst ((x::r).map V.str)) tr with| some (.lst xs)=>20 - xs.length| _=>0)=_
      rw [ht4];simp
     rw [m1]
     refine Nat.lt_of_le_of_lt (Nat.le_of_eq (m2 _)) ?_
     omega
   ·have hm:h∈ts:=by
     apply Classical.byContradiction
     intro z
     simp [z] at c
    refine ⟨_,rfl,_,rfl,.inl ⟨rfl,_,SqL.of ht⟩,_,rfl,tr,ts,h,rfl,rfl,ht,hm,by omega,_,rfl,_,_,rfl,SqL.of ht,fun p hp=>?_⟩
    rw [zJn _ (by omega),Int.toNat_natCast,<-List.map_drop]
    have fp:Fre H p:=k2.fre hp (by simp)
    refine ⟨_,rfl,_,_,rfl,upd_same,fun r hr=>⟨r,p,_,rfl,upd_same,(upd_ne (zAj (show upd H2 p _ p=some _ from upd_same) hr)).trans upd_same,fun q hq=>?_⟩⟩
    have k5:Kp [] H (upd H2 p (.lst ((ts.drop (ts.idxOf h)).map V.str))):=Kp.new k2 fp
    have fr:Fre H r:=k5.fre hr (by simp)
    have k6:Kp [] H (upd (upd H2 p (.lst ((ts.drop (ts.idxOf h)).map V.str))) r (rvN s.heap.objs.size r p ((ts.drop (ts.idxOf h)).map V.str).length)):=Kp.new k5 fr
    have fq:Fre H q:=k6.fre hq (by simp)
    rw [<-List.map_reverse]
    refine k q _ _ fq upd_same (Kp.new (fun b o hb n=>?_) fq) (wk.ring nd hm) (fun x hx=>sub x (List.mem_of_mem_drop (List.mem_reverse.mp hx))) (by rw [List.length_reverse,List.length_drop];omega)
    rw [zCn (zAj hb fr)]
    exact k6 b o hb n
  ·obtain ⟨x,e,y,e2,p,xs,e3,a,b,c,z,e4,q⟩:=hc
   exact ⟨x,e,y,e2,p,xs,e3,a,b,c,z,e4,hq _ _ q⟩
end
def Tp (D:List Str) (f:Str->List Str):Prop:=∀(i:Nat) (n:Str),D[i]?=some n->∀x∈f n,x∈D.take i
theorem Tp.more {D FR:List Str} {f:Str->List Str} (t:Tp D f) (h:∀n∈FR,∀x∈f n,x∈D):Tp (D++FR) f:=fun i n hi x hx=>by
 by_cases c:i<D.length
 ·rw [List.getElem?_append_left c] at hi
  rw [List.take_append_of_le_length (Nat.le_of_lt c)]
  exact t i n hi x hx
 ·rw [List.getElem?_append_right (by omega)] at hi
  rw [List.take_append,List.take_of_length_le (by omega)]
  exact List.mem_append_left _ (h n (List.mem_of_getElem? hi) x hx)
structure MkrX (P:Program) (w:World) (K:PySem.W.Frag) (mg:Str->Option Value) (base:Heap) (C:Addr) (k:Nat) (ps:List Str) (sp:Sp):Prop where
 to:∃(f:Addr) (fd:FuncData),MkX K C f/\zC5 K fd ps []/\FnOk P w K mg base CX0 k f fd ps sp
theorem zGz {X:Cx} {E:XK} {C:Addr} {k:Nat} {ps:List Str} {sp:Sp} {x:Str} {np cpos pos:Pos} {a:Expr} {es:List Expr} {t:TA} (hx:zJr X C E) (hc:X.calm=true) (hg:Gl X x) (hm:X.mg x=some (.ref C)) (M:MkrX X.prog X.w X.K X.mg X.base C k ps sp) (hr:Room (k+1) X.A) (ha:PA X (a::es) t)
  (hd:(x==("__debug__" : Str))=false:=by decide) (he:starEach (a::es) X.env=(false,eval a X.env)::starEach es X.env:=by rfl) (hpl:(backTo cpos (starEach es X.env)).any (·.1)=false:=by rfl):PS X (.Raise (some (.Call (.Name x np) (a::es) [] cpos)) none pos) (sRaiseI E C sp t):=by
 obtain ⟨f,fd,h1,h2,h3⟩:=M.to
 exact ps_raiseI hx hc hg hm h1 h3 hr h2 pass0 ha hd he hpl
section
variable {P:Program} {w:World} {K:PySem.W.Frag} {mg:Str->Option Value} {base:Heap} {CB CR:Addr}
def zE1 (CR:Addr):Sp:=fun vs H Q E=>∃(l d:Addr) (ns:List Str) (la:Str->Addr) (f:Str->List Str),vs=[.ref l,.ref d]/\Txs H l ns/\ns.Nodup/\ns.length<=20/\(∀n∈ns,zBa n)/\H d=some (.dK (dT1 ns fun n=>.ref (la n)))/\(∀n∈ns,Txs H (la n) (f n)/\(f n).length<=4096/\∀x∈f n,x∈ns) /\
 (∀e D fa S H',Fp H H' e ns D fa S f->(∀n∈ns,n∈D)->Tp D f->Kp [] H H'->Q (.ref e) H') /\
 ∀p dx rs H',RingOf f rs->(∀x∈rs,x∈ns)->Txs H' p rs->H' dx=some (.xd [("ring",.ref p)])->rs.length<=20->Kp [] H H'->E (.ref CR) (some dx) H'
theorem zJa {f:Addr} {fd:FuncData} (F:Fun K "all_ahead" "all_ahead" zC0 f fd) (T:Txt K mg) (R:RC K mg CB CR) (M_Ring:MkrX P w K mg base CR 1 ["self", "ring"] (spRing CR)) (C_ring_among:Cal P w K mg base "ring_among" 1 ["left", "told"] zGu) (C_has_all:Cal P w K mg base "has_all" 1 ["done", "names"] spHasAll) (C_joined:Cal P w K mg base "joined" 1 ["near", "far"] spJoined):FnOk P w K mg base (CX1 P w) 3 f fd ["names", "told"] (zE1 CR):=by
 refine Fun.okX F zB2 (fun vs H Q E h=>?_) (fun cdv A outer s H vs Q E hr h=>?_)
 ·obtain ⟨l,d,ns,la,f,rfl,_⟩:=h
  rfl
 ·obtain ⟨l,d,ns,la,f,rfl,hl,hN,hn,hNS,hd,hf,k,kE⟩:=h
  have hu:=hu_of hr
  have HR_has_all:=hr.mono (j:=1) (by decide)
  have HR_joined:=hr.mono (j:=1) (by decide)
  have HR_ring_among:=hr.mono (j:=1) (by decide)
  refine ⟨_,(zAc (zAn (i:=2) zB2.nd rfl (by walk_at "lc") zEm)
   (zAc (zAn (i:=3) zB2.nd rfl (by walk_at "lc") (zAy zCo (by rfl) T.z_list zEh (zAa (pv 0) zAb)))
   (zAc (ps_while PassesOwn.leaving (pt_truth (pv 3) (fun _=>rfl))
    (zAc (zI1 (i:=4) rfl (zB4 (sc:=zAe zC0) rfl (by decide +kernel)) (Draws.own (x:= "name") (Draws.tk (i:=2) rfl (by walk_at "vs") (by walk_at "vk") (by walk_at "vf") (Draws.tk (i:=1) rfl (by walk_at "vs") (by walk_at "vk") (by walk_at "vf") Draws.nil))) (zAx (pv 3)) (fun C s₀ H₀ ex=>(zAk (i:=0) (show List.Nodup (["name", "far", "told"]:List Str) by decide +kernel) rfl (by walk_at "lc"))) (fun C s₀ H₀ ex=>(zF1 (zBi (zAi C_has_all HR_has_all rfl (zAa (pv 1) (zAa (zG1 hu (pv 2) (pv 0) (fun _ _=>rfl)) zAb)))))) (fun C s₀ H₀ ex=>(pv 0)) zB2.nd rfl rfl)
    (zAc (zA2 (zC2 (pt_truth (pv 4) (fun _=>rfl)))
     (zAd (zGz raiseD rfl rfl R.mgR M_Ring hr (zAa (zAi C_ring_among HR_ring_among rfl (zAa (pv 3) (zAa (pv 1) zAb))) zAb)))
     zAm)
    (zAc (zBb PassesOwn.leaving rfl (zAx (pv 4)) (zAk (i:=5) zB2.nd rfl (by walk_at "lc"))
     (zAd (zG0 hu (pv 2) (pv 5) (zAi C_joined HR_joined rfl (zAa (zG1 hu (pv 1) (pv 5) (fun _ _=>rfl)) (zAa (pv 2) zAb))) rfl)))
    (zAd (zI1 (i:=3) rfl (zB4 (sc:=zAe zC0) rfl (by decide +kernel)) (Draws.own (x:= "name") (Draws.tk (i:=2) rfl (by walk_at "vs") (by walk_at "vk") (by walk_at "vf") Draws.nil)) (zAx (pv 3)) (fun C s₀ H₀ ex=>(zAk (i:=0) (show List.Nodup (["name", "far"]:List Str) by decide +kernel) rfl (by walk_at "lc"))) (fun C s₀ H₀ ex=>(zF1 (pt_cmp (pc_dnotin hu (pv 0) (pv 1))))) (fun C s₀ H₀ ex=>(pv 0)) zB2.nd rfl rfl))))))
   (zAd (zAq (pv 2)))))),?_⟩
  refine fun e he=>?_
  have fe:Fre H e:=he
  refine ⟨_,rfl,_,_,rfl,.inl (SqL.of ((Kp.new (M:=[]) Kp.refl fe) l _ hl (by simp))),fun lf hlf=>?_⟩
  have k0:Kp [] H (upd H e (.dK [])):=Kp.new Kp.refl fe
  have flf:Fre H lf:=k0.fre hlf (by simp)
  have nel:e≠lf:=ne_fre (show Fre (upd H e (.dK [])) lf from hlf) upd_same
  show tWhile (fun σ H Q=>tVar 3 σ H fun x H'=>∃k,TruV K x H' k/\Q k H') _ _ _ _
  refine while_by (fun σ H2=>∃(lf:Addr) (D:List Str) (fa:Str->Addr) (S:Str->List Str) (o4 o5:Option V),σ=[some (.ref l),some (.ref d),some (.ref e),some (.ref lf),o4,o5]/\Kp [] H H2/\Fp H H2 e ns D fa S f/\Tp D f/\Txs H2 lf (ns.filter fun n=>decide (n∉D))) leftN
   ⟨lf,[],fun _=>0,fun _=>[],none,none,rfl,Kp.new k0 flf,⟨(upd_ne nel).trans upd_same,List.nodup_nil,(fun n h=>nomatch h),(fun n h=>nomatch h),(fun n h=>nomatch h),(fun n h=>nomatch h),(fun n h=>nomatch h),(fun n h=>nomatch h),(fun n h=>nomatch h),fe,(fun n h=>nomatch h)⟩,(fun i n h=>by simp at h),by
    have ef:(ns.filter fun n=>decide (n∉([]:List Str)))=ns:=by simp
    show upd _ lf _ lf=some (.lst ((ns.filter fun n=>decide (n∉([]:List Str))).map V.str))
    rw [ef];exact upd_same⟩ ?_ (fun σ H Q Q' hq hc=>by
    obtain ⟨x,e,b,t,q⟩:=hc
    exact ⟨x,e,b,t,hq _ _ q⟩)
  rintro σ H2 ⟨lf,D,fa,S,o4,o5,rfl,k2,FP,TP,hlf⟩
  refine ⟨_,rfl,_,.inl ⟨_,SqL.of hlf,rfl⟩,?_⟩
  have hLs:∀n,n∈(ns.filter fun n=>decide (n∉D))↔n∈ns/\n∉D:=fun n=>by simp [List.mem_filter]
  have hLl:(ns.filter fun n=>decide (n∉D)).length<=20:=Nat.le_trans (List.length_filter_le _ _) hn
  generalize hL:(ns.filter fun n=>decide (n∉D))=L at *
  refine ite2 (fun c=>?_) (fun c=>?_)
  ·have cL:L≠[]:=fun z=>by rw [z] at c;simp at c
   refine ⟨_,rfl,_,rfl,⟨_,SqL.of hlf⟩,fun B hB=>zEf (L.map V.str) (fun i ys τ H3=>(∃o0,τ=[o0,some (.ref e),some (.ref d)])/\ys=((L.take i).filter fun n=>(f n).all fun m=>decide (m∈D)).map V.str/\Kp [] H2 H3/\H3 B=some (.lst ys))
    ⟨⟨_,rfl⟩,rfl,Kp.new Kp.refl hB,upd_same⟩ (fun i ys τ H3 ⟨_,_,k3,_⟩=>SqL.of (k3 lf _ hlf (by simp))) ?_ ?_⟩
   ·rintro i v ys τ H3 hv ⟨⟨o0,rfl⟩,rfl,k3,h3⟩
    obtain ⟨n,en,rfl⟩:=zBn hv
    have mn:=(hLs n).mp (List.mem_of_getElem? en)
    obtain ⟨n1,n2,n3⟩:=hf n mn.1
    have k23:=k2.trans k3
    refine ⟨_,rfl,_,rfl,_,rfl,_,.ref (la n),rfl,?_,e,la n,_,f n,rfl,k3 e _ FP.top (by simp),k23 _ _ n1 (by simp),n2,fun H4 k4=>?_⟩
    ·have:=DGet.k (k:=Sum.inr n) (k23 d _ hd (by simp))
     rw [zCy,if_pos mn.1] at this;exact this
    have eall:((f n).all fun m=>(valV (dT1 D fun n=>V.ref (fa n)) (.inr m)).isSome)=(f n).all fun m=>decide (m∈D):=by
     congr 1;funext m;exact has_dT1 D _ m
    rw [eall]
    have h4:=k4 B _ h3 (by simp)
    have et:=zAl en
    refine ⟨_,rfl,ite2 (fun c=>?_) (fun c=>?_)⟩
    ·refine ⟨_,rfl,h4,?_,⟨_,rfl⟩,?_,Kp.new (k3.trans k4) hB,upd_same⟩
     ·rw [List.length_map,sizeLine_eq]
      have h1:=List.length_filter_le (fun n=>(f n).all fun m=>decide (m∈D)) (L.take i)
      rw [List.length_take] at h1
      omega
     ·rw [et,List.filter_append,List.map_append]
      have:[n].filter (fun n=>(f n).all fun m=>decide (m∈D))=[n]:=by rw [List.filter_cons,if_pos c];rfl
      rw [this];rfl
    ·refine ⟨⟨_,rfl⟩,?_,k3.trans k4,?_⟩
     ·rw [et,List.filter_append]
      have:[n].filter (fun n=>(f n).all fun m=>decide (m∈D))=[]:=by rw [List.filter_cons,if_neg c];rfl
      rw [this,List.append_nil]
     ·exact h4
   ·rintro ys τ H3 ⟨_,rfl,k3,h3⟩
    have eT:L.take (L.map V.str).length=L:=by rw [List.length_map,List.take_length]
    rw [eT] at h3
    have hFr:∀n,n∈(L.filter fun n=>(f n).all fun m=>decide (m∈D))↔n∈L/\∀m∈f n,m∈D:=fun n=>by simp [List.mem_filter]
    have hFl:(L.filter fun n=>(f n).all fun m=>decide (m∈D)).length<=20:=Nat.le_trans (List.length_filter_le _ _) hLl
    have hFn:(L.filter fun n=>(f n).all fun m=>decide (m∈D)).Nodup:=by
     have:L.Nodup:=by rw [<-hL];exact hN.sublist List.filter_sublist
     exact this.sublist List.filter_sublist
    generalize hFE:(L.filter fun n=>(f n).all fun m=>decide (m∈D))=FR at *
    have k23:=k2.trans k3
    refine ⟨_,rfl,_,.inl ⟨_,SqL.of h3,rfl⟩,?_⟩
    refine ite2 (fun c0=>?_) (fun c0=>?_)
    ·have hF0:FR=[]:=by
      cases FR with
      | nil=>rfl
      | cons _ _=>simp at c0
     have stuck:∀n∈L,∃m∈f n,m∈L:=fun n hnL=>by
      apply Classical.byContradiction
      intro z
      have:n∈FR:=(hFr n).mpr ⟨hnL,fun m hm=>Classical.byContradiction fun y=>z ⟨m,hm,(hLs m).mpr ⟨(hf n ((hLs n).mp hnL).1).2.2 m hm,y⟩⟩⟩
      rw [hF0] at this;cases this
     refine ⟨_,rfl,_,rfl,lf,d,ns,L,la,f,rfl,k3 lf _ hlf (by simp),cL,hLl,k23 d _ hd (by simp),fun n hnL=>⟨((hLs n).mp hnL).1,k23 _ _ (hf n ((hLs n).mp hnL).1).1 (by simp),(hf n ((hLs n).mp hnL).1).2.1,stuck n hnL⟩,fun p rs H4 fp hp k4 RO sub len=>⟨by walk_at "ln",fun x hx=>?_⟩⟩
     have npx:p≠x:=ne_fre hx hp
     refine ⟨x,p,rs,rfl,upd_same,(upd_ne npx).trans hp,RO.ne,len,fun y hy=>hNS y ((hLs y).mp (sub y hy)).1,fun dx hdx=>⟨rfl,some dx,upd_same,?_⟩⟩
     have nxd:x≠dx:=ne_fre hdx (show upd H4 x _ x=some _ from upd_same)
     have k24:=k23.trans k4
     have fxH:Fre H x:=k24.fre hx (by simp)
     have fdH:Fre H dx:=k24.fre (show H4 dx=none by have:=hdx;rw [upd_ne (Ne.symm nxd)] at this;exact this) (by simp)
     have npd:p≠dx:=ne_fre hdx ((upd_ne npx).trans hp)
     refine kE p dx rs _ RO (fun y hy=>((hLs y).mp (sub y hy)).1) ?_ ?_ len fun b o hb nm=>?_
     ·show del _ x p=_
      rw [zCn npx,upd_ne npx,upd_ne npd,upd_ne npx];exact hp
     ·rw [zCn (Ne.symm nxd),upd_ne (Ne.symm nxd),upd_same]
     ·have bx:b≠x:=zAj hb fxH
      rw [zCn bx,upd_ne bx,upd_ne (zAj hb fdH),upd_ne bx]
      exact k24 b o hb nm
    have hF0:FR≠[]:=fun z=>by rw [z] at c0;exact c0 rfl
    refine ⟨_,rfl,_,rfl,⟨_,SqL.of h3⟩,zBk (fun i σ H4=>∃(fa:Str->Addr) (S:Str->List Str) (o5:Option V),σ=[some (.ref l),some (.ref d),some (.ref e),some (.ref lf),some (.ref B),o5]/\Kp [] H H4/\Fp H H4 e ns (D++FR.take i) fa S f/\Txs H4 lf L/\Txs H4 B FR)
     ⟨fa,S,_,rfl,k23,by rw [List.take_zero,List.append_nil];exact FP.kp k3,k3 lf _ hlf (by simp),h3⟩ (fun i σ H4 _ ⟨_,_,_,_,_,_,_,h⟩=>SqL.of h) ?_ ?_⟩
    ·rintro i v σ H4 hv ⟨fa4,S4,o5',rfl,k4,F4,hlf4,hB4⟩
     obtain ⟨n,en,rfl⟩:=zBn hv
     have mF:=(hFr n).mp (List.mem_of_getElem? en)
     have mn:=(hLs n).mp mF.1
     obtain ⟨n1,n2,n3⟩:=hf n mn.1
     have nD:n∉D++FR.take i:=fun z=>by
      rcases List.mem_append.mp z with y| y
      ·exact mn.2 y
      ·exact zFo hFn en y
     have fD:∀x∈f n,x∈D++FR.take i:=fun x hx=>List.mem_append_left _ (mF.2 x hx)
     refine ⟨_,rfl,_,rfl,_,.ref (la n),rfl,?_,_,rfl,la n,e,f n,D++FR.take i,ns,fa4,S4,rfl,k4 _ _ n1 (by simp),F4.top,fun m hm=>⟨fD m hm,(n3 m hm),F4.row m (fD m hm),F4.sns m (fD m hm)⟩,hn,fun m hm=>Nat.le_trans (zEx (F4.snd m (fD m hm)) (F4.sns m (fD m hm))) hn,fun b H5 fb hb k5=>?_⟩
     ·have:=DGet.k (k:=Sum.inr n) (k4 d _ hd (by simp))
      rw [zCy,if_pos mn.1] at this;exact this
     have F5:=F4.kp k5
     have fbH:Fre H b:=k4.fre fb (by simp)
     refine ⟨_,rfl,_,rfl,_,_,rfl,DPut.k (k:=Sum.inr n) F5.top ?_,?_⟩
     ·have:=zEx F5.nd F5.sub
      rw [List.length_map,sizeLine_eq];omega
     ·have FM:=F5.more mn.1 nD fD n3 hb (Ne.symm (ne_fre fb F4.top)) fbH
      rw [List.append_assoc,<-zAl en] at FM
      exact ⟨_,_,_,rfl,Kp.new (k4.trans k5) fe,FM,(upd_ne (zBd hlf4 F4.top (fun z=>nomatch z))).trans (k5 lf _ hlf4 (by simp)),(upd_ne (zBd hB4 F4.top (fun z=>nomatch z))).trans (k5 B _ hB4 (by simp))⟩
    ·rintro σ H4 ⟨fa4,S4,o5',rfl,k4,F4,hlf4,hB4⟩
     have eF:FR.take (FR.map V.str).length=FR:=by rw [List.length_map,List.take_length]
     rw [eF] at F4
     refine ⟨_,rfl,_,rfl,⟨_,SqL.of hlf4⟩,fun G hG=>zEf (L.map V.str) (fun i ys τ H5=>(∃o0,τ=[o0,some (.ref e)])/\ys=((L.take i).filter fun n=>decide (n∉D++FR)).map V.str/\H5=upd H4 G (.lst ys))
      ⟨⟨_,rfl⟩,rfl,rfl⟩ (fun i ys τ H5 ⟨_,_,z⟩=>by subst z;exact SqL.of ((upd_ne (ne_fre (show Fre H4 G from hG) hlf4)).trans hlf4)) ?_ ?_⟩
     ·rintro i v ys τ H5 hv ⟨⟨o0,rfl⟩,rfl,rfl⟩
      obtain ⟨n,en,rfl⟩:=zBn hv
      refine ⟨_,rfl,_,rfl,_,_,rfl,DGet.k (k:=Sum.inr n) ((upd_ne (ne_fre (show Fre H4 G from hG) F4.top)).trans F4.top),_,rfl,?_⟩
      rw [has_dT1]
      have et:=zAl en
      refine ite2 (fun c=>?_) (fun c=>?_)
      ·have c':n∉D++FR:=fun z=>by rw [decide_eq_true z] at c;exact nomatch c
       refine ⟨_,rfl,upd_same,?_,⟨_,rfl⟩,?_,zDu⟩
       ·rw [List.length_map,sizeLine_eq]
        have h1:=List.length_filter_le (fun n=>decide (n∉D++FR)) (L.take i)
        rw [List.length_take] at h1
        omega
       ·rw [et,List.filter_append,List.map_append]
        have:[n].filter (fun n=>decide (n∉D++FR))=[n]:=by rw [List.filter_cons,if_pos (decide_eq_true c')];rfl
        rw [this];rfl
      ·have c':n∈D++FR:=by
        apply Classical.byContradiction
        intro z
        rw [decide_eq_false z] at c
        exact c rfl
       have e2:(L.take (i+1)).filter (fun n=>decide (n∉D++FR))=(L.take i).filter (fun n=>decide (n∉D++FR)):=by
        rw [et,List.filter_append]
        have:[n].filter (fun n=>decide (n∉D++FR))=[]:=by rw [List.filter_cons,if_neg (by rw [decide_eq_false (fun z=>z c')];decide)];rfl
        rw [this,List.append_nil]
       refine ⟨⟨_,rfl⟩,?_,?_⟩
       ·rw [e2]
       ·rfl
     ·rintro ys τ H5 ⟨_,rfl,rfl⟩
      have eT:L.take (L.map V.str).length=L:=by rw [List.length_map,List.take_length]
      rw [eT]
      have nGe:e≠G:=ne_fre (show Fre H4 G from hG) F4.top
      have eFF:(L.filter fun n=>decide (n∉D++FR))=ns.filter fun n=>decide (n∉D++FR):=by
       rw [<-hL,List.filter_filter]
       refine List.filter_congr fun n _=>?_
       by_cases z:n∈D
       ·have:n∈D++FR:=List.mem_append_left _ z
        rw [decide_eq_false (fun y=>y this)];rfl
       ·rw [decide_eq_true z,Bool.and_true]
      refine ⟨⟨G,D++FR,fa4,S4,_,_,rfl,Kp.new k4 (k4.fre (show Fre H4 G from hG) (by simp)),F4.kp (Kp.new Kp.refl hG),TP.more (fun n h1=>((hFr n).mp h1).2),?_⟩,?_⟩
      ·rw [<-eFF];exact upd_same
      ·have m1:leftN [some (V.ref l),some (.ref d),some (.ref e),some (.ref lf),o4,o5] H2=L.length:=by
        show (match H2 lf with| some (.lst xs)=>xs.length| _=>0)=_
        rw [hlf];simp
       have m2:∀o4 o5,leftN [some (V.ref l),some (.ref d),some (.ref e),some (.ref G),o4,o5] (upd H4 G (.lst ((L.filter fun n=>decide (n∉D++FR)).map V.str)))=(L.filter fun n=>decide (n∉D++FR)).length:=fun o4 o5=>by
        show (match upd H4 G (.lst ((L.filter fun n=>decide (n∉D++FR)).map V.str)) G with| some (.lst xs)=>xs.length| _=>0)=_
        rw [upd_same];simp
       rw [m1]
       refine Nat.lt_of_le_of_lt (Nat.le_of_eq (m2 _ _)) ?_
       obtain ⟨n,hnF⟩:=List.exists_mem_of_ne_nil FR hF0
       have hnL:=((hFr n).mp hnF).1
       exact zHh hnL (decide_eq_false fun z=>z (List.mem_append_right _ hnF))
  ·have cL:L=[]:=by
    cases L with
    | nil=>rfl
    | cons _ _=>exact absurd rfl c
   refine ⟨_,rfl,k e D fa S H2 FP (fun n hn'=>?_) TP k2⟩
   apply Classical.byContradiction
   intro z
   have:=(hLs n).mpr ⟨hn',z⟩
   rw [cL] at this
   exact nomatch this
end
theorem snd_mem {q:List Str×Addr} (h:∃a b,q.1=[a,b]):snd q∈q.1:=by
 obtain ⟨a,b,e⟩:=h
 unfold snd
 rw [e];simp
theorem tp_rank {D:List Str} {f:Str->List Str} {x n:Str} (t:Tp D f) (hn:n∈D) (hx:x∈f n):D.idxOf x<D.idxOf n:=by
 have jl:D.idxOf n<D.length:=List.idxOf_lt_length_of_mem hn
 have h:=t (D.idxOf n) n (by rw [List.getElem?_eq_getElem jl,List.getElem_idxOf jl]) x hx
 obtain ⟨j,hj,e⟩:=List.mem_iff_getElem.mp h
 rw [List.length_take] at hj
 rw [List.getElem_take] at e
 refine Nat.lt_of_le_of_lt ?_ (show j<D.idxOf n by omega)
 apply Classical.byContradiction
 intro z
 have:=List.not_of_lt_findIdx (show j<D.findIdx (·==x) from by have:D.idxOf x=D.findIdx (·==x):=rfl;omega)
 simp [e] at this
section
variable {P:Program} {w:World} {K:PySem.W.Frag} {mg:Str->Option Value} {base:Heap} {C CR:Addr}
structure GoodX (ns:List Str) (qs:List (List Str×Addr)):Prop where
 nm:∀n∈ns,zBa n
 nd:ns.Nodup
 few:ns.length<=20
 qfew:qs.length<=63
 qin:∀q∈qs,∀x∈q.1,x∈ns
def spInitX (C CR:Addr):Sp:=fun vs H Q E=>∃(x dx l m:Addr) (ns:List Str) (qs:List (List Str×Addr)),vs=[.ref x,.ref l,.ref m]/\H x=some (.ins C dx [])/\Txs H l ns/\Ords H m qs/\GoodX ns qs /\
 (∀J H',JobsAt C H' x J->JNew H J->J.ns=ns->(∀k,k∈J.zs.map (·.1)↔k∈qs.map (·.1))->(∃r:Str->Nat,∀q∈qs,r (fst q)<r (snd q))->Kp [x] H H'->Q .non H') /\
 ∀p dx rs H',RingOf (told qs) rs->(∀x∈rs,x∈ns)->Txs H' p rs->H' dx=some (.xd [("ring",.ref p)])->rs.length<=20->Kp [x] H H'->E (.ref CR) (some dx) H'
theorem zJd {f:Addr} {fd:FuncData} (F:Fun K "__init__" "Jobs.__init__" zAw f fd) (T:Txt K mg) (U:JC K mg C) (C_check_names:Cal P w K mg base "check_names" 2 ["names"] zC7) (C_check_parts:Cal P w K mg base "check_parts" 3 ["names", "orders"] zD4)
  (C_all_ahead:CalX P w K mg base "all_ahead" 3 ["names", "told"] (zE1 CR)) (C_told_ahead:Cal P w K mg base "told_ahead" 1 ["names", "orders"] zEz):FnOk P w K mg base (CX1 P w) 4 f fd ["self", "names", "orders"] (spInitX C CR):=by
 refine Fun.okX F zBw (fun vs H Q E h=>?_) (fun cdv A outer s H vs Q E hr h=>?_)
 ·obtain ⟨x,dx,l,m,ns,qs,rfl,_⟩:=h
  rfl
 ·obtain ⟨x,dx,l,m,ns,qs,rfl,hx,hl,hm,G,k,kE⟩:=h
  have HR_check_parts:=hr
  have HR_check_names:=hr.mono (j:=2) (by decide)
  have HR_told_ahead:=hr.mono (j:=1) (by decide)
  refine ⟨_,(zAc (zA3 (zAi C_check_names HR_check_names rfl (zAa (pv 1) zAb)))
   (zAc (zA3 (zAi C_check_parts HR_check_parts rfl (zAa (pv 1) (zAa (pv 2) zAb))))
   (zAc (ps_fld (pv 0) (zAy zCo (by rfl) T.z_list zEh (zAa (pv 1) zAb)) rfl)
   (zAc (ps_fld (pv 0) (zAf (zDo (P:=P) (w:=w) (K:=K) HR_told_ahead) (by rfl) T.z_sorted zHj (zAa (zAy (zF8 (P:=P) (w:=w) (K:=K) HR_told_ahead) (by rfl) T.z_set bo_set (zAa (zBz rfl (zB4 (sc:=zAe zAw) rfl (by decide +kernel)) (Draws.own (x:= "one") (Draws.own (x:= "other") Draws.nil)) (zAx (pv 2)) (fun C s₀ H₀ ex=>(zI2 (K:=K) (n:=2) rfl (zA8 (zAk (i:=0) (show List.Nodup (["one", "other"]:List Str) by decide +kernel) rfl (by walk_at "lc")) (zA8 (zAk (i:=1) (show List.Nodup (["one", "other"]:List Str) by decide +kernel) rfl (by walk_at "lc")) zD9)))) (fun C s₀ H₀ ex=>zB8) (fun C s₀ H₀ ex=>(zB9 (zAa (pv 0) (zAa (pv 1) zAb))))) zAb)) zAb)) rfl)
   (zAd (ps_fld (pv 0) (zCw (E:=fun _=>E) C_all_ahead hr rfl (zHs fun _ _ _ _ h=>h) (zAa (pe_fld (pv 0) rfl) (zAa (zAi C_told_ahead HR_told_ahead rfl (zAa (pe_fld (pv 0) rfl) (zAa (pe_fld (pv 0) rfl) zAb))) zAb))) rfl)))))),?_⟩
  refine ⟨_,rfl,l,ns,rfl,hl,G.few,G.nm,G.nd,fun H1 k1=>?_⟩
  have hm1:=hm.kp k1 (by simp) (by simp)
  refine ⟨_,rfl,_,rfl,l,m,ns,qs,rfl,k1 l _ hl (by simp),hm1,G.qin,?_⟩
  have hx1:=k1 x _ hx (by simp)
  refine ⟨_,rfl,_,_,rfl,.inl (SqL.of (k1 l _ hl (by simp))),fun r1 hr1=>?_⟩
  have nxr:x≠r1:=ne_fre hr1 hx1
  refine ⟨_,rfl,_,_,_,_,rfl,(upd_ne nxr).trans hx1,U.cl,U.n_row,(by decide),?_⟩
  have hm2:∀o1 o2,Ords (upd (upd H1 r1 o1) x o2) m qs:=fun o1 o2 =>
   ⟨(upd_ne (zBd hm1.top hx1 (fun z=>nomatch z))).trans ((upd_ne (ne_fre hr1 hm1.top)).trans hm1.top),fun q hq=>(upd_ne (zBd (hm1.row q hq) hx1 (fun z=>nomatch z))).trans ((upd_ne (ne_fre hr1 (hm1.row q hq))).trans (hm1.row q hq)),hm1.two⟩
  have hrow2:∀o2,Txs (upd (upd H1 r1 (.lst (ns.map V.str))) x o2) r1 ns:=fun o2=>(upd_ne nxr.symm).trans upd_same
  have k2:∀o1 o2,Kp [x] H (upd (upd H1 r1 o1) x o2):=fun o1 o2=>Kp.put (Kp.new (k1.weak (by simp)) (k1.fre hr1 (by simp))) (by simp)
  have hx2:∀o1 o2,(upd (upd H1 r1 o1) x o2) x=some o2:=fun o1 o2=>upd_same
  have hm2:=hm2 (.lst (ns.map V.str)) (.ins C dx (putF "row" (.ref r1) []))
  have hrow2:=hrow2 (.ins C dx (putF "row" (.ref r1) []))
  have k2:=k2 (.lst (ns.map V.str)) (.ins C dx (putF "row" (.ref r1) []))
  have hx2:=hx2 (.lst (ns.map V.str)) (.ins C dx (putF "row" (.ref r1) []))
  generalize hH2:upd (upd H1 r1 (.lst (ns.map V.str))) x (.ins C dx (putF "row" (.ref r1) []))=H2 at hm2 hrow2 k2 hx2 ⊢
  refine ⟨_,rfl,_,rfl,⟨_,SqL.of hm2.top⟩,fun B hB=>zBl (qs.map fun q=>V.ref q.2) (fun i ys τ H3=>∃ks:List (List Str×Addr),(∃o0 o1,τ=[o0,o1])/\ys=(ks.map fun q=>V.ref q.2)/\ks.map (·.1)=(qs.take i).map (·.1)/\(∀q∈ks,H3 q.2=some (.tup (q.1.map V.str)))/\(∀q∈ks,Fre H2 q.2)/\Kp [] H2 H3/\H3 B=some (.lst ys))
   ⟨[],⟨_,_,rfl⟩,rfl,rfl,(fun q h=>nomatch h),(fun q h=>nomatch h),Kp.new Kp.refl hB,upd_same⟩ (fun i ys τ H3 ⟨_,_,_,_,_,_,k3,_⟩=>SqL.of (k3 m _ hm2.top (by simp))) ?_ ?_⟩
  ·rintro i v ys τ H3 hv ⟨ks,⟨o0,o1,rfl⟩,rfl,ek,hk,fk,k3,h3⟩
   obtain ⟨q,eq,rfl⟩:=zEw hv
   have mq:=List.mem_of_getElem? eq
   obtain ⟨a,b,eab⟩:=hm2.two q mq
   have hrow:H3 q.2=some (.tup [.str a,.str b]):=by
    have:=k3 q.2 _ (hm2.row q mq) (by simp)
    rw [eab] at this;exact this
   refine ⟨_,_,rfl,.inl (.inl hrow),rfl,_,_,rfl,_,_,rfl,rfl,?_⟩
   have hlen:ks.length=(qs.take i).length:=by have:=congrArg List.length ek;simpa using this
   refine ⟨_,rfl,_,rfl,(by walk_at "ln"),fun t ht=>?_⟩
   have ft:Fre H3 t:=ht
   have nBt:B≠t:=ne_fre ft h3
   refine ⟨(upd_ne nBt).trans h3,?_,ks++[([a,b],t)],⟨_,_,rfl⟩,?_,?_,fun q' hq'=>?_,fun q' hq'=>?_,?_,?_⟩
   ·rw [List.length_map,hlen,List.length_take,sizeLine_eq]
    have:=G.qfew
    omega
   ·rw [List.map_append];rfl
   ·rw [List.map_append,ek,zAl eq,List.map_append,List.map_cons,List.map_cons,eab]
   ·rcases List.mem_append.mp hq' with z| z
    ·exact (upd_ne (zBd (hk q' z) h3 (fun y=>nomatch y))).trans ((upd_ne (ne_fre ft (hk q' z))).trans (hk q' z))
    ·rw [List.mem_singleton.mp z]
     exact (upd_ne nBt.symm).trans upd_same
   ·rcases List.mem_append.mp hq' with z| z
    ·exact fk q' z
    ·rw [List.mem_singleton.mp z];exact k3.fre ft (by simp)
   ·exact Kp.new (Kp.new k3 (k3.fre ft (by simp))) hB
   ·exact upd_same
  ·rintro ys τ H3 ⟨ks,_,rfl,ek,hk,fk,k3,h3⟩
   have eT:qs.take (qs.map fun q=>V.ref q.2).length=qs:=by rw [List.length_map,List.take_length]
   rw [eT] at ek
   have hlen:ks.length=qs.length:=by have:=congrArg List.length ek;simpa using this
   have ktwo:∀q∈ks,∃a b,q.1=[a,b]:=fun q hq=>by
    have:q.1∈ks.map (·.1):=List.mem_map.mpr ⟨q,hq,rfl⟩
    rw [ek] at this
    obtain ⟨q',hq',e⟩:=List.mem_map.mp this
    rw [<-e];exact hm2.two q' hq'
   refine ⟨B,ks,rfl,SqL.of h3,fun q hq=>.inl (.inl (hk q hq)),by have:=G.qfew;omega,fun sa yk hsa y1 y2 y3 y4=>?_⟩
   have fsa:Fre H3 sa:=hsa
   refine ⟨sa,yk,rfl,upd_same,fun q hq=>.inl (.inl ((upd_ne (ne_fre fsa (hk q (y1 q hq)))).trans (hk q (y1 q hq)))),fun q hq=>?_,by have:=G.qfew;omega,fun p zs hp z1 z2=>?_⟩
   ·obtain ⟨a,b,e⟩:=ktwo q (y1 q hq)
    rw [e];simp
   have fp:Fre (upd H3 sa (TSt P w sa yk)) p:=hp
   have zk:∀q∈zs,q∈ks:=fun q hq=>y1 q (z1.mem_iff.mp hq)
   have zq:∀q∈zs,∃q'∈qs,q'.1=q.1:=fun q hq=>by
    have:q.1∈ks.map (·.1):=List.mem_map.mpr ⟨q,zk q hq,rfl⟩
    rw [ek] at this
    exact List.mem_map.mp this
   have zin:∀q∈zs,∀x∈q.1,x∈ns:=fun q hq x hx=>by
    obtain ⟨q',h1,h2⟩:=zq q hq
    exact G.qin q' h1 x (by rw [h2];exact hx)
   have zlen:zs.length<=63:=by rw [z1.length_eq];have:=G.qfew;omega
   have z3:(zs.map (·.1)).Pairwise fun a b=>ST.tlt a b=true:=ST.strict_of (List.pairwise_map.mpr z2) ((z1.map (·.1)).nodup_iff.mpr y3)
   have zset:∀k,k∈zs.map (·.1)↔k∈qs.map (·.1):=fun k=>by
    rw [<-ek,(z1.map (·.1)).mem_iff]
    exact ⟨fun h=>by
     obtain ⟨q,h1,h2⟩:=List.mem_map.mp h
     exact List.mem_map.mpr ⟨q,y1 q h1,h2⟩,fun h=>by
     obtain ⟨q,h1,h2⟩:=List.mem_map.mp h
     rw [<-h2];exact y2 q h1⟩
   have k4:Kp [] H2 (upd (upd H3 sa (TSt P w sa yk)) p (.lst (zs.map fun q=>V.ref q.2))):=by
    have h1:Kp [] H2 (upd H3 sa (TSt P w sa yk)):=Kp.new k3 (k3.fre fsa (by simp))
    exact Kp.new h1 (h1.fre fp (by simp))
   have hzs4:Ords (upd (upd H3 sa (TSt P w sa yk)) p (.lst (zs.map fun q=>V.ref q.2))) p zs:=⟨upd_same,fun q hq=>by
    have h1:upd H3 sa (TSt P w sa yk) q.2=some (.tup (q.1.map V.str)):=(upd_ne (ne_fre fsa (hk q (zk q hq)))).trans (hk q (zk q hq))
    exact (upd_ne (ne_fre fp h1)).trans h1,fun q hq=>ktwo q (zk q hq)⟩
   generalize hH4:upd (upd H3 sa (TSt P w sa yk)) p (.lst (zs.map fun q=>V.ref q.2))=H4 at k4 hzs4 ⊢
   have hx4:=k4 x _ hx2 (by simp)
   refine ⟨_,rfl,_,_,_,_,rfl,hx4,U.cl,U.n_pairs,(by have:=zGn "row" (V.ref r1) [];simp only [List.length_nil] at this;omega),?_⟩
   have hx5:(upd H4 x (.ins C dx (putF "pairs" (.ref p) (putF "row" (.ref r1) [])))) x=some (.ins C dx (putF "pairs" (.ref p) (putF "row" (.ref r1) []))):=upd_same
   have hrow5:Txs (upd H4 x (.ins C dx (putF "pairs" (.ref p) (putF "row" (.ref r1) [])))) r1 ns:=(upd_ne nxr.symm).trans (k4 r1 _ hrow2 (by simp))
   have hzs5:Ords (upd H4 x (.ins C dx (putF "pairs" (.ref p) (putF "row" (.ref r1) [])))) p zs:=⟨(upd_ne (zBd hzs4.top hx4 (fun z=>nomatch z))).trans hzs4.top,fun q hq=>(upd_ne (zBd (hzs4.row q hq) hx4 (fun z=>nomatch z))).trans (hzs4.row q hq),hzs4.two⟩
   have k5:Kp [x] H (upd H4 x (.ins C dx (putF "pairs" (.ref p) (putF "row" (.ref r1) [])))):=Kp.put (k2.trans (k4.weak (by simp))) (by simp)
   generalize hH5:upd H4 x (.ins C dx (putF "pairs" (.ref p) (putF "row" (.ref r1) [])))=H5 at hx5 hrow5 hzs5 k5 ⊢
   have e_row:(putF "pairs" (.ref p) (putF "row" (.ref r1) [])).lookup ("row" : Str)=some (.ref r1):=by
    rw [zAu,if_neg (by decide +kernel),zAu,if_pos rfl]
   have e_prs:(putF "pairs" (.ref p) (putF "row" (.ref r1) [])).lookup ("pairs" : Str)=some (.ref p):=by
    rw [zAu,if_pos rfl]
   refine ⟨_,rfl,_,_,_,_,_,rfl,hx5,U.cl,U.n_row,e_row,_,rfl,_,_,_,_,_,rfl,hx5,U.cl,U.n_row,e_row,_,rfl,_,_,_,_,_,rfl,hx5,U.cl,U.n_pairs,e_prs,r1,p,ns,zs,rfl,hrow5,hzs5,G.nd,G.few,by omega,zin,fun d la H6 DD k6=>?_⟩
   have tz:∀n x,x∈told zs n↔x∈told qs n:=fun n x=>by
    rw [zEo,zEo]
    constructor
    ·rintro ⟨q,h1,h2,h3⟩
     obtain ⟨q',h4,h5⟩:=zq q h1
     obtain ⟨e1,e2⟩:=fst_of h5
     exact ⟨q',h4,by rw [e2];exact h2,by rw [e1];exact h3⟩
    ·rintro ⟨q,h1,h2,h3⟩
     obtain ⟨q',h4,h5⟩:=List.mem_map.mp ((zset q.1).mpr (List.mem_map.mpr ⟨q,h1,rfl⟩))
     obtain ⟨e1,e2⟩:=fst_of h5
     exact ⟨q',h4,by rw [e2];exact h2,by rw [e1];exact h3⟩
   refine ⟨r1,d,ns,la,told zs,rfl,k6 r1 _ hrow5 (by simp),G.nd,G.few,G.nm,DD.top,fun n hn=>⟨DD.row n hn,Nat.le_trans (told_len zs n) (by omega),fun y hy=>?_⟩,fun e D fa S H7 FF all tp k7=>?_,fun p2 dx2 rs H7 RO sub hp2 hdx2 len k7=>kE p2 dx2 rs H7 ⟨RO.ne,RO.nd,fun k x y h1 h2=>(tz y x).mp (RO.go k x y h1 h2)⟩ sub hp2 hdx2 len (k5.trans ((k6.trans k7).weak (by simp)))⟩
   ·obtain ⟨q,h1,h2,h3⟩:=zEo.mp hy
    obtain ⟨a,b,eab⟩:=hzs5.two q h1
    rw [<-h3]
    refine zin q h1 _ ?_
    unfold fst
    rw [eab];simp
   have k57:Kp [] H5 H7:=k6.trans k7
   have hx7:=k57 x _ hx5 (by simp)
   refine ⟨_,rfl,_,_,_,_,rfl,hx7,U.cl,U.n_above,?_,?_⟩
   ·have h1:=zGn "row" (V.ref r1) []
    have h2:=zGn "pairs" (V.ref p) (putF "row" (V.ref r1) [])
    simp only [List.length_nil] at h1
    omega
   have f2H:∀a,Fre H2 a->Fre H a:=fun a ha=>k2.fre ha (nm1 fun z=>by
    subst z
    have:H2 a=some _:=hx2
    unfold Fre at ha
    rw [ha] at this;exact nomatch this)
   have k3p:Kp [] H2 (upd H3 sa (TSt P w sa yk)):=Kp.new k3 (k3.fre fsa (by simp))
   have fpx:Fre H2 p:=k3p.fre fp (by simp)
   have f52:∀a,Fre H5 a->Fre H2 a:=fun a ha=>by
    have h1:Fre H4 a:=by
     have nax:a≠x:=fun z=>by
      subst z
      unfold Fre at ha
      rw [ha] at hx5;exact nomatch hx5
     have:H5 a=H4 a:=by rw [<-hH5];exact upd_ne nax
     unfold Fre at ha ⊢
     rw [<-this];exact ha
    exact k4.fre h1 (by simp)
   have fex:Fre H2 e:=f52 e (k6.fre FF.fr (by simp))
   have ffx:∀n∈D,Fre H2 (fa n):=fun n hn=>f52 _ (k6.fre (FF.frs n hn) (by simp))
   refine k ⟨dx,r1,p,e,ns,zs,D,fa,S⟩ _ ⟨upd_same,?_,⟨?_,fun q hq=>?_,hzs5.two⟩,?_,all,fun n hn=>?_,G.few,zlen,G.nd,z3,zin,fun n hn y=>FF.mem n (all n hn) y⟩ ⟨k1.fre hr1 (by simp),f2H p fpx,f2H e fex,fun q hq=>f2H q.2 (fk q (zk q hq)),fun n hn=>f2H _ (ffx n hn)⟩ rfl zset ⟨fun n=>D.idxOf n,fun q hq=>tp_rank tp (all _ (G.qin q hq _ (snd_mem (hm.two q hq)))) ((tz _ _).mpr (zEo.mpr ⟨q,hq,rfl,rfl⟩))⟩ (Kp.put (k5.trans (k57.weak (by simp))) (by simp))
   ·exact (upd_ne nxr.symm).trans (k57 r1 _ hrow5 (by simp))
   ·have h1:=k57 p _ hzs5.top (by simp)
    exact (upd_ne (zBd h1 hx7 (fun z=>nomatch z))).trans h1
   ·have h1:=k57 _ _ (hzs5.row q hq) (by simp)
    exact (upd_ne (zBd h1 hx7 (fun z=>nomatch z))).trans h1
   ·exact (upd_ne (zBd FF.top hx7 (fun z=>nomatch z))).trans FF.top
   ·exact (upd_ne (zBd (FF.row n hn) hx7 (fun z=>nomatch z))).trans (FF.row n hn)
end
theorem pi_listK {X:Cx} {K:PySem.W.Frag} {tg l:Expr} {tl:TE} (hl:PE X l tl) (hK:X.K=K:=by rfl):PI X tg l (iList K tl):=by subst hK;exact zAx hl
def hasB (qs:List (List Str×Addr)) (L:List Str) (n:Str):Bool:=qs.any fun q=>decide (fst q=n)&&decide (snd q∈L)
def strip (qs:List (List Str×Addr)) (L:List Str):List Str:=L.filter (hasB qs L)
def zBs (qs:List (List Str×Addr)):Nat->List Str->List Str
 | 0,L=>L
 | k+1,L=>strip qs (zBs qs k L)
theorem zH1 (qs:List (List Str×Addr)) (L:List Str):∀k,(zBs qs k L).length<=L.length
 | 0=>Nat.le_refl _
 | k+1=>Nat.le_trans (List.length_filter_le _ _) (zH1 qs L k)
theorem zF0 {qs:List (List Str×Addr)} {L rs:List Str} (R:RingOf (told qs) rs) (h:∀x∈rs,x∈L):∀k x,x∈rs->x∈zBs qs k L
 | 0,x,hx=>h x hx
 | k+1,x,hx=>by
  refine List.mem_filter.mpr ⟨zF0 R h k x hx,?_⟩
  obtain ⟨i,hi,e⟩:=List.mem_iff_getElem.mp hx
  have hj:(if i+1=rs.length then 0 else i+1)<rs.length:=by split<;>omega
  have ej:rs[if i+1=rs.length then 0 else i+1]?=some rs[if i+1=rs.length then 0 else i+1]:=List.getElem?_eq_getElem hj
  have go:=R.go _ x _ ej (by
   have e1:rs[i]?=some x:=by rw [List.getElem?_eq_getElem hi,e]
   rw [<-e1]
   congr 1
   split
   ·split
    ·omega
    ·omega
   ·split
    ·omega
    ·omega)
  obtain ⟨q,q1,q2,q3⟩:=zEo.mp go
  refine List.any_eq_true.mpr ⟨q,q1,?_⟩
  rw [decide_eq_true q3,decide_eq_true (by rw [q2];exact zF0 R h k _ (List.getElem_mem hj))];rfl
theorem strip_less {qs:List (List Str×Addr)} {L:List Str} {r:Str->Nat} (hr:∀q∈qs,r (fst q)<r (snd q)) (hL:L≠[]):(strip qs L).length<L.length:=by
 obtain ⟨m,m1,m2⟩:∃m∈L,∀x∈L,r x<=r m:=by
  induction L with
  | nil=>exact absurd rfl hL
  | cons a L ih =>
   by_cases z:L=[]
   ·subst z;exact ⟨a,List.mem_cons_self,fun x hx=>by rw [List.mem_singleton.mp hx];exact Nat.le_refl _⟩
   ·obtain ⟨m,m1,m2⟩:=ih z
    by_cases c:r m<=r a
    ·refine ⟨a,List.mem_cons_self,fun x hx=>?_⟩
     rcases List.mem_cons.mp hx with y| y
     ·rw [y];exact Nat.le_refl _
     ·exact Nat.le_trans (m2 x y) c
    ·refine ⟨m,List.mem_cons_of_mem _ m1,fun x hx=>?_⟩
     rcases List.mem_cons.mp hx with y| y
     ·rw [y];omega
     ·exact m2 x y
 refine zHh m1 (Bool.eq_false_iff.mpr fun z=>?_)
 obtain ⟨q,q1,q2⟩:=List.any_eq_true.mp z
 simp only [Bool.and_eq_true,decide_eq_true_eq] at q2
 have h1:=hr q q1
 have h2:=m2 _ q2.2
 rw [q2.1] at h1
 omega
theorem zH2 {qs:List (List Str×Addr)} {L:List Str} {r:Str->Nat} (hr:∀q∈qs,r (fst q)<r (snd q)):∀k,(zBs qs k L).length<=L.length - k
 | 0=>Nat.le_refl _
 | k+1=>by
  have ih:=zH2 (L:=L) hr k
  by_cases z:zBs qs k L=[]
  ·show (strip qs (zBs qs k L)).length<=_
   rw [z];exact Nat.zero_le _
  ·have:=strip_less hr z
   show (strip qs (zBs qs k L)).length<=_
   omega
section
variable {P:Program} {w:World} {K:PySem.W.Frag} {mg:Str->Option Value} {base:Heap}
def zGv:Sp:=fun vs H Q _=>∃(l m:Addr) (ns:List Str) (qs:List (List Str×Addr)),vs=[.ref l,.ref m]/\Txs H l ns/\Ords H m qs/\ns.length<=20/\qs.length<=63/\∀H',Kp [] H H'->Q (.bl (!(zBs qs ns.length ns).isEmpty)) H'
abbrev zCl:Stmt:=top 51
theorem zCu:FnScope ["_law_names_here", "_law_orders", "_law_left", "_law_turn"] ["_law_names_here", "_law_orders"] (zAe zCl):=⟨rfl,rfl,rfl,by decide +kernel,rfl,by decide +kernel,by decide +kernel⟩
theorem zI9 {f:Addr} {fd:FuncData} (F:Fun K "_law_goes_round" "_law_goes_round" zCl f fd) (T:Txt K mg):FnOk P w K mg base CX0 1 f fd ["_law_names_here", "_law_orders"] zGv:=by
 refine F.ok zCu (fun vs H Q E h=>?_) (fun cdv A outer s H vs Q E hr h=>?_)
 ·obtain ⟨l,m,ns,qs,rfl,_⟩:=h
  rfl
 ·obtain ⟨l,m,ns,qs,rfl,hl,hm,hn,hq,k⟩:=h
  refine ⟨_,(zAc (zAn (i:=2) zCu.nd rfl (by walk_at "lc") (zAy zCo (by rfl) T.z_list zEh (zAa (pv 0) zAb)))
   (zAc (zBb PassesOwn.never rfl (zBj rfl T.z_range (zAa (zAf zAp (by rfl) T.z_len zBv (zAa (pv 0) zAb)) zAb)) (zAk (i:=3) zCu.nd rfl (by walk_at "lc"))
    (zAd (zAn (i:=2) zCu.nd rfl (by walk_at "lc") (zBz rfl (zB4 (sc:=zAe zCl) rfl (by decide +kernel)) (Draws.own (x:= "_law_name") (Draws.tk (i:=1) rfl (by walk_at "vs") (by walk_at "vk") (by walk_at "vf") (Draws.tk (i:=2) rfl (by walk_at "vs") (by walk_at "vk") (by walk_at "vf") Draws.nil))) (zAx (pv 2)) (fun C s₀ H₀ ex=>(zAk (i:=0) (show List.Nodup (["_law_name", "_law_orders", "_law_left"]:List Str) by decide +kernel) rfl (by walk_at "lc"))) (fun C s₀ H₀ ex=>(zF1 (zBi (zAf (call_anyK (K:=K) rfl) (by rfl) T.z_any bo_any (zAa (zBz rfl (blk_in (sc:=zAe zCl) rfl rfl (by decide +kernel)) (Draws.own (x:= "_law_one") (Draws.own (x:= "_law_other") (Draws.tk (i:=0) rfl (by walk_at "vs") (by walk_at "vk") (by walk_at "vf") (Draws.tk (i:=2) rfl (by walk_at "vs") (by walk_at "vk") (by walk_at "vf") Draws.nil)))) (pi_listK (K:=K) (pv 1)) (fun C s₀ H₀ ex=>(zI2 (K:=K) (n:=2) rfl (zA8 (zAk (i:=0) (show List.Nodup (["_law_one", "_law_other", "_law_name", "_law_left"]:List Str) by decide +kernel) rfl (by walk_at "lc")) (zA8 (zAk (i:=1) (show List.Nodup (["_law_one", "_law_other", "_law_name", "_law_left"]:List Str) by decide +kernel) rfl (by walk_at "lc")) zD9)))) (fun C s₀ H₀ ex=>zB8) (fun C s₀ H₀ ex=>(pe_and (zBg zEu (pv 0) (pv 2) (zAt _)) (zH9 (zBg (zIa (K:=K)) (pv 1) (pv 3) (by rfl)))))) zAb))))) (fun C s₀ H₀ ex=>(pv 0))))))
   (zAd (zAq (zBg (op_neAU hr) (pv 2) (zBo zAb) (zAt _)))))),?_⟩
  refine ⟨_,rfl,_,_,rfl,.inl (SqL.of hl),fun lf hlf=>?_⟩
  have flf:Fre H lf:=hlf
  have k1:Kp [] H (upd H lf (.lst (ns.map V.str))):=Kp.new Kp.refl flf
  refine ⟨_,rfl,_,_,rfl,.inl (SqL.of (k1 l _ hl (by simp))),_,rfl,by rw [List.length_map];omega,by rw [List.length_map];omega,zBu (lo:=0) (fun i σ H2=>∃(lf:Addr) (o3:Option V),σ=[some (.ref l),some (.ref m),some (.ref lf),o3]/\Kp [] H H2/\Txs H2 lf (zBs qs i ns)) ⟨lf,_,rfl,k1,upd_same⟩ ?_ ?_⟩
  ·rintro i σ H2 hi ⟨lf,o3,rfl,k2,hlf2⟩
   have hlen:=zH1 qs ns i
   generalize hL:zBs qs i ns=L at *
   refine ⟨_,rfl,_,rfl,⟨_,SqL.of hlf2⟩,fun B hB=>zEf (L.map V.str) (fun j ys τ H3=>(∃o0,τ=[o0,some (.ref m),some (.ref lf)])/\ys=((L.take j).filter (hasB qs L)).map V.str/\Kp [] H2 H3/\H3 B=some (.lst ys))
    ⟨⟨_,rfl⟩,rfl,Kp.new Kp.refl hB,upd_same⟩ (fun j ys τ H3 ⟨_,_,k3,_⟩=>SqL.of (k3 lf _ hlf2 (by simp))) ?_ ?_⟩
   ·rintro j v ys τ H3 hv ⟨⟨o0,rfl⟩,rfl,k3,h3⟩
    obtain ⟨n,en,rfl⟩:=zBn hv
    have k23:=k2.trans k3
    refine ⟨_,rfl,_,rfl,⟨_,SqL.of (k23 m _ hm.top (by simp))⟩,fun B2 hB2=>zBl (qs.map fun q=>V.ref q.2) (fun a ys τ H4=>(∃o0 o1,τ=[o0,o1,some (.str n),some (.ref lf)])/\ys=((qs.take a).map fun q=>decide (fst q=n)&&decide (snd q∈L)).map V.bl/\Kp [] H3 H4/\H4 B2=some (.lst ys))
     ⟨⟨_,_,rfl⟩,rfl,Kp.new Kp.refl hB2,upd_same⟩ (fun a ys τ H4 ⟨_,_,k4,_⟩=>SqL.of ((k23.trans k4) m _ hm.top (by simp))) ?_ ?_⟩
    ·rintro a v ys τ H4 hv ⟨⟨o0,o1,rfl⟩,rfl,k4,h4⟩
     obtain ⟨q,eq,rfl⟩:=zEw hv
     have mq:=List.mem_of_getElem? eq
     obtain ⟨x,y,exy⟩:=hm.two q mq
     have e1:fst q=x:=by unfold fst;rw [exy];rfl
     have e2:snd q=y:=by unfold snd;rw [exy];rfl
     have k24:=k23.trans k4
     have hrow:H4 q.2=some (.tup [.str x,.str y]):=by
      have:=k24 q.2 _ (hm.row q mq) (by simp)
      rw [exy] at this;exact this
     refine ⟨_,_,rfl,.inl (.inl hrow),rfl,_,_,rfl,_,_,rfl,rfl,?_⟩
     have fin:∀c:Bool,c=(decide (fst q=n)&&decide (snd q∈L))->H4 B2=some (.lst (((qs.take a).map fun q=>decide (fst q=n)&&decide (snd q∈L)).map V.bl))/\(((qs.take a).map fun q=>decide (fst q=n)&&decide (snd q∈L)).map V.bl).length<sizeLine/\(∃o0 o1,[some (V.str x),some (V.str y),some (.str n),some (.ref lf)]=[o0,o1,some (.str n),some (.ref lf)])/\(((qs.take a).map fun q=>decide (fst q=n)&&decide (snd q∈L)).map V.bl++[V.bl c])=((qs.take (a+1)).map fun q=>decide (fst q=n)&&decide (snd q∈L)).map V.bl/\Kp [] H3 (upd H4 B2 (.lst (((qs.take a).map fun q=>decide (fst q=n)&&decide (snd q∈L)).map V.bl++[V.bl c])))/\upd H4 B2 (.lst (((qs.take a).map fun q=>decide (fst q=n)&&decide (snd q∈L)).map V.bl++[V.bl c])) B2=some (.lst (((qs.take a).map fun q=>decide (fst q=n)&&decide (snd q∈L)).map V.bl++[V.bl c])):=fun c ec=>by
      refine ⟨h4,?_,⟨_,_,rfl⟩,?_,Kp.new k4 hB2,upd_same⟩
      ·rw [List.length_map,List.length_map,List.length_take,sizeLine_eq];omega
      ·rw [zAl eq,List.map_append,List.map_append,ec];rfl
     refine ⟨_,rfl,_,rfl,rfl,_,rfl,?_⟩
     rw [show decide (V.str x=V.str n)=decide (fst q=n) by rw [e1];by_cases z:x=n<;>simp [z]]
     refine ite2 (fun c=>?_) (fun c=>?_)
     ·refine ⟨_,rfl,_,rfl,_,_,rfl,.inl (SqL.of ((k3.trans k4) lf _ hlf2 (by simp))),rfl,zCm L,?_⟩
      rw [zEd]
      exact fin _ (by rw [c,Bool.true_and,e2];rfl)
     ·exact fin _ (by rw [Bool.eq_false_iff.mpr c,Bool.false_and])
    ·rintro ys τ H4 ⟨_,rfl,k4,h4⟩
     have eT:qs.take (qs.map fun q=>V.ref q.2).length=qs:=by rw [List.length_map,List.take_length]
     rw [eT] at h4
     refine ⟨B2,_,rfl,SqL.of h4,_,rfl,?_⟩
     have ea:((qs.map fun q=>decide (fst q=n)&&decide (snd q∈L)).any id)=hasB qs L n:=by rw [List.any_map];rfl
     rw [ea]
     have h5:=k4 B _ h3 (by simp)
     refine ite2 (fun c=>?_) (fun c=>?_)
     ·refine ⟨_,rfl,h5,?_,⟨_,rfl⟩,?_,Kp.new (k3.trans k4) hB,upd_same⟩
      ·rw [List.length_map];exact zJl (by omega)
      ·rw [zJk en c,List.map_append];rfl
     ·refine ⟨⟨_,rfl⟩,?_,k3.trans k4,?_⟩
      ·rw [filt_no en c]
      ·exact h5
   ·rintro ys τ H3 ⟨_,rfl,k3,h3⟩
    have eT:L.take (L.map V.str).length=L:=by rw [List.length_map,List.take_length]
    rw [eT] at h3
    refine ⟨B,_,rfl,k2.trans k3,?_⟩
    show H3 B=some (.lst ((strip qs (zBs qs i ns)).map V.str))
    rw [hL];exact h3
  ·rintro σ H2 ⟨lf,o3,rfl,k2,hlf2⟩
   have en:((ns.map V.str).length:Int).toNat=ns.length:=by simp
   rw [en] at hlf2
   refine ⟨_,rfl,(by walk_at "ln"),fun B hB=>?_⟩
   have hlf3:=(upd_ne (o:=.lst []) (ne_fre (show Fre H2 B from hB) hlf2)).trans hlf2
   by_cases z:zBs qs ns.length ns=[]
   ·rw [z] at hlf3
    refine .inl ⟨lf,B,[],[],rfl,rfl,SqL.of hlf3,SqL.of upd_same,rfl,fun i x y h=>by simp at h,?_⟩
    have:=k (upd H2 B (.lst [])) (Kp.new k2 (k2.fre hB (by simp)))
    rw [z] at this;exact this
   ·refine .inr ⟨lf,B,_,[],rfl,rfl,SqL.of hlf3,SqL.of upd_same,by simpa using z,?_⟩
    have:=k (upd H2 B (.lst [])) (Kp.new k2 (k2.fre hB (by simp)))
    rw [show (!(zBs qs ns.length ns).isEmpty)=true by simpa using z] at this;exact this
end
section
variable {P:Program} {w:World} {K:PySem.W.Frag} {mg:Str->Option Value} {base:Heap}
def spIsRing:Sp:=fun vs H Q _=>∃(l m:Addr) (rs:List Str) (qs:List (List Str×Addr)),vs=[.ref l,.ref m]/\Txs H l rs/\Ords H m qs/\RingOf (told qs) rs/\rs.length<=20/\∀H',Kp [] H H'->Q (.bl true) H'
abbrev zFi:Stmt:=top 48
theorem sc_is_ring:FnScope ["_law_found", "_law_orders"] ["_law_found", "_law_orders"] (zAe zFi):=⟨rfl,rfl,rfl,by decide +kernel,rfl,by decide +kernel,by decide +kernel⟩
theorem ok_is_ring {f:Addr} {fd:FuncData} (F:Fun K "_law_is_ring" "_law_is_ring" zFi f fd) (T:Txt K mg):FnOk P w K mg base CX0 1 f fd ["_law_found", "_law_orders"] spIsRing:=by
 refine F.ok sc_is_ring (fun vs H Q E h=>?_) (fun cdv A outer s H vs Q E hr h=>?_)
 ·obtain ⟨l,m,rs,qs,rfl,_⟩:=h
  rfl
 ·obtain ⟨l,m,rs,qs,rfl,hl,hm,RO,hn,k⟩:=h
  have hu2:A.units+3+2<cLine:=by have:=hr.un;exact Nat.lt_of_le_of_lt (by show _<=A.units+3+16*0+200;omega) this
  refine ⟨_,(zAc (zA2 (PW.pt (pw_or (zC2 (zBi (zAf zCj (by rfl) T.z_isinstance zAh (zAa (pv 0) (zAa (zC3 (by rfl) T.z_list zEh (v:=.ty "list") rfl) zAb))))) (pw_or (zAr (op_eqL hr) (pv 0) (zBo zAb) (zAt _)) (pw_or1 (zAr op_lt (zAf (call_lenS (P:=P) (w:=w)) (by rfl) T.z_len zBv (zAa (zAy (call_setS (P:=P) (w:=w) (K:=K) hr) (by rfl) T.z_set bo_set (zAa (pv 0) zAb)) zAb)) (zAf zAp (by rfl) T.z_len zBv (zAa (pv 0) zAb)) (zAt _))))))
    (zAd (zAq pe_bl))
    zAm)
   (zAd (zAq (zAf (zD2 _ rfl) (by rfl) T.z_all zHk (zAa (zBz rfl (zB4 (sc:=zAe zFi) rfl (by decide +kernel)) (Draws.own (x:= "_law_k") (Draws.tk (i:=1) rfl (by walk_at "vs") (by walk_at "vk") (by walk_at "vf") (Draws.tk (i:=0) rfl (by walk_at "vs") (by walk_at "vk") (by walk_at "vf") Draws.nil))) (zBj rfl T.z_range (zAa (zAf zAp (by rfl) T.z_len zBv (zAa (pv 0) zAb)) zAb)) (fun C s₀ H₀ ex=>(zAk (i:=0) (show List.Nodup (["_law_k", "_law_orders", "_law_found"]:List Str) by decide +kernel) rfl (by walk_at "lc"))) (fun C s₀ H₀ ex=>zB8) (fun C s₀ H₀ ex=>(zBg (op_inRow (K:=K) hu2) (zB9 (zAa (zA9 (zCh (K:=K)) (pv 2) (zAs zG2 (pv 0) zAg) (fun _ _=>rfl)) (zAa (zA9 (zCh (K:=K)) (pv 2) (pv 0) (fun _ _=>rfl)) zAb))) (pv 1) (by rfl)))) zAb))))),?_⟩
  refine ⟨_,rfl,_,_,_,_,rfl,TyOf.lst hl,zDf,_,rfl,iteF ?_⟩
  refine ⟨_,rfl,(by walk_at "ln"),fun b hb=>.inr ⟨l,b,_,_,rfl,rfl,SqL.of ((upd_ne (ne_fre hb hl)).trans hl),SqL.of upd_same,by simpa using RO.ne,_,rfl,iteF ?_⟩⟩
  have kb:Kp [] H (upd H b (.lst [])):=Kp.new Kp.refl hb
  have hlb:=kb l _ hl (by simp)
  refine ⟨_,rfl,l,rs,rfl,SqL.of hlb,RO.nd,by omega,fun st hst=>⟨st,_,rfl,upd_same,?_⟩⟩
  have ks:Kp [] H (upd (upd H b (.lst [])) st (SSt P w st rs.length)):=Kp.new kb (kb.fre hst (by simp))
  refine ⟨_,rfl,_,_,rfl,.inl (SqL.of (ks l _ hl (by simp))),_,_,rfl,rfl,_,rfl,?_⟩
  rw [decide_eq_false (by rw [List.length_map];omega)]
  refine iteF ?_
  generalize upd (upd H b (.lst [])) st (SSt P w st rs.length)=H1 at ks
  refine ⟨_,rfl,_,_,rfl,.inl (SqL.of (ks l _ hl (by simp))),_,rfl,by rw [List.length_map];omega,by rw [List.length_map];omega,fun B hB=>zHi (lo:=0) (fun i ys τ H3=>(∃o0,τ=[o0,some (.ref m),some (.ref l)])/\ys=(List.replicate i true).map V.bl/\Kp [] H1 H3/\H3 B=some (.lst ys))
   ⟨⟨_,rfl⟩,rfl,Kp.new Kp.refl hB,upd_same⟩ ?_ ?_⟩
  ·rintro i ys τ H3 hi ⟨⟨o0,rfl⟩,rfl,k3,h3⟩
   have hi:i<rs.length:=by simpa using hi
   have k13:=ks.trans k3
   have hl3:=k13 l _ hl (by simp)
   have lt:(if i=0 then rs.length - 1 else i - 1)<rs.length:=by split<;>omega
   have e1:rs[i]?=some rs[i]:=List.getElem?_eq_getElem hi
   have e2:rs[if i=0 then rs.length - 1 else i - 1]?=some rs[if i=0 then rs.length - 1 else i - 1]:=List.getElem?_eq_getElem lt
   have go:=RO.go i _ _ e1 e2
   generalize rs[if i=0 then rs.length - 1 else i - 1]=x at e2 go
   have a1:atI (rs.map V.str) (0+(i:Int) - 1)=some (.str x):=by
    unfold atI ixN
    by_cases z:i=0
    ·subst z
     rw [if_neg (by simp)]
     rw [if_pos rfl] at e2
     simp only [List.length_map]
     rw [if_pos (by omega)]
     show (rs.map V.str)[(0+((0:Nat):Int) - 1+(rs.length:Int)).toNat]?=_
     rw [show (0+((0:Nat):Int) - 1+(rs.length:Int)).toNat=rs.length - 1 by omega,List.getElem?_map,e2];rfl
    ·rw [if_pos (by omega),if_pos (by rw [List.length_map];omega)]
     rw [if_neg z] at e2
     show (rs.map V.str)[(0+(i:Int) - 1).toNat]?=_
     rw [show (0+(i:Int) - 1).toNat=i - 1 by omega,List.getElem?_map,e2];rfl
   have a2:atI (rs.map V.str) (0+(i:Int))=some (.str rs[i]):=zA0 (by omega) (by rw [show (0+(i:Int)).toNat=i by omega,List.getElem?_map,e1];rfl)
   refine ⟨_,rfl,_,rfl,_,_,rfl,rfl,_,_,_,_,rfl,rfl,SqL.of hl3,a1,_,rfl,_,rfl,_,_,_,_,rfl,rfl,SqL.of hl3,a2,(by walk_at "ln"),fun t ht=>?_⟩
   have k4:Kp [] H (upd H3 t (.tup [.str x,.str rs[i]])):=Kp.new k13 (k13.fre ht (by simp))
   refine ⟨_,rfl,t,m,[x,rs[i]],qs,rfl,rfl,.inl (.inl upd_same),SqL.of (k4 m _ hm.top (by simp)),fun q hq=>.inl (.inl (k4 _ _ (hm.row q hq) (by simp))),?_⟩
   have mem:[x,rs[i]]∈qs.map (·.1):=by
    obtain ⟨q,q1,q2,q3⟩:=zEo.mp go
    obtain ⟨a,b,eab⟩:=hm.two q q1
    unfold snd at q2
    unfold fst at q3
    rw [eab] at q2 q3
    refine List.mem_map.mpr ⟨q,q1,?_⟩
    rw [eab,<-q2,<-q3];rfl
   rw [decide_eq_true mem]
   have h4:=(upd_ne (o:=.tup [.str x,.str rs[i]]) (ne_fre (show Fre H3 t from ht) h3)).trans h3
   refine ⟨h4,?_,⟨_,rfl⟩,?_,Kp.new (Kp.new k3 (k3.fre ht (by simp))) hB,upd_same⟩
   ·rw [List.length_map,List.length_replicate,sizeLine_eq];omega
   ·rw [List.replicate_succ',List.map_append];rfl
  ·rintro ys τ H3 ⟨_,rfl,k3,h3⟩
   refine ⟨B,_,rfl,SqL.of h3,?_⟩
   have:∀n,(List.replicate n true).all id=true:=fun n=>by simp
   rw [this]
   exact k H3 (ks.trans k3)
end
structure TwAt (ns:List Str) (i:Nat) (n:Str):Prop where
 at_:ns[i]?=some n
 mem:n∈ns.take i
 nd:(ns.take i).Nodup
theorem TwAt.one {ns:List Str} {i j:Nat} {n m:Str} (a:TwAt ns i n) (b:TwAt ns j m):i=j/\n=m:=by
 have lt:∀{i j:Nat} {n m:Str},TwAt ns i n->TwAt ns j m->i<j->False:=fun {i j n m} a b h=>by
  have e:(ns.take j)[i]?=some n:=by rw [List.getElem?_take_of_lt h];exact a.at_
  have:=zFo b.nd e
  rw [List.take_take,Nat.min_eq_left (Nat.le_of_lt h)] at this
  exact this a.mem
 have:i=j:=by
  rcases Nat.lt_trichotomy i j with h| h| h
  ·exact (lt a b h).elim
  ·exact h
  ·exact (lt b a h).elim
 subst this
 exact ⟨rfl,Option.some.inj (a.at_.symm.trans b.at_)⟩
theorem TwAt.not {ns:List Str} {i:Nat} {n:Str} (a:TwAt ns i n):¬ns.Nodup:=fun h=>zFo h a.at_ a.mem
theorem TwAt.ex {ns:List Str} (h:¬ns.Nodup):∃i n,TwAt ns i n:=by
 have key:∀k,k<=ns.length->(ns.take k).Nodup\/∃i n,TwAt ns i n:=fun k=>by
  induction k with
  | zero=>exact fun _=>.inl (by simp)
  | succ k ih =>
   intro hk
   rcases ih (by omega) with d| d
   ·have e:ns[k]?=some ns[k]:=List.getElem?_eq_getElem (by omega)
    by_cases c:ns[k]∈ns.take k
    ·exact .inr ⟨k,_,e,c,d⟩
    ·left
     rw [zAl e]
     exact List.nodup_append.mpr ⟨d,by simp,fun x hx y hy=>by rw [List.mem_singleton.mp hy];exact fun z=>c (z▸hx)⟩
   ·exact .inr d
 rcases key ns.length (Nat.le_refl _) with d| d
 ·rw [List.take_length] at d;exact absurd d h
 ·exact d
def strg (ns:List Str) (ks:List (List Str)):Option Str:=ks.flatten.find? fun x=>decide (x∉ns)
def XN (CT:Addr) (M:List Addr) (H:Hp) (x:Str) (E:XK):Prop:=∀dx H',Kp M H H'->H' dx=some (.xd [("name",.str x)])->E (.ref CT) (some dx) H'
structure XF (K:PySem.W.Frag) (mg:Str->Option Value) (CB C:Addr) (x:Str):Prop where
 bi:InitX K CB
 mgB:mg "BenchError" = some (.ref CB)
 xc:XCls K C
 nr:zDj K C "name"
 mgX:mg x=some (.ref C)
 gt:XGet K C
 self:(mroK K C).contains (.ref CB)=true
structure X0 (K:PySem.W.Frag) (mg:Str->Option Value) (CB C:Addr) (x:Str):Prop where
 ok:PySem.W.excIn K C bmVE "ValueError.__new__" = true
 mgX:mg x=some (.ref C)
 self:(mroK K C).contains (.ref CB)=true
section
variable {P:Program} {w:World} {K:PySem.W.Frag} {mg:Str->Option Value} {base:Heap} {CB CS CT CM:Addr}
def spWords:Sp:=fun vs H Q _=>∃(x v:Str),vs=[.str x,.str v]/\x.length<=100/\zBa v/\∀z,Q (.str z) H
abbrev zE4:Stmt:=top 2
theorem sc_words_for:FnScope ["saying", "thing"] ["saying", "thing"] (zAe zE4):=⟨rfl,rfl,rfl,by decide +kernel,rfl,by decide +kernel,by decide +kernel⟩
theorem zBa.low {v:Str} (h:zBa v):v.length<=100/\∀c∈v.cps.toList,c<16^8:=⟨by have:=h.2.1;omega,fun c hc=>by have:=(h.2.2 c hc).2;omega⟩
theorem ok_words_for {f:Addr} {fd:FuncData} (F:Fun K "words_for" "words_for" zE4 f fd) (T:Txt K mg):FnOk P w K mg base CX0 1 f fd ["saying", "thing"] spWords:=by
 refine F.ok sc_words_for (fun vs H Q E h=>?_) (fun cdv A outer s H vs Q E hr h=>?_)
 ·obtain ⟨x,v,rfl,_⟩:=h
  rfl
 ·obtain ⟨x,v,rfl,hx,o,k⟩:=h
  refine ⟨_,(zAc (zA2 (zBi (zAf zCj (by rfl) T.z_isinstance zAh (zAa (pv 1) (zAa (zC3 (by rfl) T.z_str zIj (v:=.ty "str") rfl) zAb))))
    (zAd (zAq (pe_fmtR (pv 0) (pv 1))))
    zAm)
   zBt),?_⟩
  refine ⟨_,rfl,_,_,_,_,rfl,TyOf.str v,zDf,_,rfl,iteT ?_⟩
  exact ⟨_,rfl,x,rfl,hx,_,rfl,v,rfl,o.low.1,o.low.2,k⟩
def zE0 (C:Addr):Sp:=fun vs H Q _=>∃(e:Addr) (v:Str),vs=[.ref e,.str v]/\H e=some (excN e C none)/\zBa v/\∀dx,H dx=none->Q .non (upd (upd H dx (.xd [("name",.str v)])) e (excN e C (some dx)))
abbrev zBy:Stmt:=zF6 (top 6) 0
theorem zEs:FnScope ["self", "name"] ["self", "name"] (zAe zBy):=⟨rfl,rfl,rfl,by decide +kernel,rfl,by decide +kernel,by decide +kernel⟩
theorem zGe {f:Addr} {fd:FuncData} (F:Fun K "__init__" "Stranger.__init__" zBy f fd) (R:XF K mg CB CS "Stranger") (C_words_for:Cal P w K mg base "words_for" 1 ["saying", "thing"] spWords):FnOk P w K mg base CX0 2 f fd ["self", "name"] (zE0 CS):=by
 refine F.ok zEs (fun vs H Q E h=>?_) (fun cdv A outer s H vs Q E hr h=>?_)
 ·obtain ⟨e,v,rfl,_⟩:=h
  rfl
 ·obtain ⟨e,v,rfl,he,o,k⟩:=h
  refine ⟨_,(zAc (zA3 (pe_base R.bi rfl R.mgB (zAa (pv 0) (zAa (zAi C_words_for hr rfl (zAa zAo (zAa (pv 1) zAb))) zAb))))
   (zAd (ps_fldX (pv 0) (pv 1) rfl))),?_⟩
  refine ⟨_,rfl,_,rfl,_,v,rfl,by decide,o,fun z=>?_⟩
  refine ⟨e,CS,none,.str z,rfl,he,R.xc.exc,?_⟩
  exact ⟨_,rfl,_,rfl,e,CS,rfl,he,R.xc,R.nr,fun dx hdx=>k dx hdx⟩
abbrev zCp:Stmt:=zF6 (top 5) 0
theorem zFy:FnScope ["self", "name"] ["self", "name"] (zAe zCp):=⟨rfl,rfl,rfl,by decide +kernel,rfl,by decide +kernel,by decide +kernel⟩
theorem zJb {f:Addr} {fd:FuncData} (F:Fun K "__init__" "Twice.__init__" zCp f fd) (R:XF K mg CB CT "Twice") (C_words_for:Cal P w K mg base "words_for" 1 ["saying", "thing"] spWords):FnOk P w K mg base CX0 2 f fd ["self", "name"] (zE0 CT):=by
 refine F.ok zFy (fun vs H Q E h=>?_) (fun cdv A outer s H vs Q E hr h=>?_)
 ·obtain ⟨e,v,rfl,_⟩:=h
  rfl
 ·obtain ⟨e,v,rfl,he,o,k⟩:=h
  refine ⟨_,(zAc (zA3 (pe_base R.bi rfl R.mgB (zAa (pv 0) (zAa (zAi C_words_for hr rfl (zAa zAo (zAa (pv 1) zAb))) zAb))))
   (zAd (ps_fldX (pv 0) (pv 1) rfl))),?_⟩
  refine ⟨_,rfl,_,rfl,_,v,rfl,by decide,o,fun z=>?_⟩
  refine ⟨e,CT,none,.str z,rfl,he,R.xc.exc,?_⟩
  exact ⟨_,rfl,_,rfl,e,CT,rfl,he,R.xc,R.nr,fun dx hdx=>k dx hdx⟩
abbrev zEj:Stmt:=top 24
theorem sc_own_copy:FnScope ["thing", "depth", "pairs"] ["thing", "depth"] (zAe zEj):=⟨rfl,rfl,rfl,by decide +kernel,rfl,by decide +kernel,by decide +kernel⟩
def zIs:Sp:=fun vs H Q _=>∃(v:Str),vs=[.str v,.int 12]/\Q (.str v) H
theorem ok_copyS {f:Addr} {fd:FuncData} {D:Addr} {its:Array Value} (F:FunD K "own_copy" "own_copy" zEj f fd D its) (T:Txt K mg):FnOk P w K mg base CX0 1 f fd ["thing", "depth"] zIs:=by
 refine F.ok sc_own_copy (fun vs H Q E h=>?_) (fun cdv A outer s H vs Q E hr h=>?_)
 ·obtain ⟨v,rfl,_⟩:=h
  rfl
 ·obtain ⟨v,rfl,k⟩:=h
  refine ⟨_,(zAc (zA2 (zAr zEu (pv 1) zAg (zAt _)) zBt zAm)
   (zAc (zA2 (zBi (zAf zCj (by rfl) T.z_isinstance zAh (zAa (pv 0) (zAa (zC3 (by rfl) T.z_list zEh (v:=.ty "list") rfl) zAb)))) zBt zAm)
   (zAc (zA2 (zBi (zAf zCj (by rfl) T.z_isinstance zAh (zAa (pv 0) (zAa (zC3 (by rfl) T.z_tuple bo_tuple (v:=.ty "tuple") rfl) zAb)))) zBt zAm)
   (zAc (zA2 (zBi (zAf zCj (by rfl) T.z_isinstance zAh (zAa (pv 0) (zAa (zC3 (by rfl) T.z_dict bo_dict (v:=.ty "dict") rfl) zAb)))) zBt zAm)
   (zAd (zAq (pv 0))))))),?_⟩
  refine ⟨_,rfl,rfl,_,rfl,?_⟩
  rw [decide_eq_false (fun z=>by cases z)]
  refine iteF ?_
  refine ⟨_,rfl,_,_,_,_,rfl,TyOf.str v,rfl,_,rfl,iteF ?_⟩
  refine ⟨_,rfl,_,_,_,_,rfl,TyOf.str v,rfl,_,rfl,iteF ?_⟩
  refine ⟨_,rfl,_,_,_,_,rfl,TyOf.str v,rfl,_,rfl,iteF ?_⟩
  exact ⟨_,rfl,k⟩
end
section
variable {P:Program} {w:World} {K:PySem.W.Frag} {mg:Str->Option Value} {base:Heap} {C CB CS CT CM:Addr}
theorem raised {H H1:Hp} {x dx:Addr} {C:Addr} {v:Str} {M:List Addr} {E:XK} (k1:Kp M H H1) (hx:H1 x=none) (hdx:upd H1 x (excN x C none) dx=none) (k:XN C M H v E):E (.ref C) (some dx) (del (upd (upd (upd H1 x (excN x C none)) dx (.xd [("name",.str v)])) x (excN x C (some dx))) x):=by
 have nxd:x≠dx:=ne_fre hdx (show upd H1 x _ x=some _ from upd_same)
 have fd1:Fre H1 dx:=by have:=hdx;rw [upd_ne (Ne.symm nxd)] at this;exact this
 refine k dx _ (k1.trans fun b o hb nm=>?_) (by rw [zCn (Ne.symm nxd),upd_ne (Ne.symm nxd),upd_same])
 have bx:b≠x:=zAj hb hx
 rw [zCn bx,upd_ne bx,upd_ne (zAj hb fd1),upd_ne bx]
 exact hb
def zIq (CM:Addr):Sp:=fun vs H _ E=>∃(l:Addr) (ns:List Str),vs=[.ref l]/\Txs H l ns/\20<ns.length/\E (.ref CM) none H
theorem ok_namesM {f:Addr} {fd:FuncData} (F:Fun K "check_names" "check_names" zB7 f fd) (T:Txt K mg) (R:X0 K mg CB CM "TooMany"):FnOk P w K mg base (CX1 P w) 2 f fd ["names"] (zIq CM):=by
 refine Fun.okX F zAv (fun vs H Q E h=>?_) (fun cdv A outer s H vs Q E hr h=>?_)
 ·obtain ⟨l,ns,rfl,_⟩:=h
  rfl
 ·obtain ⟨l,ns,rfl,hl,hn,k⟩:=h
  obtain ⟨tM,hM⟩:=T.c_MOST_JOBS
  refine ⟨_,(zAc (zA2 (zAr op_gt (zAf zAp (by rfl) T.z_len zBv (zAa (pv 0) zAb)) (zA4 rfl hM (v:=.int 20) ⟨_,rfl⟩) (zAt _))
    (zAd (zGo raise1 rfl rfl R.mgX R.ok (zAa zAo zAb)))
    zAm)
   zBt),?_⟩
  refine ⟨_,rfl,_,_,rfl,.inl (SqL.of hl),_,_,rfl,rfl,_,rfl,?_⟩
  rw [decide_eq_true (by rw [List.length_map];omega)]
  exact iteT ⟨by walk_at "ln",k⟩
def zIp (CT:Addr):Sp:=fun vs H _ E=>∃(l:Addr) (ns:List Str) (i:Nat) (n:Str),vs=[.ref l]/\Txs H l ns/\ns.length<=20/\(∀n∈ns,zBa n)/\TwAt ns i n/\XN CT [] H n E
theorem ok_namesT {f:Addr} {fd:FuncData} (F:Fun K "check_names" "check_names" zB7 f fd) (T:Txt K mg) (R:XF K mg CB CT "Twice") (C_is_name:Cal P w K mg base "is_name" 1 ["thing"] zEi) (M_Twice:MkrX P w K mg base CT 2 ["self", "name"] (zE0 CT)):FnOk P w K mg base (CX1 P w) 4 f fd ["names"] (zIp CT):=by
 refine Fun.okX F zAv (fun vs H Q E h=>?_) (fun cdv A outer s H vs Q E hr h=>?_)
 ·obtain ⟨l,ns,i,n,rfl,_⟩:=h
  rfl
 ·obtain ⟨l,ns,i0,n0,rfl,hl,hn,hN,tw,k⟩:=h
  have hr1:=hr.mono (j:=1) (by decide)
  have hu:=hu_of hr
  obtain ⟨tM,hM⟩:=T.c_MOST_JOBS
  refine ⟨_,(zAc (zA2 (zAr op_gt (zAf zAp (by rfl) T.z_len zBv (zAa (pv 0) zAb)) (zA4 rfl hM (v:=.int 20) ⟨_,rfl⟩) (zAt _))
    (zAd zDz)
    zAm)
   (zAc (zBb PassesOwn.leaving rfl (zAx (pv 0)) (zAk (i:=1) zAv.nd rfl (by walk_at "lc"))
    (zAd (zA2 (zC2 (zBi (zAi C_is_name hr1 rfl (zAa (pv 1) zAb))))
     (zAd zDz)
     zAm)))
   (zAc (zAn (i:=2) zAv.nd rfl (by walk_at "lc") zEm)
   (zAd (zBb PassesOwn.leaving rfl (zAx (pv 0)) (zAk (i:=3) zAv.nd rfl (by walk_at "lc"))
    (zAc (zA2 (pt_cmp (pc_din hu (pv 3) (pv 2)))
     (zAd (zGz raiseD rfl rfl R.mgX M_Twice hr (zAa (pv 3) zAb)))
     zAm)
    (zAd (zG0 hu (pv 2) (pv 3) pe_bl rfl)))))))),?_⟩
  refine ⟨_,rfl,_,_,rfl,.inl (SqL.of hl),_,_,rfl,rfl,_,rfl,?_⟩
  rw [decide_eq_false (by rw [List.length_map];omega)]
  refine iteF ?_
  refine ⟨_,rfl,_,rfl,⟨_,SqL.of hl⟩,zBk (fun i σ H2=>(∃o1 o2 o3:Option V,σ=[some (.ref l),o1,o2,o3])/\Kp [] H H2) ⟨⟨_,_,_,rfl⟩,Kp.refl⟩ (fun i σ H2 _ ⟨_,k2⟩=>SqL.of (k2 l _ hl (by simp))) ?_ ?_⟩
  ·rintro i v σ H2 hv ⟨⟨o1,o2,o3,rfl⟩,k2⟩
   obtain ⟨n,en,rfl⟩:=zBn hv
   have nn:=hN n (List.mem_of_getElem? en)
   refine ⟨_,rfl,n,rfl,by have:=nn.2.1;omega,fun H3 k3=>?_⟩
   rw [(zFq n).mpr nn]
   exact ⟨_,rfl,iteF ⟨⟨_,_,_,rfl⟩,k2.trans k3⟩⟩
  ·rintro σ H2 ⟨⟨o1,o2,o3,rfl⟩,k2⟩
   have hl2:Txs H2 l ns:=k2 l _ hl (by simp)
   refine fun d hd=>?_
   have fd:Fre H2 d:=hd
   have fdH:Fre H d:=k2.fre fd (by simp)
   refine ⟨_,rfl,_,rfl,⟨_,SqL.of ((Kp.new (M:=[]) Kp.refl fd) l _ hl2 (by simp))⟩,zBk (fun i σ H3=>(∃o1 o3:Option V,σ=[some (.ref l),o1,some (.ref d),o3])/\Kp [] H H3/\H3 d=some (.dK (dT1 (ns.take i) fun _=>.bl true))/\(ns.take i).Nodup) ⟨⟨_,_,rfl⟩,Kp.new k2 fdH,upd_same,by simp⟩ (fun i σ H3 _ ⟨_,k3,_⟩=>SqL.of (k3 l _ hl (by simp))) ?_ ?_⟩
   ·rintro i v σ H3 hv ⟨⟨o1,o3,rfl⟩,k3,h3,nd⟩
    obtain ⟨n,en,rfl⟩:=zBn hv
    refine ⟨_,rfl,_,rfl,_,_,rfl,DGet.k (k:=Sum.inr n) h3,_,rfl,?_⟩
    rw [zCy]
    by_cases ni:n∈ns.take i
    ·rw [if_pos ni]
     refine iteT ?_
     obtain ⟨_,en0⟩:=tw.one ⟨en,ni,nd⟩
     subst en0
     refine ⟨_,rfl,by walk_at "ln",fun x hx=>?_⟩
     exact ⟨x,n0,rfl,upd_same,hN n0 (List.mem_of_getElem? en),fun dx hdx=>⟨rfl,some dx,upd_same,raised k3 hx hdx k⟩⟩
    ·rw [if_neg ni]
     refine iteF ?_
     refine ⟨_,rfl,_,rfl,_,_,rfl,DPut.k (k:=Sum.inr n) h3 ?_,?_⟩
     ·rw [List.length_map,List.length_take,sizeLine_eq];omega
     ·refine ⟨⟨_,_,rfl⟩,Kp.new k3 fdH,?_,?_⟩
      ·rw [upd_same,zGy _ ni,zAl en]
       unfold dT1
       rw [List.map_append];rfl
      ·rw [zAl en]
       exact List.nodup_append.mpr ⟨nd,by simp,fun x hx y hy=>by rw [List.mem_singleton.mp hy];exact fun z=>ni (z▸hx)⟩
   ·rintro σ H3 ⟨_,_,_,nd⟩
    rw [List.length_map,List.take_length] at nd
    exact absurd nd tw.not
def spCheckX (CS:Addr):Sp:=fun vs H _ E=>∃(x:Str) (l:Addr) (ns:List Str),vs=[.ref l,.str x]/\Txs H l ns/\zBa x/\x∉ns/\XN CS [] H x E
theorem ok_checkX {f:Addr} {fd:FuncData} (F:Fun K "check_job" "check_job" zCz f fd) (R:XF K mg CB CS "Stranger") (C_is_one_of:Cal P w K mg base "is_one_of" 1 ["thing", "names"] zFe) (C_own_copy:CalD P w K mg base "own_copy" 1 ["thing", "depth"] [.int 12] zIs) (M_Stranger:MkrX P w K mg base CS 2 ["self", "name"] (zE0 CS)):FnOk P w K mg base (CX1 P w) 4 f fd ["names", "thing"] (spCheckX CS):=by
 refine Fun.okX F zGa (fun vs H Q E h=>?_) (fun cdv A outer s H vs Q E hr h=>?_)
 ·obtain ⟨x,l,ns,rfl,_⟩:=h
  rfl
 ·obtain ⟨v,l,ns,rfl,hl,o,n,k⟩:=h
  have hr1:=hr.mono (j:=1) (by decide)
  refine ⟨_,(zAd (zA2 (zC2 (zBi (zAi C_is_one_of hr1 rfl (zAa (pv 1) (zAa (pv 0) zAb)))))
    (zAd (zGz raiseD rfl rfl R.mgX M_Stranger hr (zAa (pe_callD C_own_copy hr1 rfl (zAa (pv 1) zAb)) zAb)))
    zAm)),?_⟩
  refine ⟨_,rfl,_,rfl,v,l,ns,rfl,hl,?_⟩
  rw [decide_eq_false n]
  refine ⟨_,rfl,iteT ?_⟩
  refine ⟨_,rfl,v,rfl,by walk_at "ln",fun x hx=>?_⟩
  exact ⟨x,v,rfl,upd_same,o,fun dx hdx=>⟨rfl,some dx,upd_same,raised Kp.refl hx hdx k⟩⟩
end
theorem zFd {ns:List Str} {ks:List (List Str)} (h:∀k∈ks,∀x∈k,x∈ns):strg ns ks=none:=by
 unfold strg
 rw [List.find?_eq_none]
 intro x hx
 obtain ⟨k,hk,hx⟩:=List.mem_flatten.mp hx
 simp [h k hk x hx]
theorem strg_in {ns:List Str} {ks:List (List Str)} (h:strg ns ks=none):∀k∈ks,∀x∈k,x∈ns:=fun k hk x hx=>by
 have:=List.find?_eq_none.mp h x (List.mem_flatten.mpr ⟨k,hk,hx⟩)
 simpa using this
theorem strg_at {ns:List Str} {ks:List (List Str)} {i j:Nat} {k:List Str} {x:Str} (hi:ks[i]?=some k) (hj:k[j]?=some x) (h1:∀k∈ks.take i,∀x∈k,x∈ns) (h2:∀x∈k.take j,x∈ns) (hx:x∉ns):strg ns ks=some x:=by
 have li:=(List.getElem?_eq_some_iff.mp hi).1
 have lj:=(List.getElem?_eq_some_iff.mp hj).1
 have e1:ks=ks.take i++k::ks.drop (i+1):=by
  conv=>lhs;rw [<-List.take_append_drop i ks,List.drop_eq_getElem_cons li]
  rw [(List.getElem?_eq_some_iff.mp hi).2]
 have e2:k=k.take j++x::k.drop (j+1):=by
  conv=>lhs;rw [<-List.take_append_drop j k,List.drop_eq_getElem_cons lj]
  rw [(List.getElem?_eq_some_iff.mp hj).2]
 have n1:((ks.take i).flatten).find? (fun x=>decide (x∉ns))=none:=zFd (ks:=ks.take i) h1
 have n2:(k.take j).find? (fun x=>decide (x∉ns))=none:=by
  rw [List.find?_eq_none]
  intro y hy
  simp [h2 y hy]
 unfold strg
 rw [e1,List.flatten_append,List.find?_append,n1,List.flatten_cons,List.find?_append]
 conv=>lhs;rw [e2]
 rw [List.find?_append,n2,List.find?_cons]
 simp [hx]
section
variable {P:Program} {w:World} {K:PySem.W.Frag} {mg:Str->Option Value} {base:Heap} {C CB CS CT CM CR:Addr}
theorem _root_.L2.FnOk.lift {k:Nat} {f:Addr} {fd:FuncData} {ps:List Str} {sp:Sp} (F:FnOk P w K mg base CX0 k f fd ps sp):FnOk P w K mg base (CX1 P w) k f fd ps sp :=
 ⟨F.len,fun A outer s H args us vs Q E hr e0 hb r h=>codeAny_mono (F.run A outer s H args us vs Q E hr e0 hb r h) fun rr s' hq=>by
  cases rr with
  | error e=>exact hq.elim
  | ok fl=>cases fl<;>exact hq⟩
theorem _root_.L2.FnOk.both {CX:CXT} {k:Nat} {f:Addr} {fd:FuncData} {ps:List Str} {sp1 sp2 sp:Sp} (F1:FnOk P w K mg base CX k f fd ps sp1) (F2:FnOk P w K mg base CX k f fd ps sp2) (h:∀vs H Q E,sp vs H Q E->sp1 vs H Q E\/sp2 vs H Q E):FnOk P w K mg base CX k f fd ps sp :=
 ⟨fun vs H Q E q=>(h vs H Q E q).elim (F1.len vs H Q E) (F2.len vs H Q E),fun A outer s H args us vs Q E hr e0 hb r q=>(h vs H Q E q).elim (F1.run A outer s H args us vs Q E hr e0 hb r) (F2.run A outer s H args us vs Q E hr e0 hb r)⟩
def zIt (CS:Addr):Sp:=fun vs H Q E=>∃(x:Str) (l:Addr) (ns:List Str),vs=[.ref l,.str x]/\Txs H l ns/\zBa x/\(x∈ns->Q .non H)/\(x∉ns->XN CS [] H x E)
theorem ok_checkB {f:Addr} {fd:FuncData} (F1:FnOk P w K mg base CX0 2 f fd ["names", "thing"] zFx) (F2:FnOk P w K mg base (CX1 P w) 4 f fd ["names", "thing"] (spCheckX CS)):FnOk P w K mg base (CX1 P w) 4 f fd ["names", "thing"] (zIt CS) :=
 ((F1.mono (by decide)).lift).both F2 fun vs H Q E ⟨x,l,ns,e,hl,hx,h1,h2⟩=>by
  by_cases c:x∈ns
  ·exact .inl ⟨x,l,ns,e,hl,c,h1 c⟩
  ·exact .inr ⟨x,l,ns,e,hl,hx,c,h2 c⟩
def zIo (CS:Addr):Sp:=fun vs H _ E=>∃(l m:Addr) (ns:List Str) (qs:List (List Str×Addr)) (x0:Str),vs=[.ref l,.ref m]/\Txs H l ns/\Ords H m qs/\(∀q∈qs,∀x∈q.1,zBa x)/\strg ns (qs.map (·.1))=some x0/\XN CS [] H x0 E
theorem ok_partsX {f:Addr} {fd:FuncData} (F:Fun K "check_parts" "check_parts" zCv f fd) (C_check_job:CalX P w K mg base "check_job" 4 ["names", "thing"] (zIt CS)):FnOk P w K mg base (CX1 P w) 5 f fd ["names", "orders"] (zIo CS):=by
 refine Fun.okX F zBe (fun vs H Q E h=>?_) (fun cdv A outer s H vs Q E hr h=>?_)
 ·obtain ⟨l,m,ns,qs,x0,rfl,_⟩:=h
  rfl
 ·obtain ⟨l,m,ns,qs,x0,rfl,hl,hm,nm,hs,k⟩:=h
  refine ⟨_,(zAd (zBb PassesOwn.leaving rfl (zAx (pv 1)) (zAk (i:=2) zBe.nd rfl (by walk_at "lc"))
    (zAd (zBb PassesOwn.leaving rfl (pi_tup (pv 2)) (zAk (i:=3) zBe.nd rfl (by walk_at "lc"))
     (zAd (zA3 (zCw (E:=fun _=>E) C_check_job hr rfl (zHs fun _ _ _ _ h=>h) (zAa (pv 0) (zAa (pv 3) zAb))))))))),?_⟩
  refine ⟨_,rfl,_,rfl,⟨_,SqL.of hm.top⟩,zBk (fun i σ H2=>(∃o2 o3:Option V,σ=[some (.ref l),some (.ref m),o2,o3])/\H2=H/\∀k∈(qs.map (·.1)).take i,∀x∈k,x∈ns) ⟨⟨_,_,rfl⟩,rfl,by simp⟩ (fun i σ H2 _ ⟨_,e,_⟩=>by subst e;exact SqL.of hm.top) ?_ ?_⟩
  ·rintro i v σ H2 hv ⟨⟨o2,o3,rfl⟩,rfl,a2⟩
   obtain ⟨q,eq,rfl⟩:=zEw hv
   have mq:=List.mem_of_getElem? eq
   have ek:(qs.map (·.1))[i]?=some q.1:=by rw [List.getElem?_map,eq];rfl
   refine ⟨_,rfl,_,rfl,⟨_,.inl (.inl (hm.row q mq))⟩,for_tup (fun j σ H3=>(∃o3:Option V,σ=[some (.ref l),some (.ref m),some (.ref q.2),o3])/\H3=H2/\∀x∈q.1.take j,x∈ns) ⟨⟨_,rfl⟩,rfl,by simp⟩ (fun j σ H3 _ ⟨_,e,_⟩=>by subst e;exact .inl (.inl (hm.row q mq))) ?_ ?_⟩
   ·rintro j v σ H3 hv ⟨⟨o3,rfl⟩,rfl,a3⟩
    obtain ⟨x,ex,rfl⟩:=zBn hv
    refine ⟨_,rfl,_,rfl,x,l,ns,rfl,hl,nm q mq x (List.mem_of_getElem? ex),fun c=>⟨⟨_,rfl⟩,rfl,fun y hy=>?_⟩,fun c=>?_⟩
    ·rw [zAl ex] at hy
     rcases List.mem_append.mp hy with z| z
     ·exact a3 y z
     ·rw [List.mem_singleton.mp z];exact c
    ·have:=strg_at ek ex a2 a3 c
     rw [hs] at this
     cases this
     exact k
   ·rintro σ H3 ⟨⟨o3,rfl⟩,rfl,a3⟩
    rw [List.length_map,List.take_length] at a3
    refine ⟨⟨_,_,rfl⟩,rfl,fun k hk x hx=>?_⟩
    rw [zAl ek] at hk
    rcases List.mem_append.mp hk with z| z
    ·exact a2 k z x hx
    ·rw [List.mem_singleton.mp z] at hx;exact a3 x hx
  ·rintro σ H2 ⟨⟨o2,o3,rfl⟩,rfl,a2⟩
   rw [List.length_map,<-List.length_map (f:=fun q:List Str×Addr=>q.1),List.take_length] at a2
   rw [zFd a2] at hs
   cases hs
end
section
variable {P:Program} {w:World} {K:PySem.W.Frag} {mg:Str->Option Value} {base:Heap} {C CB CS CT CM CR:Addr}
def spI1 (CM:Addr):Sp:=fun vs H _ E=>∃(x l m:Addr) (ns:List Str),vs=[.ref x,.ref l,.ref m]/\Txs H l ns/\20<ns.length/\E (.ref CM) none H
theorem ok_I1 {f:Addr} {fd:FuncData} (F:Fun K "__init__" "Jobs.__init__" zAw f fd) (C_check_names:CalX P w K mg base "check_names" 2 ["names"] (zIq CM)):FnOk P w K mg base (CX1 P w) 3 f fd ["self", "names", "orders"] (spI1 CM):=by
 refine Fun.okX F zBw (fun vs H Q E h=>?_) (fun cdv A outer s H vs Q E hr h=>?_)
 ·obtain ⟨x,l,m,ns,rfl,_⟩:=h
  rfl
 ·obtain ⟨x,l,m,ns,rfl,hl,hn,k⟩:=h
  exact ⟨_,(zAc (zA3 (zCw (E:=fun _=>E) C_check_names hr rfl (zHs fun _ _ _ _ h=>h) (zAa (pv 1) zAb))) zBt),⟨_,rfl,l,ns,rfl,hl,hn,k⟩⟩
def spI2 (CT:Addr):Sp:=fun vs H _ E=>∃(x l m:Addr) (ns:List Str) (i:Nat) (n:Str),vs=[.ref x,.ref l,.ref m]/\Txs H l ns/\ns.length<=20/\(∀n∈ns,zBa n)/\TwAt ns i n/\XN CT [] H n E
theorem ok_I2 {f:Addr} {fd:FuncData} (F:Fun K "__init__" "Jobs.__init__" zAw f fd) (C_check_names:CalX P w K mg base "check_names" 4 ["names"] (zIp CT)):FnOk P w K mg base (CX1 P w) 5 f fd ["self", "names", "orders"] (spI2 CT):=by
 refine Fun.okX F zBw (fun vs H Q E h=>?_) (fun cdv A outer s H vs Q E hr h=>?_)
 ·obtain ⟨x,l,m,ns,i,n,rfl,_⟩:=h
  rfl
 ·obtain ⟨x,l,m,ns,i,n,rfl,hl,hn,nm,tw,k⟩:=h
  exact ⟨_,(zAc (zA3 (zCw (E:=fun _=>E) C_check_names hr rfl (zHs fun _ _ _ _ h=>h) (zAa (pv 1) zAb))) zBt),⟨_,rfl,l,ns,i,n,rfl,hl,hn,nm,tw,k⟩⟩
def spI3 (CS:Addr):Sp:=fun vs H _ E=>∃(x l m:Addr) (ns:List Str) (qs:List (List Str×Addr)) (y:Str),vs=[.ref x,.ref l,.ref m]/\Txs H l ns/\Ords H m qs/\ns.length<=20/\(∀n∈ns,zBa n)/\ns.Nodup/\(∀q∈qs,∀x∈q.1,zBa x)/\strg ns (qs.map (·.1))=some y/\XN CS [] H y E
theorem ok_I3 {f:Addr} {fd:FuncData} (F:Fun K "__init__" "Jobs.__init__" zAw f fd) (C_check_names:Cal P w K mg base "check_names" 2 ["names"] zC7) (C_check_parts:CalX P w K mg base "check_parts" 5 ["names", "orders"] (zIo CS)):FnOk P w K mg base (CX1 P w) 6 f fd ["self", "names", "orders"] (spI3 CS):=by
 refine Fun.okX F zBw (fun vs H Q E h=>?_) (fun cdv A outer s H vs Q E hr h=>?_)
 ·obtain ⟨x,l,m,ns,qs,y,rfl,_⟩:=h
  rfl
 ·obtain ⟨x,l,m,ns,qs,y,rfl,hl,hm,hn,nm,nd,np,hs,k⟩:=h
  have hr2:=hr.mono (j:=2) (by decide)
  refine ⟨_,(zAc (zA3 (zAi C_check_names hr2 rfl (zAa (pv 1) zAb))) (zAc (zA3 (zCw (E:=fun _=>E) C_check_parts hr rfl (zHs fun _ _ _ _ h=>h) (zAa (pv 1) (zAa (pv 2) zAb)))) zBt)),?_⟩
  refine ⟨_,rfl,l,ns,rfl,hl,hn,nm,nd,fun H1 k1=>?_⟩
  exact ⟨_,rfl,_,rfl,l,m,ns,qs,y,rfl,k1 _ _ hl (by simp),hm.kp k1 (by simp) (by simp),np,hs,fun dx H' k2=>k dx H' (k1.trans k2)⟩
def zFw (C CM CT CS CR:Addr):Sp:=fun vs H Q E=>∃(x dx l m:Addr) (ns:List Str) (qs:List (List Str×Addr)),vs=[.ref x,.ref l,.ref m]/\H x=some (.ins C dx [])/\Txs H l ns/\Ords H m qs/\(∀n∈ns,zBa n)/\(∀q∈qs,∀x∈q.1,zBa x)/\qs.length<=63 /\
 (20<ns.length->∀H',Kp [x] H H'->E (.ref CM) none H')/\(ns.length<=20->∀i n,TwAt ns i n->XN CT [x] H n E)/\(ns.length<=20->ns.Nodup->∀y,strg ns (qs.map (·.1))=some y->XN CS [x] H y E) /\
 (GoodX ns qs->(∀J H',JobsAt C H' x J->JNew H J->J.ns=ns->(∀k,k∈J.zs.map (·.1)↔k∈qs.map (·.1))->(∃r:Str->Nat,∀q∈qs,r (fst q)<r (snd q))->Kp [x] H H'->Q .non H') /\
 ∀p dx rs H',RingOf (told qs) rs->(∀x∈rs,x∈ns)->Txs H' p rs->H' dx=some (.xd [("ring",.ref p)])->rs.length<=20->Kp [x] H H'->E (.ref CR) (some dx) H')
theorem ok_initY {f:Addr} {fd:FuncData} (F1:FnOk P w K mg base (CX1 P w) 3 f fd ["self", "names", "orders"] (spI1 CM)) (F2:FnOk P w K mg base (CX1 P w) 5 f fd ["self", "names", "orders"] (spI2 CT)) (F3:FnOk P w K mg base (CX1 P w) 6 f fd ["self", "names", "orders"] (spI3 CS)) (F4:FnOk P w K mg base (CX1 P w) 4 f fd ["self", "names", "orders"] (spInitX C CR)):FnOk P w K mg base (CX1 P w) 6 f fd ["self", "names", "orders"] (zFw C CM CT CS CR):=by
 refine FnOk.both (sp1:=fun vs H Q E=>spI1 CM vs H Q E\/spI2 CT vs H Q E) (sp2:=fun vs H Q E=>spI3 CS vs H Q E\/spInitX C CR vs H Q E) ((F1.mono (by decide)).both (F2.mono (by decide)) fun _ _ _ _ h=>h) (F3.both (F4.mono (by decide)) fun _ _ _ _ h=>h) fun vs H Q E h=>?_
 obtain ⟨x,dx,l,m,ns,qs,e,hx,hl,hm,nm,np,lq,h1,h2,h3,h4⟩:=h
 by_cases c1:20<ns.length
 ·exact .inl (.inl ⟨x,l,m,ns,e,hl,c1,h1 c1 H Kp.refl⟩)
 by_cases c2:ns.Nodup
 ·cases hs:strg ns (qs.map (·.1)) with
  | some y=>exact .inr (.inl ⟨x,l,m,ns,qs,y,e,hl,hm,by omega,nm,c2,np,hs,fun dx H' k=>h3 (by omega) c2 y hs dx H' k.of0⟩)
  | none =>
   have G:GoodX ns qs:=⟨nm,c2,by omega,lq,fun q hq x hx=>strg_in hs q.1 (List.mem_map.mpr ⟨q,hq,rfl⟩) x hx⟩
   exact .inr (.inr ⟨x,dx,l,m,ns,qs,e,hx,hl,hm,G,(h4 G).1,(h4 G).2⟩)
 ·obtain ⟨i,n,tw⟩:=TwAt.ex c2
  exact .inl (.inr ⟨x,l,m,ns,i,n,e,hl,by omega,nm,tw,fun dx H' k=>h2 (by omega) i n tw dx H' k.of0⟩)
end
def okO (k:List Str):Bool:=k.all zBh&&decide (k.length=2)
section
variable {P:Program} {w:World} {K:PySem.W.Frag} {mg:Str->Option Value} {base:Heap} {C CB CN:Addr}
def zGk (CN:Addr):Sp:=fun vs H Q E=>∃(x sep:Str),vs=[.str x,.str sep]/\1<=sep.length/\x.length<=100000/\(∀n∈Txt.split x sep,n.length<=1000000)/\((Txt.split x sep).all zBh=true->∀l H',Fre H l->Txs H' l (Txt.split x sep)->Kp [] H H'->Q (.ref l) H')/\((Txt.split x sep).all zBh=false->∀H',Kp [] H H'->E (.ref CN) none H')
abbrev zD7:Stmt:=top 38
theorem zDv:FnScope ["part", "between", "words", "word"] ["part", "between"] (zAe zD7):=⟨rfl,rfl,rfl,by decide +kernel,rfl,by decide +kernel,by decide +kernel⟩
theorem zI8 {f:Addr} {fd:FuncData} (F:Fun K "read_names" "read_names" zD7 f fd) (R:X0 K mg CB CN "NoText") (C_is_name:Cal P w K mg base "is_name" 1 ["thing"] zEi):FnOk P w K mg base (CX1 P w) 2 f fd ["part", "between"] (zGk CN):=by
 refine Fun.okX F zDv (fun vs H Q E h=>?_) (fun cdv A outer s H vs Q E hr h=>?_)
 ·obtain ⟨x,sep,rfl,_⟩:=h
  rfl
 ·obtain ⟨x,sep,rfl,h1,hx,hw,kQ,kE⟩:=h
  refine ⟨_,(zAc (zAn (i:=2) zDv.nd rfl (by walk_at "lc") (zDm PySem.F.plainAttrs_str PySem.F.slot_str_split PySem.F.type_str_split zEn (pv 0) (zAa (pv 1) zAb)))
   (zAc (zBb PassesOwn.leaving rfl (zAx (pv 2)) (zAk (i:=3) zDv.nd rfl (by walk_at "lc"))
    (zAd (zA2 (zC2 (zBi (zAi C_is_name hr rfl (zAa (pv 3) zAb))))
     (zAd (zGo raise1 rfl rfl R.mgX R.ok (zAa zAo zAb)))
     zAm)))
   (zAd (zAq (pv 2))))),?_⟩
  refine ⟨_,rfl,rfl,_,rfl,_,_,rfl,rfl,h1,by omega,fun l hl=>?_⟩
  generalize Txt.split x sep=ns at hw kQ kE ⊢
  have k1:Kp [] H (upd H l (.lst (ns.map V.str))):=Kp.new Kp.refl hl
  have h2:upd H l (.lst (ns.map V.str)) l=some (.lst (ns.map V.str)):=upd_same
  generalize upd H l (.lst (ns.map V.str))=H1 at k1 h2
  refine ⟨_,rfl,_,rfl,⟨_,SqL.of h2⟩,zBk (fun i σ H4=>(∃o3:Option V,σ=[some (.str x),some (.str sep),some (.ref l),o3])/\Kp [] H1 H4/\(ns.take i).all zBh=true) ⟨⟨_,rfl⟩,Kp.refl,rfl⟩ (fun i σ H4 _ ⟨_,e,_⟩=>SqL.of (e _ _ h2 (by simp))) ?_ ?_⟩
  ·rintro i v σ H4 hv ⟨⟨o3,rfl⟩,k4,a4⟩
   obtain ⟨n,en,rfl⟩:=zBn hv
   refine ⟨_,rfl,n,rfl,hw n (List.mem_of_getElem? en),fun H5 k5=>⟨_,rfl,?_⟩⟩
   cases c:zBh n with
   | true =>
    refine iteF ⟨⟨_,rfl⟩,k4.trans k5,?_⟩
    rw [zAl en,List.all_append,a4]
    simp [c]
   | false =>
    refine iteT ⟨by walk_at "ln",kE ?_ H5 (k1.trans (k4.trans k5))⟩
    rw [Bool.eq_false_iff]
    intro z
    have:=List.all_eq_true.mp z n (List.mem_of_getElem? en)
    rw [c] at this;cases this
  ·rintro σ H4 ⟨⟨o3,rfl⟩,k4,a4⟩
   rw [List.length_map,List.take_length] at a4
   exact ⟨_,rfl,kQ a4 l H4 hl (k4 _ _ h2 (by simp)) (k1.trans k4)⟩
def zIn (CN:Addr):Sp:=fun vs H Q E=>∃(x:Str),vs=[.str x]/\x.length<=100000/\(∀n∈Txt.split x " < ",n.length<=1000000)/\(okO (Txt.split x " < ")=true->∀t H',Fre H t->H' t=some (.tup ((Txt.split x " < ").map V.str))->Kp [] H H'->Q (.ref t) H')/\(okO (Txt.split x " < ")=false->∀H',Kp [] H H'->E (.ref CN) none H')
abbrev zD6:Stmt:=top 39
theorem zFf:FnScope ["part", "words"] ["part"] (zAe zD6):=⟨rfl,rfl,rfl,by decide +kernel,rfl,by decide +kernel,by decide +kernel⟩
theorem zI7 {f:Addr} {fd:FuncData} (F:Fun K "read_order" "read_order" zD6 f fd) (T:Txt K mg) (R:X0 K mg CB CN "NoText") (C_read_names:CalX P w K mg base "read_names" 2 ["part", "between"] (zGk CN)):FnOk P w K mg base (CX1 P w) 3 f fd ["part"] (zIn CN):=by
 refine Fun.okX F zFf (fun vs H Q E h=>?_) (fun cdv A outer s H vs Q E hr h=>?_)
 ·obtain ⟨x,rfl,_⟩:=h
  rfl
 ·obtain ⟨x,rfl,hx,hw,kQ,kE⟩:=h
  refine ⟨_,(zAc (zAn (i:=1) zFf.nd rfl (by walk_at "lc") (zCw (E:=fun _=>E) C_read_names hr rfl (zHs fun _ _ _ _ h=>h) (zAa (pv 0) (zAa zAo zAb))))
   (zAc (zA2 (zAr op_ne (zAf zAp (by rfl) T.z_len zBv (zAa (pv 1) zAb)) zAg (zAt _))
    (zAd (zGo raise1 rfl rfl R.mgX R.ok (zAa zAo zAb)))
    zAm)
   (zAd (zAq (zB9 (zAa (zA9 zA1 (pv 1) zAg (fun _ _=>rfl)) (zAa (zA9 zA1 (pv 1) zAg (fun _ _=>rfl)) zAb))))))),?_⟩
  refine ⟨_,rfl,x,_,rfl,by decide,hx,hw,fun a l H1 fl hl k1=>?_,fun a H1 k1=>kE (by unfold okO;rw [a];rfl) H1 k1⟩
  generalize Txt.split x " < " = ks at hw kQ kE a hl
  refine ⟨_,rfl,l,_,rfl,.inl (SqL.of hl),rfl,_,rfl,?_⟩
  by_cases c:ks.length=2
  ·obtain ⟨a1,a2,rfl⟩:∃a1 a2,ks=[a1,a2]:=by
    match ks,c with
    | [a1,a2],_=>exact ⟨a1,a2,rfl⟩
   refine iteF ?_
   refine ⟨_,rfl,_,_,_,_,rfl,rfl,SqL.of hl,rfl,_,rfl,_,_,_,_,rfl,rfl,SqL.of hl,rfl,(by walk_at "ln"),fun t ht=>?_⟩
   exact kQ (by unfold okO;rw [a];rfl) t _ (k1.fre ht (by simp)) upd_same (Kp.new k1 (k1.fre ht (by simp)))
  ·rw [List.length_map,show (!decide (V.int ((ks.length:Nat):Int)=V.int 2))=true by rw [decide_eq_false (fun z=>c (by have:=V.int.inj z;omega))];rfl]
   exact iteT ⟨by walk_at "ln",kE (by unfold okO;rw [decide_eq_false c,Bool.and_false]) H1 k1⟩
end
end My
namespace L2
open PySem PySem.Spec PyProof.Rows
theorem ps_compX {X:Cx} {elt tg iter:Expr} {ifs:List Expr} {scope:Scope} {pos spos py:Pos} {N:List Str} {ix:List (Option Nat)} {wi:TI} {g:TG} {tt:TT} {te:TE} {i:Nat} {y:Str} {E:XK} {e0:Env} {rest:List Env} {L:Addr} (hX:zBm X fun _=>E) (hstk:X.stack=e0::rest) (he0:X.env.frame=e0.frame) (hL:e0.frame=some L) (hc:X.calm=true) (B:BlkSc X scope) (Dr:Draws X scope N ix) (hi:PI X tg iter wi)
  (hg:∀C s₀ H₀ ex ξ,PG ((X.block scope C s₀ H₀ ex N).wish ξ) tg g) (ht:∀C s₀ H₀ ex ξ,zBm ((X.block scope C s₀ H₀ ex N).wish ξ) (fun _=>E)->PTs ((X.block scope C s₀ H₀ ex N).wish ξ) ifs tt) (he:∀C s₀ H₀ ex ξ,zBm ((X.block scope C s₀ H₀ ex N).wish ξ) (fun _=>E)->PE ((X.block scope C s₀ H₀ ex N).wish ξ) elt te)
  (hN:X.N.Nodup) (hy:X.N[i]?=some y) (hl:X.env.scope.names.lookup y=some .local)
  (hsw:swapsWith (.ListComp elt [⟨tg,iter,ifs,0⟩] scope pos) (some (.Name y py)) spos.line X.env=pure true:=by rfl)
  (hs:∀x,foldedSetIterable iter X.env x=pure x:=by intro _;rfl):PS X (.Assign [.Name y py] (.ListComp elt [⟨tg,iter,ifs,0⟩] scope pos) spos) (tAsg (tComp wi ix g tt te) (gName i)):=by
 intro pins s σ H Dn I h
 rw [exec_Assign_Name_used _ _ _ _ hsw]
 refine wpAny_bind (wpAny_standAt (wpAny_bind ?_))
 show wpAny _ X.A (do let _<-comprehension (.ListComp elt [⟨tg,iter,ifs,0⟩] scope pos) scope X.env _ (newList []) false (eval iter X.env) (some (assign (.Name y py) X.env))) _ _ s
 refine wpAny_bind (thn (run_compX (use:=some (assign (.Name y py) X.env)) (Z:=fun _ s'=>SP X pins Dn .next s') hX hstk he0 hL hc B Dr hi hg ht he hs I h fun D C H' s' m I' q hn k CL Cc C0 Cp CX=>?_) fun _ s' hq=>wpAny_pure (wpAny_pure hq))
 show wpAny _ _ (assign (.Name y py) X.env (.ref D)) _ _ s'
 refine wpAny_assign_Name (zGt I' hN hy (.inl hl) (v:=.ref D) rfl (fun s'' I'' ⟨a,sb,ha⟩=>?_) (.inr hl))
 have aC:C≠a:=by
  rcases ha with z| z
  ·rw [z];exact CL
  ·exact (Cc _ _ z).symm
 exact ⟨m,hn.sameBut sb aC,fun h' hs'=>⟨_,H',I''.turned (t':=s''.toks) (fun b o hb e=>hs'.extBut b o hb e) C0 CL (.inr CX) Cc Cp,q⟩⟩
end L2
namespace My
open PySem L2
structure MkrF (P:Program) (w:World) (K:PySem.W.Frag) (mg:Str->Option Value) (base:Heap) (C:Addr) (x:Str) (k:Nat) (ps:List Str) (sp:Sp):Prop where
 to:∃(f:Addr) (fd:FuncData),Mk K C f/\mg x=some (.ref C)/\zC5 K fd ps []/\FnOk P w K mg base (CX1 P w) k f fd ps sp
def tMakeF (C:Addr) (sp:Sp) (E:St->XK) (t:TA):TE:=fun σ H Q=>t σ H fun vs H1=>∀x dx,H1 x=none->H1 dx=none->dx≠x->sp (.ref x::vs) (upd (upd H1 dx (.own x)) x (.ins C dx [])) (fun v H2=>v= .non/\Q (.ref x) H2) (E σ)
theorem pe_makeF {X:Cx} {C:Addr} {x:Str} {k:Nat} {ps:List Str} {sp:Sp} {E:St->XK} {e:Expr} {es:List Expr} {p pos:Pos} {t:TA} (M:MkrF X.prog X.w X.K X.mg X.base C x k ps sp) (hr:Room (k+1) X.A) (hg:Gl X x) (hp:zBm X E) (ha:PA X (e::es) t)
  (hdb:(x==("__debug__" : Str))=false:=by decide) (he:starEach (e::es) X.env=(false,eval e X.env)::starEach es X.env:=by rfl) (hpl:(backTo pos (starEach es X.env)).any (·.1)=false:=by rfl):PE X (.Call (.Name x p) (e::es) [] pos) (tMakeF C sp E t):=by
 obtain ⟨f,fd,h1,h2,h3,h4⟩:=M.to
 exact pe_makeX h1 h4 hr hg h2 h3 hp.at ha hdb he hpl
theorem zDs (sep p q:Str) (r:List Str):Txt.join sep (p::q::r)=p++sep++Txt.join sep (q::r):=by
 show Builtin.Str.glued sep (p::q::r)=p++sep++Builtin.Str.glued sep (q::r)
 rw [StrLaws.glued_eq_join,StrLaws.glued_eq_join];rfl
theorem zDq (x sep:Str):Txt.join sep (Txt.split x sep)=x:=by
 show Builtin.Str.glued sep (Txt.split x sep)=x
 rw [StrLaws.glued_eq_join];exact StrLaws.join_split x sep
theorem piece_le (sep:Str):∀(ps:List Str) (p:Str),p∈ps->p.length<=(Txt.join sep ps).length
 | [q],p,h=>by rw [List.mem_singleton.mp h];exact Nat.le_refl _
 | q::r::s,p,h=>by
  rw [zDs,zA5,zA5]
  rcases List.mem_cons.mp h with rfl| h
  ·omega
  ·have:=piece_le sep (r::s) p h
   omega
theorem split_le {x sep p:Str} (h:p∈Txt.split x sep):p.length<=x.length:=by
 have:=piece_le sep _ p h
 rwa [zDq] at this
theorem zGj {x sep:Str} (h:x≠Str.empty):Txt.split x sep≠[]:=fun z=>by
 have:=zDq x sep
 rw [z] at this
 exact h this.symm
def zEt (x:Str):Option (List Str×List (List Str)) :=
 if x=Str.empty then some ([],[]) else
 let ns:=Txt.split ((Txt.split x "; ").headD Str.empty) " "
 let ks:=((Txt.split x "; ").drop 1).map fun p=>Txt.split p " < "
 if ns.all zBh&&ks.all okO then some (ns,ks) else none
section
variable {P:Program} {w:World} {K:PySem.W.Frag} {mg:Str->Option Value} {base:Heap} {C CB CN CM CT CS CR:Addr}
structure Wants (C CM CT CS CR:Addr) (H:Hp) (Q:VK) (E:XK) (ns:List Str) (ks:List (List Str)):Prop where
 many:20<ns.length->∀H',Kp [] H H'->E (.ref CM) none H'
 twice:ns.length<=20->∀i n,TwAt ns i n->XN CT [] H n E
 strange:ns.length<=20->ns.Nodup->∀y,strg ns ks=some y->XN CS [] H y E
 good:∀qs,qs.map (·.1)=ks->GoodX ns qs->∀x J H',JobsAt C H' x J->J.ns=ns->(∀k,k∈J.zs.map (·.1)↔k∈ks)->(∃r:Str->Nat,∀q∈qs,r (fst q)<r (snd q))->Kp [] H H'->Q (.ref x) H'
 ring:∀qs,qs.map (·.1)=ks->GoodX ns qs->∀p dx rs H',RingOf (told qs) rs->(∀x∈rs,x∈ns)->Txs H' p rs->H' dx=some (.xd [("ring",.ref p)])->rs.length<=20->Kp [] H H'->E (.ref CR) (some dx) H'
def spReadY (C CN CM CT CS CR:Addr):Sp:=fun vs H Q E=>∃x:Str,vs=[.str x]/\x.length<=100000/\(Txt.split x "; ").length<=63/\(zEt x=none->∀H',Kp [] H H'->E (.ref CN) none H')/\∀ns ks,zEt x=some (ns,ks)->Wants C CM CT CS CR H Q E ns ks
abbrev zCc:Stmt:=top 37
theorem zCk:FnScope ["text", "parts", "names", "orders"] ["text"] (zAe zCc):=⟨rfl,rfl,rfl,by decide +kernel,rfl,by decide +kernel,by decide +kernel⟩
theorem Wants.make {H H4:Hp} {Q:VK} {E:XK} {ns:List Str} {qs:List (List Str×Addr)} {l m x dx:Addr} (W:Wants C CM CT CS CR H Q E ns (qs.map (·.1))) (kk:Kp [] H H4) (hl:Txs H4 l ns) (hm:Ords H4 m qs) (nm:∀n∈ns,zBa n) (np:∀q∈qs,∀x∈q.1,zBa x) (lq:qs.length<=63) (hx:H4 x=none) (hdx:H4 dx=none) :
  zFw C CM CT CS CR [.ref x,.ref l,.ref m] (upd (upd H4 dx (.own x)) x (.ins C dx [])) (fun v H2=>v= .non/\Q (.ref x) H2) E:=by
 have k5:Kp [] H4 (upd (upd H4 dx (.own x)) x (.ins C dx [])):=Kp.new (Kp.new Kp.refl hdx) hx
 have fx:Fre H x:=kk.fre hx (by simp)
 have back:∀{H'},Kp [x] (upd (upd H4 dx (.own x)) x (.ins C dx [])) H'->Kp [] H H':=fun {H'} k b o hb _=>k b o ((kk.trans k5) b o hb (by simp)) (nm1 (zAj hb fx))
 refine ⟨x,dx,l,m,ns,qs,rfl,upd_same,k5 _ _ hl (by simp),hm.kp k5 (by simp) (by simp),nm,np,lq,fun c H' k=>W.many c H' (back k),fun c i n t dx H' k=>W.twice c i n t dx H' (back k),fun c d y e dx H' k=>W.strange c d y e dx H' (back k),fun G=>⟨fun J H' A _ en hz rk k=>⟨rfl,W.good qs rfl G x J H' A en hz rk (back k)⟩,fun p dx rs H' R s h1 h2 l k=>W.ring qs rfl G p dx rs H' R s h1 h2 l (back k)⟩⟩
theorem ok_readY {f:Addr} {fd:FuncData} (F:Fun K "read_jobs" "read_jobs" zCc f fd) (T:Txt K mg) (C_read_names:CalX P w K mg base "read_names" 2 ["part", "between"] (zGk CN)) (C_read_order:CalX P w K mg base "read_order" 3 ["part"] (zIn CN)) (M_Jobs:MkrF P w K mg base C "Jobs" 6 ["self", "names", "orders"] (zFw C CM CT CS CR)):FnOk P w K mg base (CX1 P w) 8 f fd ["text"] (spReadY C CN CM CT CS CR):=by
 refine Fun.okX F zCk (fun vs H Q E h=>?_) (fun cdv A outer s H vs Q E hr h=>?_)
 ·obtain ⟨x,rfl,_⟩:=h
  rfl
 ·obtain ⟨x,rfl,lx,lp,kN,kW⟩:=h
  have hr2:=hr.mono (j:=2) (by decide)
  have hr3:=hr.mono (j:=3) (by decide)
  refine ⟨_,(zAc (zA2 (zC2 (zBi (zAf zCj (by rfl) T.z_isinstance zAh (zAa (pv 0) (zAa (zC3 (by rfl) T.z_str zIj (v:=.ty "str") rfl) zAb)))))
    (zAd zDz)
    zAm)
   (zAc (zA2 (zAr zEu (pv 0) zAo (zAt _))
    (zAd (zAq (pe_makeF (E:=fun _=>E) M_Jobs hr rfl (zHs fun _ _ _ _ h=>h) (zAa (zBo zAb) (zAa (zBo zAb) zAb)))))
    zAm)
   (zAc (zAn (i:=1) zCk.nd rfl (by walk_at "lc") (zDm PySem.F.plainAttrs_str PySem.F.slot_str_split PySem.F.type_str_split zEn (pv 0) (zAa zAo zAb)))
   (zAc (zAn (i:=2) zCk.nd rfl (by walk_at "lc") (zCw (E:=fun _=>E) C_read_names hr2 rfl (zHs fun _ _ _ _ h=>h) (zAa (zA9 zA1 (pv 1) zAg (fun _ _=>rfl)) (zAa zAo zAb))))
   (zAc (ps_compX (i:=3) (E:=E) (zHs fun _ _ _ _ h=>h) rfl rfl rfl rfl (zB4 (sc:=zAe zCc) rfl (by decide +kernel)) (Draws.own (x:= "part") Draws.nil) (zAx (zCg zIv (pv 1) (zDk zAg) zDl)) (fun C s₀ H₀ ex ξ=>(zAk (i:=0) (show List.Nodup (["part"]:List Str) by decide +kernel) rfl (by walk_at "lc"))) (fun C s₀ H₀ ex ξ _=>zB8) (fun C s₀ H₀ ex ξ p=>(zCw (E:=fun _=>E) C_read_order hr3 rfl p (zAa (pv 0) zAb))) zCk.nd rfl rfl)
   (zAd (zAq (pe_makeF (E:=fun _=>E) M_Jobs hr rfl (zHs fun _ _ _ _ h=>h) (zAa (pv 2) (zAa (pv 3) zAb)))))))))),?_⟩
  refine ⟨_,rfl,_,_,_,_,rfl,TyOf.str _,zDf,_,rfl,iteF ?_⟩
  refine ⟨_,rfl,rfl,_,rfl,ite2 (fun c=>?_) (fun c=>?_)⟩
  ·have e:x=Str.empty:=V.str.inj (of_decide_eq_true c)
   have W:=kW [] [] (by unfold zEt;rw [if_pos e])
   refine ⟨(by walk_at "ln"),fun l1 g1=>⟨(by walk_at "ln"),fun l2 g2=>fun x dx hx hdx ne=>?_⟩⟩
   have k1:Kp [] H (upd H l1 (.lst [])):=Kp.new Kp.refl g1
   have h1:upd H l1 (.lst []) l1=some (.lst []):=upd_same
   generalize upd H l1 (.lst [])=H1 at *
   have k2:Kp [] H1 (upd H1 l2 (.lst [])):=Kp.new Kp.refl g2
   have h2:upd H1 l2 (.lst []) l2=some (.lst []):=upd_same
   generalize upd H1 l2 (.lst [])=H2 at *
   exact Wants.make (qs:=[]) W (k1.trans k2) (k2 _ _ h1 (by simp)) ⟨h2,(fun q h=>nomatch h),(fun q h=>nomatch h)⟩ (fun n h=>nomatch h) (fun n h=>nomatch h) (Nat.zero_le _) hx hdx
  have nx:x≠Str.empty:=fun z=>c (decide_eq_true (by rw [z];rfl))
  have hp:zEt x=(if (Txt.split ((Txt.split x "; ").headD Str.empty) " ").all zBh&&(((Txt.split x "; ").drop 1).map fun p=>Txt.split p " < ").all okO then some (Txt.split ((Txt.split x "; ").headD Str.empty) " ",((Txt.split x "; ").drop 1).map fun p=>Txt.split p " < ") else none):=by
   unfold zEt
   rw [if_neg nx]
  refine ⟨_,rfl,rfl,_,_,rfl,rfl,(by decide),by omega,fun l1 g1=>?_⟩
  have sle:∀p∈Txt.split x "; ",p.length<=100000:=fun p hp=>Nat.le_trans (split_le hp) lx
  have sne:=zGj (sep:= "; ") nx
  generalize Txt.split x "; " = ps at *
  obtain ⟨p0,pr,rfl⟩:=List.exists_cons_of_ne_nil sne
  have k1:Kp [] H (upd H l1 (.lst ((p0::pr).map V.str))):=Kp.new Kp.refl g1
  have h1:upd H l1 (.lst ((p0::pr).map V.str)) l1=some (.lst ((p0::pr).map V.str)):=upd_same
  generalize upd H l1 (.lst ((p0::pr).map V.str))=H1 at k1 h1
  have hp:zEt x=(if (Txt.split p0 " ").all zBh&&(pr.map fun p=>Txt.split p " < ").all okO then some (Txt.split p0 " ",pr.map fun p=>Txt.split p " < ") else none):=hp
  have l0:=sle p0 List.mem_cons_self
  refine ⟨_,rfl,_,_,_,_,rfl,rfl,SqL.of h1,zA0 (by decide) rfl,p0,_,rfl,by decide,l0,fun n hn=>Nat.le_trans (split_le hn) (by omega),fun an l2 H2 g2 h2 k2=>?_,fun an H2 k2=>kN (by rw [hp,an];rfl) H2 (k1.trans k2)⟩
  refine ⟨_,rfl,_,rfl,_,_,rfl,SqL.of (k2 _ _ h1 (by simp)),fun l3 g3=>?_⟩
  rw [zJn _ (by decide)]
  have k3:Kp [] H2 (upd H2 l3 (.lst (pr.map V.str))):=Kp.new Kp.refl g3
  have h3:upd H2 l3 (.lst (pr.map V.str)) l3=some (.lst (pr.map V.str)):=upd_same
  have ed:List.drop (1:Int).toNat ((p0::pr).map V.str)=pr.map V.str:=rfl
  rw [ed]
  generalize upd H2 l3 (.lst (pr.map V.str))=H3 at k3 h3
  have lpr:pr.length<=63:=by have:(p0::pr).length<=63:=lp;rw [List.length_cons] at this;omega
  refine ⟨_,rfl,⟨_,SqL.of h3⟩,fun D hD=>zBl (pr.map V.str) (fun i ys τ H4=>∃ks:List (List Str×Addr),(∃o0,τ=[o0])/\ys=(ks.map fun q=>V.ref q.2)/\ks.map (·.1)=((pr.take i).map fun p=>Txt.split p " < ")/\(∀q∈ks,H4 q.2=some (.tup (q.1.map V.str)))/\(∀q∈ks,okO q.1=true)/\Kp [] H3 H4/\H4 D=some (.lst ys))
   ⟨[],⟨_,rfl⟩,rfl,rfl,(fun q h=>nomatch h),(fun q h=>nomatch h),Kp.new Kp.refl hD,upd_same⟩ (fun i ys τ H4 ⟨_,_,_,_,_,_,k4,_⟩=>SqL.of (k4 _ _ h3 (by simp))) ?_ ?_⟩
  ·rintro i v ys τ H4 hv ⟨ks,⟨o0,rfl⟩,rfl,ek,hk,ok,k4,h4⟩
   obtain ⟨n,en,rfl⟩:=zBn hv
   have mn:=List.mem_of_getElem? en
   have ln:=sle n (List.mem_cons_of_mem _ mn)
   have hlen:ks.length=(pr.take i).length:=by have:=congrArg List.length ek;simpa using this
   have kk:Kp [] H H4:=k1.trans (k2.trans (k3.trans k4))
   refine ⟨_,rfl,n,rfl,ln,fun m hm=>Nat.le_trans (split_le hm) (by omega),fun oo t H5 ft ht k5=>?_,fun oo H5 k5=>kN ?_ H5 (kk.trans k5)⟩
   ·have h5:=k5 _ _ h4 (by simp)
    have nDt:D≠t:=ne_fre ft h4
    refine ⟨h5,?_,ks++[(Txt.split n " < ",t)],⟨_,rfl⟩,?_,?_,fun q' hq'=>?_,fun q' hq'=>?_,?_,upd_same⟩
    ·rw [List.length_map,hlen,List.length_take,sizeLine_eq];omega
    ·rw [List.map_append];rfl
    ·rw [List.map_append,ek,zAl en,List.map_append];rfl
    ·rcases List.mem_append.mp hq' with z| z
     ·exact (upd_ne (zBd (k5 _ _ (hk q' z) (by simp)) h5 fun y=>nomatch y)).trans (k5 _ _ (hk q' z) (by simp))
     ·rw [List.mem_singleton.mp z]
      exact (upd_ne nDt.symm).trans ht
    ·rcases List.mem_append.mp hq' with z| z
     ·exact ok q' z
     ·rw [List.mem_singleton.mp z];exact oo
    ·exact fun b o hb nm=>(upd_ne (zAj hb hD)).trans ((k4.trans k5) b o hb nm)
   ·rw [hp,show ((pr.map fun p=>Txt.split p " < ").all okO)=false from ?_,Bool.and_false]
    ·rfl
    ·rw [Bool.eq_false_iff]
     intro z
     have:=List.all_eq_true.mp z _ (List.mem_map.mpr ⟨n,mn,rfl⟩)
     rw [oo] at this;cases this
  ·rintro ys τ H4 ⟨ks,⟨o0,rfl⟩,rfl,ek,hk,ok,k4,h4⟩
   rw [List.length_map,List.take_length] at ek
   have lk:ks.length<=63:=by have:=congrArg List.length ek;simp at this;omega
   have W:=kW (Txt.split p0 " ") (ks.map (·.1)) (by
    rw [hp,an,<-ek,show ((ks.map (·.1)).all okO)=true from ?_]
    ·rfl
    ·rw [List.all_eq_true]
     intro k hk
     obtain ⟨q,hq,rfl⟩:=List.mem_map.mp hk
     exact ok q hq)
   have two:∀q∈ks,(∃a b,q.1=[a,b])/\∀x∈q.1,zBa x:=fun q hq=>by
    have o:=ok q hq
    unfold okO at o
    rw [Bool.and_eq_true,decide_eq_true_eq] at o
    refine ⟨?_,fun x hx=>(zFq x).mp (List.all_eq_true.mp o.1 x hx)⟩
    match q.1,o.2 with
    | [a,b],_=>exact ⟨a,b,rfl⟩
   refine ⟨_,rfl,_,rfl,fun x dx hx hdx ne=>?_⟩
   exact Wants.make W (k1.trans (k2.trans (k3.trans k4))) ((k3.trans k4) _ _ h2 (by simp)) ⟨h4,hk,fun q hq=>(two q hq).1⟩ (fun n hn=>(zFq n).mp (List.all_eq_true.mp an n hn)) (fun q hq=>(two q hq).2) lk hx hdx
end
theorem mem_letters (c:Nat):decide (c∈zCd.cps.toList)=(decide (97<=c)&&decide (c<=122)):=by
 rw [zDe,Bool.eq_iff_iff,decide_eq_true_eq,Bool.and_eq_true,decide_eq_true_eq,decide_eq_true_eq,List.mem_map]
 constructor
 ·rintro ⟨a,ha,rfl⟩
  have:=List.mem_range.mp ha
  omega
 ·intro h
  exact ⟨c - 97,List.mem_range.mpr (by omega),by omega⟩
section
variable {P:Program} {w:World} {K:PySem.W.Frag} {mg:Str->Option Value} {base:Heap}
abbrev zEk:Stmt:=top 49
theorem sc_lis_name:FnScope ["_law_thing"] ["_law_thing"] (zAe zEk):=⟨rfl,rfl,rfl,by decide +kernel,rfl,by decide +kernel,by decide +kernel⟩
theorem ok_lis_name {f:Addr} {fd:FuncData} (F:Fun K "_law_is_name" "_law_is_name" zEk f fd) (T:Txt K mg):FnOk P w K mg base CX0 1 f fd ["_law_thing"] zEi:=by
 refine F.ok sc_lis_name (fun vs H Q E h=>?_) (fun cdv A outer s H vs Q E hr h=>?_)
 ·obtain ⟨x,rfl,_⟩:=h
  rfl
 ·obtain ⟨x,rfl,hx,k⟩:=h
  refine ⟨_,(zAd (zAq (pe_and (pe_chain op_le op_le zAg (zAf zDi (by rfl) T.z_len zBv (zAa (pv 0) zAb)) zAg) (zH9 (zAf (zD2 _ rfl) (by rfl) T.z_all zHk (zAa (zBz rfl (zB4 (sc:=zAe zEk) rfl (by decide +kernel)) (Draws.own (x:= "_law_sign") Draws.nil) (pi_str (pv 0)) (fun C s₀ H₀ ex=>(zAk (i:=0) (show List.Nodup (["_law_sign"]:List Str) by decide +kernel) rfl (by walk_at "lc"))) (fun C s₀ H₀ ex=>zB8) (fun C s₀ H₀ ex=>(zBg op_in_str (pv 0) zAo (by rfl)))) zAb)))))),?_⟩
  have hs:=sizeLine_eq
  refine ⟨_,rfl,_,rfl,by rw [hs];omega,_,_,rfl,rfl,_,rfl,ite2 (fun c=>?_) (fun c=>?_)⟩
  ·have c1:1<=x.length:=by
    have:=of_decide_eq_true c
    omega
   refine ⟨_,_,rfl,rfl,_,rfl,ite2 (fun c=>?_) (fun c=>?_)⟩
   ·have c2:x.length<=8:=by
     have:=of_decide_eq_true c
     omega
    refine ⟨_,rfl,_,rfl,fun D hD=>comp_str0 (z:=x) (fun i ys τ H'=>(∃o0,τ=[o0])/\ys=((x.cps.toList.take i).map fun c=>V.bl (decide (97<=c)&&decide (c<=122)))/\H'=upd H D (.lst ys)) ⟨⟨_,rfl⟩,rfl,rfl⟩ ?_ ?_⟩
    ·rintro i c ys τ H' hc ⟨⟨o0,rfl⟩,rfl,rfl⟩
     have ei:x.cps.toList.take (i+1)=x.cps.toList.take i++[c]:=by rw [List.take_succ,hc];rfl
     have hlen:x.cps.toList.length=x.length:=by simp [Str.length]
     refine ⟨_,rfl,_,_,rfl,rfl,upd_same,?_,⟨_,rfl⟩,?_,zDu⟩
     ·rw [List.length_map,List.length_take,hs];omega
     ·rw [ei,List.map_append]
      have e:(!(Builtin.Str.occurrences zCd ⟨#[c]⟩ 0 zCd.length 1).isEmpty)=(decide (97<=c)&&decide (c<=122)):=by rw [one_in,mem_letters]
      show _++[V.bl (!(Builtin.Str.occurrences zCd ⟨#[c]⟩ 0 zCd.length 1).isEmpty)]=_
      rw [e];rfl
    ·rintro ys τ H' ⟨_,rfl,rfl⟩
     refine ⟨D,x.cps.toList.map fun c=>(decide (97<=c)&&decide (c<=122)),rfl,SqL.of ?_,?_⟩
     ·rw [upd_same,List.map_map,List.take_of_length_le (by simp [Str.length])];rfl
     ·have e:zBh x=((x.cps.toList.map fun c=>(decide (97<=c)&&decide (c<=122))).all id):=by
       unfold zBh
       rw [decide_eq_true c1,decide_eq_true c2,List.all_map];rfl
      rw [<-e]
      exact k _ (Kp.new Kp.refl hD)
   ·have c2:¬(x.length<=8):=fun z=>c (decide_eq_true (by omega))
    have e:zBh x=false:=by
     unfold zBh
     rw [decide_eq_false c2];simp
    rw [<-e];exact k H Kp.refl
  ·have c1:¬(1<=x.length):=fun z=>c (decide_eq_true (by omega))
   have e:zBh x=false:=by
    unfold zBh
    rw [decide_eq_false c1];simp
   refine ⟨_,rfl,iteF ?_⟩
   rw [<-e];exact k H Kp.refl
end
theorem join_few {sep:Str} (h:1<=sep.length):∀ps:List Str,ps.length<=(Txt.join sep ps).length+1
 | []=>Nat.zero_le _
 | [p]=>by simp
 | p::q::r=>by
  have:=join_few h (q::r)
  rw [zDs,zA5,zA5,List.length_cons]
  omega
theorem zD3 {x sep:Str} (h:1<=sep.length):(Txt.split x sep).length<=x.length+1:=by
 have:=join_few h (Txt.split x sep)
 rwa [zDq] at this
def zF9 (H:Hp) (v:V):Option (List Str×List (List Str))->Prop
 | none=>v= .non
 | some (ns,ks)=>∃(t l m:Addr) (qs:List (List Str×Addr)),v= .ref t/\H t=some (.tup [.ref l,.ref m])/\Txs H l ns/\H m=some (.lst (qs.map fun q=>V.ref q.2))/\(∀q∈qs,H q.2=some (.tup (q.1.map V.str)))/\qs.map (·.1)=ks
theorem pe_bmK {X:Cx} {K:PySem.W.Frag} {o e:Expr} {es:List Expr} {name:Str} {T id:String} {apos cpos:Pos} {to:TE} {t:TA} {r:V->List V->Hp->VK->Prop} (pa:PlainAttrs T) (slot:Slot T name id) (hty:typeOf (.builtin id)=pure (.type "method_descriptor")) (hm:MtR X id r) (ho:PE X o to) (ha:PA X (e::es) t) (hK:X.K=K:=by rfl)
  (hbase:attributeBase o name X.env (eval o X.env)=eval o X.env:=by rfl)
  (hfew:((backTo cpos (starEach (e::es) X.env)).all (fun x=>!x.1)&&(backToKw cpos (keywordEach [] X.env)).all (fun x=>x.1.isSome)
   &&decide ((e::es).length+([]:List Keyword).length+(if ([]:List Keyword).isEmpty then 0 else 1)<30))=true:=by rfl)
  (hline:(apos.endLine==cpos.line)=true:=by rfl) (hs:starEach (e::es) X.env=(false,eval e X.env)::starEach es X.env:=by rfl) (hplain:(backTo cpos (starEach es X.env)).any (·.1)=false:=by rfl) :
  PE X (.Call (.Attribute o name apos) (e::es) [] cpos) (tBM K T r to t):=by
 subst hK;exact zDm pa slot hty hm ho ha hbase hfew hline hs hplain
theorem zHw {X:Cx} {K:PySem.W.Frag} (hK:X.K=K:=by rfl):zCr X (.type "tuple") (fun xs H Q=>∃p ys,xs=[.ref p]/\((SqL K H p ys/\∀l,H l=none->Q (.ref l) (upd H l (.tup ys)))\/(SqT K H p ys/\Q (.ref p) H))):=by subst hK;exact zJp
section
variable {P:Program} {w:World} {K:PySem.W.Frag} {mg:Str->Option Value} {base:Heap}
def spParts:Sp:=fun vs H Q _=>∃x:Str,vs=[.str x]/\x.length<=100000/\∀v H',Kp [] H H'->zF9 H' v (zEt x)->Q v H'
abbrev zFz:Stmt:=top 50
theorem zFg:FnScope ["_law_text_here", "_law_pieces", "_law_names_here", "_law_orders", "_law_order"] ["_law_text_here"] (zAe zFz):=⟨rfl,rfl,rfl,by decide +kernel,rfl,by decide +kernel,by decide +kernel⟩
theorem ok_parts {f:Addr} {fd:FuncData} (F:Fun K "_law_parts" "_law_parts" zFz f fd) (T:Txt K mg) (C_is_name:Cal P w K mg base "_law_is_name" 1 ["_law_thing"] zEi):FnOk P w K mg base CX0 2 f fd ["_law_text_here"] spParts:=by
 refine F.ok zFg (fun vs H Q E h=>?_) (fun cdv A outer s H vs Q E hr h=>?_)
 ·obtain ⟨x,rfl,_⟩:=h
  rfl
 ·obtain ⟨x,rfl,lx,k⟩:=h
  refine ⟨_,(zAc (zA2 (zAr zEu (pv 0) zAo (zAt _))
    (zAd (zAq (zB9 (zAa (zBo zAb) (zAa (zBo zAb) zAb)))))
    zAm)
   (zAc (zAn (i:=1) zFg.nd rfl (by walk_at "lc") (zDm PySem.F.plainAttrs_str PySem.F.slot_str_split PySem.F.type_str_split zEn (pv 0) (zAa zAo zAb)))
   (zAc (zAn (i:=2) zFg.nd rfl (by walk_at "lc") (zDm PySem.F.plainAttrs_str PySem.F.slot_str_split PySem.F.type_str_split zEn (zA9 zA1 (pv 1) zAg (fun _ _=>rfl)) (zAa zAo zAb)))
   (zAc (zI1 (i:=3) rfl (zB4 (sc:=zAe zFz) rfl (by decide +kernel)) (Draws.own (x:= "_law_piece") Draws.nil) (zAx (zCg zIv (pv 1) (zDk zAg) zDl)) (fun C s₀ H₀ ex=>(zAk (i:=0) (show List.Nodup (["_law_piece"]:List Str) by decide +kernel) rfl (by walk_at "lc"))) (fun C s₀ H₀ ex=>zB8) (fun C s₀ H₀ ex=>(zAy (zHw (K:=K)) (by rfl) T.z_tuple bo_tuple (zAa (pe_bmK (K:=K) PySem.F.plainAttrs_str PySem.F.slot_str_split PySem.F.type_str_split zEn (pv 0) (zAa zAo zAb)) zAb))) zFg.nd rfl rfl)
   (zAc (zA2 (zC2 (zBi (zAf (zD2 _ rfl) (by rfl) T.z_all zHk (zAa (zBz rfl (zB4 (sc:=zAe zFz) rfl (by decide +kernel)) (Draws.own (x:= "_law_name") Draws.nil) (zAx (pv 2)) (fun C s₀ H₀ ex=>(zAk (i:=0) (show List.Nodup (["_law_name"]:List Str) by decide +kernel) rfl (by walk_at "lc"))) (fun C s₀ H₀ ex=>zB8) (fun C s₀ H₀ ex=>(zAi C_is_name hr rfl (zAa (pv 0) zAb)))) zAb))))
    (zAd (zAq zEa))
    zAm)
   (zAc (zBb PassesOwn.never rfl (zAx (pv 3)) (zAk (i:=4) zFg.nd rfl (by walk_at "lc"))
    (zAd (zA2 (PW.pt (pw_or (zAr op_ne (zAf zAp (by rfl) T.z_len zBv (zAa (pv 4) zAb)) zAg (zAt _)) (pw_or1 (zC2 (zBi (zAf (zD2 _ rfl) (by rfl) T.z_all zHk (zAa (zBz rfl (zB4 (sc:=zAe zFz) rfl (by decide +kernel)) (Draws.own (x:= "_law_part") Draws.nil) (pi_tup (pv 4)) (fun C s₀ H₀ ex=>(zAk (i:=0) (show List.Nodup (["_law_part"]:List Str) by decide +kernel) rfl (by walk_at "lc"))) (fun C s₀ H₀ ex=>zB8) (fun C s₀ H₀ ex=>(zAi C_is_name hr rfl (zAa (pv 0) zAb)))) zAb)))))))
     (zAd (zAq zEa))
     zAm)))
   (zAd (zAq (zB9 (zAa (pv 2) (zAa (pv 3) zAb))))))))))),?_⟩
  have hs:=sizeLine_eq
  refine ⟨_,rfl,rfl,_,rfl,ite2 (fun c=>?_) (fun c=>?_)⟩
  ·have e:x=Str.empty:=V.str.inj (of_decide_eq_true c)
   refine ⟨(by walk_at "ln"),fun l1 g1=>⟨(by walk_at "ln"),fun l2 g2=>⟨(by walk_at "ln"),fun t gt=>?_⟩⟩⟩
   have k1:Kp [] H (upd H l1 (.lst [])):=Kp.new Kp.refl g1
   have h1:upd H l1 (.lst []) l1=some (.lst []):=upd_same
   generalize upd H l1 (.lst [])=H1 at *
   have k2:Kp [] H1 (upd H1 l2 (.lst [])):=Kp.new Kp.refl g2
   have h2:upd H1 l2 (.lst []) l2=some (.lst []):=upd_same
   generalize upd H1 l2 (.lst [])=H2 at *
   have k3:Kp [] H2 (upd H2 t (.tup [.ref l1,.ref l2])):=Kp.new Kp.refl gt
   refine k _ _ (k1.trans (k2.trans k3)) ?_
   rw [show zEt x=some ([],[]) by unfold zEt;rw [if_pos e]]
   exact ⟨t,l1,l2,[],rfl,upd_same,(k2.trans k3) _ _ h1 (by simp),k3 _ _ h2 (by simp),(fun q h=>nomatch h),rfl⟩
  have nx:x≠Str.empty:=fun z=>c (decide_eq_true (by rw [z];rfl))
  have hp:zEt x=(if (Txt.split ((Txt.split x "; ").headD Str.empty) " ").all zBh&&(((Txt.split x "; ").drop 1).map fun p=>Txt.split p " < ").all okO then some (Txt.split ((Txt.split x "; ").headD Str.empty) " ",((Txt.split x "; ").drop 1).map fun p=>Txt.split p " < ") else none):=by
   unfold zEt
   rw [if_neg nx]
  refine ⟨_,rfl,rfl,_,_,rfl,rfl,(by decide),by omega,fun l1 g1=>?_⟩
  have sle:∀p∈Txt.split x "; ",p.length<=100000:=fun p hp=>Nat.le_trans (split_le hp) lx
  have sfw:(Txt.split x "; ").length<=100001:=Nat.le_trans (zD3 (by decide)) (by omega)
  have sne:=zGj (sep:= "; ") nx
  generalize Txt.split x "; " = ps at *
  obtain ⟨p0,pr,rfl⟩:=List.exists_cons_of_ne_nil sne
  have k1:Kp [] H (upd H l1 (.lst ((p0::pr).map V.str))):=Kp.new Kp.refl g1
  have h1:upd H l1 (.lst ((p0::pr).map V.str)) l1=some (.lst ((p0::pr).map V.str)):=upd_same
  generalize upd H l1 (.lst ((p0::pr).map V.str))=H1 at k1 h1
  have hp:zEt x=(if (Txt.split p0 " ").all zBh&&(pr.map fun p=>Txt.split p " < ").all okO then some (Txt.split p0 " ",pr.map fun p=>Txt.split p " < ") else none):=hp
  have l0:=sle p0 List.mem_cons_self
  have lpr:pr.length<=100001:=by rw [List.length_cons] at sfw;omega
  have nle:∀n∈Txt.split p0 " ",n.length<=1000000:=fun n hn=>Nat.le_trans (split_le hn) (by omega)
  have nfw:(Txt.split p0 " ").length<=100001:=Nat.le_trans (zD3 (by decide)) (by omega)
  refine ⟨_,rfl,_,_,_,_,rfl,rfl,SqL.of h1,zA0 (by decide) rfl,rfl,_,_,rfl,rfl,by decide,by omega,fun l2 g2=>?_⟩
  generalize Txt.split p0 " " = ns at *
  have k2:Kp [] H1 (upd H1 l2 (.lst (ns.map V.str))):=Kp.new Kp.refl g2
  have h2:upd H1 l2 (.lst (ns.map V.str)) l2=some (.lst (ns.map V.str)):=upd_same
  generalize upd H1 l2 (.lst (ns.map V.str))=H2 at k2 h2
  refine ⟨_,rfl,_,rfl,_,_,rfl,SqL.of (k2 _ _ h1 (by simp)),fun l3 g3=>?_⟩
  rw [zJn _ (by decide)]
  have k3:Kp [] H2 (upd H2 l3 (.lst (pr.map V.str))):=Kp.new Kp.refl g3
  have h3:upd H2 l3 (.lst (pr.map V.str)) l3=some (.lst (pr.map V.str)):=upd_same
  have ed:List.drop (1:Int).toNat ((p0::pr).map V.str)=pr.map V.str:=rfl
  rw [ed]
  generalize upd H2 l3 (.lst (pr.map V.str))=H3 at k3 h3
  refine ⟨_,rfl,⟨_,SqL.of h3⟩,fun D hD=>zBl (pr.map V.str) (fun i ys τ H4=>∃ks:List (List Str×Addr),(∃o0,τ=[o0])/\ys=(ks.map fun q=>V.ref q.2)/\ks.map (·.1)=((pr.take i).map fun p=>Txt.split p " < ")/\(∀q∈ks,H4 q.2=some (.tup (q.1.map V.str)))/\Kp [] H3 H4/\H4 D=some (.lst ys))
   ⟨[],⟨_,rfl⟩,rfl,rfl,(fun q h=>nomatch h),Kp.new Kp.refl hD,upd_same⟩ (fun i ys τ H4 ⟨_,_,_,_,_,k4,_⟩=>SqL.of (k4 _ _ h3 (by simp))) ?_ ?_⟩
  ·rintro i v ys τ H4 hv ⟨ks,⟨o0,rfl⟩,rfl,ek,hk,k4,h4⟩
   obtain ⟨n,en,rfl⟩:=zBn hv
   have mn:=List.mem_of_getElem? en
   have ln:=sle n (List.mem_cons_of_mem _ mn)
   have hlen:ks.length=(pr.take i).length:=by have:=congrArg List.length ek;simpa using this
   refine ⟨_,rfl,rfl,_,_,rfl,rfl,by decide,by omega,fun l5 g5=>?_⟩
   refine ⟨l5,_,rfl,.inl ⟨SqL.of upd_same,fun t gt=>?_⟩⟩
   have k5:Kp [] H4 (upd H4 l5 (.lst ((Txt.split n " < ").map V.str))):=Kp.new Kp.refl g5
   have f5:Fre H4 t:=k5.fre gt (by simp)
   have k6:Kp [] H4 (upd (upd H4 l5 (.lst ((Txt.split n " < ").map V.str))) t (.tup ((Txt.split n " < ").map V.str))):=Kp.new k5 f5
   have h6:upd (upd H4 l5 (.lst ((Txt.split n " < ").map V.str))) t (.tup ((Txt.split n " < ").map V.str)) t=some (.tup ((Txt.split n " < ").map V.str)):=upd_same
   generalize upd (upd H4 l5 (.lst ((Txt.split n " < ").map V.str))) t (.tup ((Txt.split n " < ").map V.str))=H6 at k6 h6
   have h46:=k6 _ _ h4 (by simp)
   have nDt:D≠t:=ne_fre f5 h4
   refine ⟨h46,?_,ks++[(Txt.split n " < ",t)],⟨_,rfl⟩,?_,?_,fun q' hq'=>?_,?_,upd_same⟩
   ·rw [List.length_map,hlen,List.length_take,hs];omega
   ·rw [List.map_append];rfl
   ·rw [List.map_append,ek,zAl en,List.map_append];rfl
   ·rcases List.mem_append.mp hq' with z| z
    ·exact (upd_ne (zBd (k6 _ _ (hk q' z) (by simp)) h46 fun y=>nomatch y)).trans (k6 _ _ (hk q' z) (by simp))
    ·rw [List.mem_singleton.mp z]
     exact (upd_ne nDt.symm).trans h6
   ·exact fun b o hb nm=>(upd_ne (zAj hb hD)).trans ((k4.trans k6) b o hb nm)
  ·rintro ys τ H4 ⟨ks,⟨o0,rfl⟩,rfl,ek,hk,k4,h4⟩
   rw [List.length_map,List.take_length] at ek
   have lk:ks.length<=100001:=by have:=congrArg List.length ek;simp at this;omega
   have h24:=(k3.trans k4) _ _ h2 (by simp)
   have k14:Kp [] H H4:=k1.trans (k2.trans (k3.trans k4))
   refine ⟨_,rfl,_,rfl,⟨_,SqL.of h24⟩,fun B hB=>zBl (ns.map V.str) (fun i ys τ H5=>(∃o0,τ=[o0])/\ys=((ns.take i).map fun n=>V.bl (zBh n))/\Kp [] H4 H5/\H5 B=some (.lst ys)) ⟨⟨_,rfl⟩,rfl,Kp.new Kp.refl hB,upd_same⟩ (fun i ys τ H5 ⟨_,_,k5,_⟩=>SqL.of (k5 _ _ h24 (by simp))) ?_ ?_⟩
   ·rintro i v ys τ H5 hv ⟨⟨o0,rfl⟩,rfl,k5,h5⟩
    obtain ⟨n,en,rfl⟩:=zBn hv
    refine ⟨_,rfl,n,rfl,nle n (List.mem_of_getElem? en),fun H6 k6=>⟨k6 _ _ h5 (by simp),?_,⟨_,rfl⟩,?_,?_,upd_same⟩⟩
    ·rw [List.length_map,List.length_take,hs];omega
    ·rw [zAl en,List.map_append];rfl
    ·exact fun b o hb nm=>(upd_ne (zAj hb hB)).trans ((k5.trans k6) b o hb nm)
   ·rintro ys τ H5 ⟨_,rfl,k5,h5⟩
    rw [List.length_map,List.take_length] at h5
    refine ⟨B,ns.map zBh,rfl,SqL.of (by rw [h5,List.map_map];rfl),?_⟩
    rw [show (ns.map zBh).all id=ns.all zBh by rw [List.all_map];rfl]
    refine ⟨_,rfl,?_⟩
    cases an:ns.all zBh with
    | false=>exact iteT (k _ _ (k14.trans k5) (by rw [hp,an];rfl))
    | true =>
     refine iteF ?_
     have h45:=k5 _ _ h4 (by simp)
     refine ⟨_,rfl,_,rfl,⟨_,SqL.of h45⟩,zBk (fun i σ H6=>(∃o4:Option V,σ=[some (.str x),some (.ref l1),some (.ref l2),some (.ref D),o4])/\Kp [] H5 H6/\((ks.take i).map (·.1)).all okO=true) ⟨⟨_,rfl⟩,Kp.refl,rfl⟩ (fun i σ H6 _ ⟨_,k6,_⟩=>SqL.of (k6 _ _ h45 (by simp))) ?_ ?_⟩
     ·rintro i v σ H6 hv ⟨⟨o4,rfl⟩,k6,a6⟩
      obtain ⟨q,eq,rfl⟩:=zEw hv
      have mq:=List.mem_of_getElem? eq
      have row6:=(k5.trans k6) _ _ (hk q mq) (by simp)
      have bad:okO q.1=false->zEt x=none:=fun z=>by
       rw [hp,an,show ((pr.map fun p=>Txt.split p " < ").all okO)=false from ?_]
       ·rfl
       ·rw [<-ek,Bool.eq_false_iff]
        intro y
        have:=List.all_eq_true.mp y q.1 (List.mem_map.mpr ⟨q,mq,rfl⟩)
        rw [z] at this;cases this
      obtain ⟨pp,hpp,epp⟩:∃p∈pr,Txt.split p " < " = q.1:=by
       have:q.1∈ks.map (·.1):=List.mem_map.mpr ⟨q,mq,rfl⟩
       rw [ek] at this
       exact List.mem_map.mp this
      have qle:∀n∈q.1,n.length<=1000000:=fun n hn=>by
       rw [<-epp] at hn
       have:=split_le hn
       have:=sle pp (List.mem_cons_of_mem _ hpp)
       omega
      have qfw:q.1.length<=100001:=by
       rw [<-epp]
       have:=zD3 (x:=pp) (sep:= " < ") (by decide)
       have:=sle pp (List.mem_cons_of_mem _ hpp)
       omega
      refine ⟨_,rfl,q.2,_,rfl,.inr (.inl (.inl row6)),rfl,_,rfl,?_⟩
      rw [List.length_map]
      by_cases c2:q.1.length=2
      ·rw [show (!decide (V.int ((q.1.length:Nat):Int)=V.int 2))=false by rw [c2];rfl]
       refine iteF ?_
       refine ⟨_,rfl,_,rfl,⟨_,.inl (.inl row6)⟩,fun B2 hB2=>comp_tup0 (q.1.map V.str) (fun i ys τ H7=>(∃o0,τ=[o0])/\ys=((q.1.take i).map fun n=>V.bl (zBh n))/\Kp [] H6 H7/\H7 B2=some (.lst ys)) ⟨⟨_,rfl⟩,rfl,Kp.new Kp.refl hB2,upd_same⟩ (fun i ys τ H7 ⟨_,_,k7,_⟩=>.inl (.inl (k7 _ _ row6 (by simp)))) ?_ ?_⟩
       ·rintro j v ys τ H7 hv ⟨⟨o0,rfl⟩,rfl,k7,h7⟩
        obtain ⟨n,en,rfl⟩:=zBn hv
        refine ⟨_,rfl,n,rfl,qle n (List.mem_of_getElem? en),fun H8 k8=>⟨k8 _ _ h7 (by simp),?_,⟨_,rfl⟩,?_,?_,upd_same⟩⟩
        ·rw [List.length_map,List.length_take,hs];omega
        ·rw [zAl en,List.map_append];rfl
        ·exact fun b o hb nm=>(upd_ne (zAj hb hB2)).trans ((k7.trans k8) b o hb nm)
       ·rintro ys τ H7 ⟨_,rfl,k7,h7⟩
        rw [List.length_map,List.take_length] at h7
        refine ⟨B2,q.1.map zBh,rfl,SqL.of (by rw [h7,List.map_map];rfl),?_⟩
        rw [show (q.1.map zBh).all id=q.1.all zBh by rw [List.all_map];rfl]
        refine ⟨_,rfl,?_⟩
        have oe:okO q.1=q.1.all zBh:=by unfold okO;rw [decide_eq_true c2,Bool.and_true]
        cases aq:q.1.all zBh with
        | false=>exact iteT (k _ _ (k14.trans (k5.trans (k6.trans k7))) (by rw [bad (oe.trans aq)];rfl))
        | true =>
         refine iteF ⟨⟨_,rfl⟩,k6.trans k7,?_⟩
         rw [zAl eq,List.map_append,List.all_append,a6]
         simp [oe,aq]
      ·rw [show (!decide (V.int ((q.1.length:Nat):Int)=V.int 2))=true by rw [decide_eq_false (fun z=>c2 (by have:=V.int.inj z;omega))];rfl]
       exact iteT (k _ _ (k14.trans (k5.trans k6)) (by rw [bad (by unfold okO;rw [decide_eq_false c2,Bool.and_false])];rfl))
     ·rintro σ H6 ⟨⟨o4,rfl⟩,k6,a6⟩
      rw [List.length_map,List.take_length,ek] at a6
      refine ⟨_,rfl,_,rfl,(by walk_at "ln"),fun t gt=>?_⟩
      have k7:Kp [] H6 (upd H6 t (.tup [.ref l2,.ref D])):=Kp.new Kp.refl gt
      refine k _ _ (k14.trans (k5.trans (k6.trans k7))) ?_
      rw [hp,an,a6]
      exact ⟨t,l2,D,ks,rfl,upd_same,(k5.trans (k6.trans k7)) _ _ h24 (by simp),(k5.trans (k6.trans k7)) _ _ h4 (by simp),fun q hq=>(k5.trans (k6.trans k7)) _ _ (hk q hq) (by simp),ek⟩
end
def Dt (H:Hp) (v:V) (s:Str) (u:V):Prop:=∃t,v= .ref t/\H t=some (.tup [.str s,u])
def atoms (ks:List (List Str)):List (List Str×Addr):=ks.map fun k=>(k,0)
theorem zEy {qs:List (List Str×Addr)} {ks:List (List Str)} (e:qs.map (·.1)=ks) (L:List Str):∀k,zBs qs k L=zBs (atoms ks) k L
 | 0=>rfl
 | k+1=>by
  have hb:∀M n,hasB qs M n=hasB (atoms ks) M n:=fun M n=>by
   unfold hasB atoms
   rw [<-e,List.map_map,List.any_map];rfl
  show strip qs (zBs qs k L)=strip (atoms ks) (zBs (atoms ks) k L)
  rw [zEy e L k]
  unfold strip
  exact List.filter_congr fun n _=>hb _ n
def DueAt (H:Hp) (v:V):Option (List Str×List (List Str))->Prop
 | none=>Dt H v "text" .non
 | some (ns,ks)=>(20<ns.length/\Dt H v "many" .non)\/(ns.length<=20/\∃i n,TwAt ns i n/\Dt H v "twice" (.str n))\/(ns.length<=20/\ns.Nodup/\∃y,strg ns ks=some y/\Dt H v "stranger" (.str y)) \/
  (ns.length<=20/\ns.Nodup/\strg ns ks=none/\((zBs (atoms ks) ns.length ns≠[]/\Dt H v "ring" .non)\/(zBs (atoms ks) ns.length ns=[]/\v= .non)))
theorem pair_at {k:List Str} (h:okO k=true):∃a b,k=[a,b]:=by
 unfold okO at h
 rw [Bool.and_eq_true,decide_eq_true_eq] at h
 match k,h.2 with
 | [a,b],_=>exact ⟨a,b,rfl⟩
section
variable {P:Program} {w:World} {K:PySem.W.Frag} {mg:Str->Option Value} {base:Heap}
def spDue:Sp:=fun vs H Q _=>∃(v:V) (o:Option (List Str×List (List Str))),vs=[v]/\zF9 H v o/\(∀ns ks,o=some (ns,ks)->ns.length<=100001/\ks.length<=63/\∀k∈ks,okO k=true)/\∀u H',Kp [] H H'->DueAt H' u o->Q u H'
abbrev s_due:Stmt:=top 52
theorem zH6:FnScope ["_law_parts_here", "_law_names_here", "_law_orders", "_law_k", "_law_order", "_law_part"] ["_law_parts_here"] (zAe s_due):=⟨rfl,rfl,rfl,by decide +kernel,rfl,by decide +kernel,by decide +kernel⟩
theorem ok_due {f:Addr} {fd:FuncData} (F:Fun K "_law_due" "_law_due" s_due f fd) (T:Txt K mg) (C_goes_round:Cal P w K mg base "_law_goes_round" 1 ["_law_names_here", "_law_orders"] zGv):FnOk P w K mg base CX0 2 f fd ["_law_parts_here"] spDue:=by
 refine F.ok zH6 (fun vs H Q E h=>?_) (fun cdv A outer s H vs Q E hr h=>?_)
 ·obtain ⟨v,o,rfl,_⟩:=h
  rfl
 ·obtain ⟨v,o,rfl,pa,hb,k⟩:=h
  refine ⟨_,(zAc (zA2 (zAr op_isN (pv 0) zEa (zAt _))
    (zAd (zAq (zB9 (zAa zAo (zAa zEa zAb)))))
    zAm)
   (zAc (ps_asg (pv 0) (pg_tup rfl (zA8 (zAk (i:=1) zH6.nd rfl (by walk_at "lc")) (zA8 (zAk (i:=2) zH6.nd rfl (by walk_at "lc")) zD9))))
   (zAc (zA2 (zAr op_gt (zAf zAp (by rfl) T.z_len zBv (zAa (pv 1) zAb)) zAg (zAt _))
    (zAd (zAq (zB9 (zAa zAo (zAa zEa zAb)))))
    zAm)
   (zAc (zBb PassesOwn.never rfl (zBj rfl T.z_range (zAa (zAf zAp (by rfl) T.z_len zBv (zAa (pv 1) zAb)) zAb)) (zAk (i:=3) zH6.nd rfl (by walk_at "lc"))
    (zAd (zA2 (zAr zEb (zA9 zA1 (pv 1) (pv 3) (fun _ _=>rfl)) (zCg zIv (pv 1) zDl (zDk (pv 3))) (by rfl))
     (zAd (zAq (zB9 (zAa zAo (zAa (zA9 zA1 (pv 1) (pv 3) (fun _ _=>rfl)) zAb)))))
     zAm)))
   (zAc (zBb PassesOwn.never rfl (zAx (pv 2)) (zAk (i:=4) zH6.nd rfl (by walk_at "lc"))
    (zAd (zBb PassesOwn.never rfl (pi_tup (pv 4)) (zAk (i:=5) zH6.nd rfl (by walk_at "lc"))
     (zAd (zA2 (zAr zDd (pv 5) (pv 1) (by rfl))
      (zAd (zAq (zB9 (zAa zAo (zAa (pv 5) zAb)))))
      zAm)))))
   (zAc (zA2 (zBi (zAi C_goes_round hr rfl (zAa (pv 1) (zAa (pv 2) zAb))))
    (zAd (zAq (zB9 (zAa zAo (zAa zEa zAb)))))
    zAm)
   (zAd (zAq zEa)))))))),?_⟩
  have hs:=sizeLine_eq
  cases o with
  | none =>
   cases (show v= .non from pa)
   refine ⟨_,rfl,rfl,_,rfl,iteT ?_⟩
   exact ⟨(by walk_at "ln"),fun t gt=>k _ _ (Kp.new Kp.refl gt) ⟨t,rfl,upd_same⟩⟩
  | some o =>
   obtain ⟨ns,ks⟩:=o
   obtain ⟨lns,lks,oks⟩:=hb ns ks rfl
   obtain ⟨t,l,m,qs,rfl,ht,hl,hm,hrow,ek⟩:=pa
   have O:Ords H m qs:=⟨hm,hrow,fun q hq=>pair_at (oks q.1 (by rw [<-ek];exact List.mem_map.mpr ⟨q,hq,rfl⟩))⟩
   have lqs:qs.length<=63:=by have:=congrArg List.length ek;simp at this;omega
   have kd:∀(u:V) (H':Hp),Kp [] H H'->DueAt H' u (some (ns,ks))->Q u H':=k
   refine ⟨_,rfl,rfl,_,rfl,iteF ?_⟩
   refine ⟨_,rfl,_,_,rfl,.inl (.inl ht),rfl,_,_,rfl,_,_,rfl,rfl,?_⟩
   refine ⟨_,rfl,_,_,rfl,.inl (SqL.of hl),_,_,rfl,rfl,_,rfl,ite2 (fun c=>?_) (fun c=>?_)⟩
   ·have c:20<ns.length:=by have:=of_decide_eq_true c;rw [List.length_map] at this;omega
    exact ⟨(by walk_at "ln"),fun t gt=>kd _ _ (Kp.new Kp.refl gt) (.inl ⟨c,t,rfl,upd_same⟩)⟩
   have c:ns.length<=20:=by
    rcases Nat.lt_or_ge 20 ns.length with z| z
    ·exact absurd (decide_eq_true (by rw [List.length_map];omega)) c
    ·exact z
   refine ⟨_,rfl,_,_,rfl,.inl (SqL.of hl),?_⟩
   rw [List.length_map]
   refine ⟨_,rfl,by omega,by omega,zBu (lo:=0) (n:=(ns.length:Int).toNat) (fun i σ H2=>(∃o3 o4 o5:Option V,σ=[some (.ref t),some (.ref l),some (.ref m),o3,o4,o5])/\Kp [] H H2/\(ns.take i).Nodup) ⟨⟨_,_,_,rfl⟩,Kp.refl,by simp⟩ ?_ ?_⟩
   ·rintro i σ H2 hi ⟨⟨o3,o4,o5,rfl⟩,k2,nd⟩
    have hi:i<ns.length:=by omega
    have en:ns[i]?=some ns[i]:=List.getElem?_eq_getElem hi
    have hl2:=k2 _ _ hl (by simp)
    have ai:atI (ns.map V.str) (0+(i:Int))=some (.str ns[i]):=zA0 (by omega) (by rw [show (0+(i:Int)).toNat=i by omega,List.getElem?_map,en];rfl)
    refine ⟨_,rfl,_,rfl,_,_,_,_,rfl,rfl,SqL.of hl2,ai,_,rfl,_,rfl,_,rfl,_,_,rfl,SqL.of hl2,fun b gb=>?_⟩
    rw [cut_to _ (by omega),show (0+(i:Int)).toNat=i by omega,<-List.map_take]
    have k3:Kp [] H2 (upd H2 b (.lst ((ns.take i).map V.str))):=Kp.new Kp.refl gb
    refine ⟨b,_,rfl,.inl (SqL.of upd_same),rfl,zCm _,_,rfl,?_⟩
    generalize upd H2 b (.lst ((ns.take i).map V.str))=H3 at k3
    have hl3:=k3 _ _ hl2 (by simp)
    rw [show (if false=true then !inV (V.str ns[i]) ((ns.take i).map V.str) else inV (V.str ns[i]) ((ns.take i).map V.str))=decide (ns[i]∈ns.take i) from zEd _ _]
    refine ite2 (fun c2=>?_) (fun c2=>?_)
    ·have c2:=of_decide_eq_true c2
     refine ⟨_,rfl,_,rfl,_,_,_,_,rfl,rfl,SqL.of hl3,ai,(by walk_at "ln"),fun t gt=>?_⟩
     exact kd _ _ (Kp.new (k2.trans k3) ((k2.trans k3).fre gt (by simp))) (.inr (.inl ⟨c,i,ns[i],⟨en,c2,nd⟩,t,rfl,upd_same⟩))
    ·have c2:ns[i]∉ns.take i:=fun z=>c2 (decide_eq_true z)
     refine ⟨⟨_,_,_,rfl⟩,k2.trans k3,?_⟩
     rw [zAl en]
     exact List.nodup_append.mpr ⟨nd,by simp,fun x hx y hy=>by rw [List.mem_singleton.mp hy];exact fun z=>c2 (z▸hx)⟩
   ·rintro σ H2 ⟨⟨o3,o4,o5,rfl⟩,k2,nd⟩
    rw [Int.toNat_natCast,List.take_length] at nd
    have O2:=O.kp k2 (by simp) (by simp)
    have hl2:=k2 _ _ hl (by simp)
    refine ⟨_,rfl,_,rfl,⟨_,SqL.of O2.top⟩,zBk (fun i σ H3=>(∃o3 o4 o5:Option V,σ=[some (.ref t),some (.ref l),some (.ref m),o3,o4,o5])/\H3=H2/\∀k∈(qs.map (·.1)).take i,∀x∈k,x∈ns) ⟨⟨_,_,_,rfl⟩,rfl,by simp⟩ (fun i σ H3 _ ⟨_,e,_⟩=>by subst e;exact SqL.of O2.top) ?_ ?_⟩
    ·rintro i v σ H3 hv ⟨⟨o3,o4,o5,rfl⟩,rfl,a2⟩
     obtain ⟨q,eq,rfl⟩:=zEw hv
     have mq:=List.mem_of_getElem? eq
     have ekq:(qs.map (·.1))[i]?=some q.1:=by rw [List.getElem?_map,eq];rfl
     refine ⟨_,rfl,_,rfl,⟨_,.inl (.inl (O2.row q mq))⟩,for_tup (fun j σ H4=>(∃o3 o5:Option V,σ=[some (.ref t),some (.ref l),some (.ref m),o3,some (.ref q.2),o5])/\H4=H3/\∀x∈q.1.take j,x∈ns) ⟨⟨_,_,rfl⟩,rfl,by simp⟩ (fun j σ H4 _ ⟨_,e,_⟩=>by subst e;exact .inl (.inl (O2.row q mq))) ?_ ?_⟩
     ·rintro j v σ H4 hv ⟨⟨o3,o5,rfl⟩,rfl,a3⟩
      obtain ⟨x,ex,rfl⟩:=zBn hv
      refine ⟨_,rfl,_,rfl,l,_,rfl,.inl (SqL.of hl2),rfl,zCm _,_,rfl,?_⟩
      rw [show (if true=true then !inV (V.str x) (ns.map V.str) else inV (V.str x) (ns.map V.str))= !decide (x∈ns) by rw [<-zEd];rfl]
      by_cases cx:x∈ns
      ·rw [decide_eq_true cx]
       refine iteF ⟨⟨_,_,rfl⟩,rfl,fun y hy=>?_⟩
       rw [zAl ex] at hy
       rcases List.mem_append.mp hy with z| z
       ·exact a3 y z
       ·rw [List.mem_singleton.mp z];exact cx
      ·rw [decide_eq_false cx]
       refine iteT ⟨_,rfl,(by walk_at "ln"),fun t gt=>?_⟩
       have es:=strg_at ekq ex a2 a3 cx
       rw [ek] at es
       exact kd _ _ (Kp.new k2 (k2.fre gt (by simp))) (.inr (.inr (.inl ⟨c,nd,x,es,t,rfl,upd_same⟩)))
     ·rintro σ H4 ⟨⟨o3,o5,rfl⟩,rfl,a3⟩
      rw [List.length_map,List.take_length] at a3
      refine ⟨⟨_,_,_,rfl⟩,rfl,fun k hk x hx=>?_⟩
      rw [zAl ekq] at hk
      rcases List.mem_append.mp hk with z| z
      ·exact a2 k z x hx
      ·rw [List.mem_singleton.mp z] at hx;exact a3 x hx
    ·rintro σ H3 ⟨⟨o3,o4,o5,rfl⟩,rfl,a2⟩
     rw [List.length_map,<-List.length_map (f:=fun q:List Str×Addr=>q.1),List.take_length] at a2
     have sn:strg ns ks=none:=by rw [<-ek];exact zFd a2
     refine ⟨_,rfl,_,rfl,l,m,ns,qs,rfl,hl2,O2,c,lqs,fun H4 k4=>⟨_,rfl,?_⟩⟩
     rw [zEy ek]
     cases es:zBs (atoms ks) ns.length ns with
     | nil=>exact iteF (kd _ _ (k2.trans k4) (.inr (.inr (.inr ⟨c,nd,sn,.inr ⟨es,rfl⟩⟩))))
     | cons a r =>
      refine iteT ⟨(by walk_at "ln"),fun t gt=>?_⟩
      exact kd _ _ (Kp.new (k2.trans k4) ((k2.trans k4).fre gt (by simp))) (.inr (.inr (.inr ⟨c,nd,sn,.inl ⟨by rw [es];simp,t,rfl,upd_same⟩⟩)))
end
structure PAI (X:Cx) (es:List Expr) (t:TA):Prop where
 to:PA X es t
theorem zF3 {X:Cx}:PAI X [] tNil:=⟨zAb⟩
theorem zBq {X:Cx} {e:Expr} {es:List Expr} {te:TE} {t:TA} (ha:PE X e te) (hr:PAI X es t) (hs:notStar e=true:=by rfl):PAI X (e::es) (tCons te t):=⟨zAa ha hr.to (star_cons hs)⟩
theorem zF2 {X:Cx} {es:List Expr} {t:TA} {pos:Pos} (h:PAI X es t):PE X (.List es pos) (tLst t):=zBo h.to
def zBp:List Str:=["name", "twice", "stranger", "ring", "many", "text", "bench", "row", "wood", "end", "job", "window", "length", "paper", "turns", "line", "other"]
theorem bo_VE:bootBuiltins "ValueError" = some (.type "ValueError"):=by decide +kernel
structure KM (mg:Str->Option Value) (d:Nat->Addr):Prop where
 m0:mg "NoName" = some (.ref (d 0))
 m1:mg "Twice" = some (.ref (d 1))
 m2:mg "Stranger" = some (.ref (d 2))
 m3:mg "Ring" = some (.ref (d 3))
 m4:mg "TooMany" = some (.ref (d 4))
 m5:mg "NoText" = some (.ref (d 5))
 m6:mg "NoBench" = some (.ref (d 6))
 m7:mg "NoRow" = some (.ref (d 7))
 m8:mg "NoWood" = some (.ref (d 8))
 m9:mg "NoEnd" = some (.ref (d 9))
 m10:mg "NoJob" = some (.ref (d 10))
 m11:mg "NoWindow" = some (.ref (d 11))
 m12:mg "NoLength" = some (.ref (d 12))
 m13:mg "NoPaper" = some (.ref (d 13))
 m14:mg "NoTurns" = some (.ref (d 14))
 m15:mg "NoLine" = some (.ref (d 15))
 zv:mg "ValueError" = none
structure KF (K:PySem.W.Frag) (d:Nat->Addr) (C:Addr) (j:Nat):Prop where
 kit:zIh K C=true
 one:∀i,i<16->PySem.W.kitOne K (.ref C) (.ref (d i))=some (decide (i=j))
 ve:PySem.W.kitOne K (.ref C) (.type "ValueError")=some true
section
variable {P:Program} {w:World} {K:PySem.W.Frag} {mg:Str->Option Value} {base:Heap}
def spKinds (K:PySem.W.Frag) (d:Nat->Addr):Sp:=fun vs H Q _=>∃(a C:Addr) (dd:Option Addr) (j:Nat),vs=[.ref a]/\H a=some (excD a C dd)/\KF K d C j/\j<16/\∀l H',Kp [] H H'->H' l=some (.lst [.str (zBp.getD j "")])->Q (.ref l) H'
abbrev zIz:Stmt:=top 47
theorem zDw:FnScope ["_law_e", "_law_some", "_law_words"] ["_law_e"] (zAe zIz):=⟨rfl,rfl,rfl,by decide +kernel,rfl,by decide +kernel,by decide +kernel⟩
set_option maxHeartbeats 0 in
theorem ok_kinds {d:Nat->Addr} {f:Addr} {fd:FuncData} (F:Fun K "_law_kinds" "_law_kinds" zIz f fd) (T:Txt K mg) (M:KM mg d):FnOk P w K mg base CX0 1 f fd ["_law_e"] (spKinds K d):=by
 refine F.ok zDw (fun vs H Q E h=>?_) (fun cdv A outer s H vs Q E hr h=>?_)
 ·obtain ⟨a,C,dd,j,rfl,_⟩:=h
  rfl
 ·obtain ⟨a,C,dd,j,rfl,ha,kf,hj,k⟩:=h
  refine ⟨_,(@zAc _ _ _ _ _ (@zAn _ _ 1 _ _ _ _ (by exact zDw.nd) (by rfl) (by walk_at "lc") (@zF2 _ _ _ _ (zBq (by exact (zAf zA6 (by rfl) T.z_isinstance zAh (zAa (pv 0) (zAa (zA4 rfl M.m0 (v:=.ref (d 0)) rfl) zAb)))) (zBq (by exact (zAf zA6 (by rfl) T.z_isinstance zAh (zAa (pv 0) (zAa (zA4 rfl M.m1 (v:=.ref (d 1)) rfl) zAb)))) (zBq (by exact (zAf zA6 (by rfl) T.z_isinstance zAh (zAa (pv 0) (zAa (zA4 rfl M.m2 (v:=.ref (d 2)) rfl) zAb)))) (zBq (by exact (zAf zA6 (by rfl) T.z_isinstance zAh (zAa (pv 0) (zAa (zA4 rfl M.m3 (v:=.ref (d 3)) rfl) zAb)))) zF3))))) (by rfl) (by first| exact Or.inl rfl| exact Or.inr rfl))
   (@zAc _ _ _ _ _ (@zAn _ _ 1 _ _ _ _ (by exact zDw.nd) (by rfl) (by walk_at "lc") (@zAs _ _ _ _ _ _ _ _ op_cat (by exact (pv 1)) (@zF2 _ _ _ _ (zBq (by exact (zAf zA6 (by rfl) T.z_isinstance zAh (zAa (pv 0) (zAa (zA4 rfl M.m4 (v:=.ref (d 4)) rfl) zAb)))) (zBq (by exact (zAf zA6 (by rfl) T.z_isinstance zAh (zAa (pv 0) (zAa (zA4 rfl M.m5 (v:=.ref (d 5)) rfl) zAb)))) (zBq (by exact (zAf zA6 (by rfl) T.z_isinstance zAh (zAa (pv 0) (zAa (zA4 rfl M.m6 (v:=.ref (d 6)) rfl) zAb)))) (zBq (by exact (zAf zA6 (by rfl) T.z_isinstance zAh (zAa (pv 0) (zAa (zA4 rfl M.m7 (v:=.ref (d 7)) rfl) zAb)))) zF3)))))) (by rfl) (by first| exact Or.inl rfl| exact Or.inr rfl))
   (@zAc _ _ _ _ _ (@zAn _ _ 1 _ _ _ _ (by exact zDw.nd) (by rfl) (by walk_at "lc") (@zAs _ _ _ _ _ _ _ _ op_cat (by exact (pv 1)) (@zF2 _ _ _ _ (zBq (by exact (zAf zA6 (by rfl) T.z_isinstance zAh (zAa (pv 0) (zAa (zA4 rfl M.m8 (v:=.ref (d 8)) rfl) zAb)))) (zBq (by exact (zAf zA6 (by rfl) T.z_isinstance zAh (zAa (pv 0) (zAa (zA4 rfl M.m9 (v:=.ref (d 9)) rfl) zAb)))) (zBq (by exact (zAf zA6 (by rfl) T.z_isinstance zAh (zAa (pv 0) (zAa (zA4 rfl M.m10 (v:=.ref (d 10)) rfl) zAb)))) (zBq (by exact (zAf zA6 (by rfl) T.z_isinstance zAh (zAa (pv 0) (zAa (zA4 rfl M.m11 (v:=.ref (d 11)) rfl) zAb)))) zF3)))))) (by rfl) (by first| exact Or.inl rfl| exact Or.inr rfl))
   (@zAc _ _ _ _ _ (@zAn _ _ 1 _ _ _ _ (by exact zDw.nd) (by rfl) (by walk_at "lc") (@zAs _ _ _ _ _ _ _ _ op_cat (by exact (pv 1)) (@zF2 _ _ _ _ (zBq (by exact (zAf zA6 (by rfl) T.z_isinstance zAh (zAa (pv 0) (zAa (zA4 rfl M.m12 (v:=.ref (d 12)) rfl) zAb)))) (zBq (by exact (zAf zA6 (by rfl) T.z_isinstance zAh (zAa (pv 0) (zAa (zA4 rfl M.m13 (v:=.ref (d 13)) rfl) zAb)))) (zBq (by exact (zAf zA6 (by rfl) T.z_isinstance zAh (zAa (pv 0) (zAa (zA4 rfl M.m14 (v:=.ref (d 14)) rfl) zAb)))) (zBq (by exact (zAf zA6 (by rfl) T.z_isinstance zAh (zAa (pv 0) (zAa (zA4 rfl M.m15 (v:=.ref (d 15)) rfl) zAb)))) zF3)))))) (by rfl) (by first| exact Or.inl rfl| exact Or.inr rfl))
   (@zAc _ _ _ _ _ (by exact (zA3 (zDm PySem.F.plainAttrs_list PySem.F.slot_list_append PySem.F.type_list_append zC4 (pv 1) (zAa (pe_not (zAf call_isXB (by rfl) T.z_isinstance zAh (zAa (pv 0) (zAa (zC3 (by rfl) M.zv bo_VE (v:=.ty "ValueError") rfl) zAb)))) zAb))))
   (@zAc _ _ _ _ _ (@zAn _ _ 2 _ _ _ _ (by exact zDw.nd) (by rfl) (by walk_at "lc") (@zF2 _ _ _ _ (zBq zAo (zBq zAo (zBq zAo (zBq zAo (zBq zAo (zBq zAo (zBq zAo (zBq zAo (zBq zAo (zBq zAo (zBq zAo (zBq zAo zF3))))))))))))) (by rfl) (by first| exact Or.inl rfl| exact Or.inr rfl))
   (@zAc _ _ _ _ _ (@zAn _ _ 2 _ _ _ _ (by exact zDw.nd) (by rfl) (by walk_at "lc") (@zAs _ _ _ _ _ _ _ _ op_cat (by exact (pv 2)) (@zF2 _ _ _ _ (zBq zAo (zBq zAo (zBq zAo (zBq zAo (zBq zAo zF3))))))) (by rfl) (by first| exact Or.inl rfl| exact Or.inr rfl))
   (by exact (zAd (zAq (zBz rfl (zB4 (sc:=zAe zIz) rfl (by decide +kernel)) (Draws.own (x:= "_law_k") (Draws.tk (i:=2) rfl (by walk_at "vs") (by walk_at "vk") (by walk_at "vf") (Draws.tk (i:=1) rfl (by walk_at "vs") (by walk_at "vk") (by walk_at "vf") Draws.nil))) (zBj rfl T.z_range (zAa zAg zAb)) (fun C s₀ H₀ ex=>(zAk (i:=0) (show List.Nodup (["_law_k", "_law_words", "_law_some"]:List Str) by decide +kernel) rfl (by walk_at "lc"))) (fun C s₀ H₀ ex=>(zF1 (zBi (zA9 (zCh (K:=K)) (pv 2) (pv 0) (fun _ _=>rfl))))) (fun C s₀ H₀ ex=>(zA9 (zCh (K:=K)) (pv 1) (pv 0) (fun _ _=>rfl)))))))))))))),?_⟩
  have hs:=sizeLine_eq
  refine ⟨_,rfl,a,C,dd,d 0,_,rfl,ha,kf.kit,kf.one 0 (by decide),_,rfl,a,C,dd,d 1,_,rfl,ha,kf.kit,kf.one 1 (by decide),_,rfl,a,C,dd,d 2,_,rfl,ha,kf.kit,kf.one 2 (by decide),_,rfl,a,C,dd,d 3,_,rfl,ha,kf.kit,kf.one 3 (by decide),(by walk_at "ln"),fun l1 g1=>?_⟩
  have k1:Kp [] H (upd H l1 (.lst [.bl (decide (0=j)),.bl (decide (1=j)),.bl (decide (2=j)),.bl (decide (3=j))])):=Kp.new Kp.refl g1
  have h1:upd H l1 (.lst [.bl (decide (0=j)),.bl (decide (1=j)),.bl (decide (2=j)),.bl (decide (3=j))]) l1=some (.lst [.bl (decide (0=j)),.bl (decide (1=j)),.bl (decide (2=j)),.bl (decide (3=j))]):=upd_same
  generalize upd H l1 (.lst [.bl (decide (0=j)),.bl (decide (1=j)),.bl (decide (2=j)),.bl (decide (3=j))])=H1 at k1 h1
  have e1:=k1 _ _ ha (by simp)
  refine ⟨_,rfl,_,rfl,a,C,dd,d 4,_,rfl,e1,kf.kit,kf.one 4 (by decide),_,rfl,a,C,dd,d 5,_,rfl,e1,kf.kit,kf.one 5 (by decide),_,rfl,a,C,dd,d 6,_,rfl,e1,kf.kit,kf.one 6 (by decide),_,rfl,a,C,dd,d 7,_,rfl,e1,kf.kit,kf.one 7 (by decide),(by walk_at "ln"),fun b4 gb4=>?_⟩
  have kb4:Kp [] H1 (upd H1 b4 (.lst [.bl (decide (4=j)),.bl (decide (5=j)),.bl (decide (6=j)),.bl (decide (7=j))])):=Kp.new Kp.refl gb4
  have hb4:upd H1 b4 (.lst [.bl (decide (4=j)),.bl (decide (5=j)),.bl (decide (6=j)),.bl (decide (7=j))]) b4=some (.lst [.bl (decide (4=j)),.bl (decide (5=j)),.bl (decide (6=j)),.bl (decide (7=j))]):=upd_same
  have pb4:=kb4 _ _ h1 (by simp)
  generalize upd H1 b4 (.lst [.bl (decide (4=j)),.bl (decide (5=j)),.bl (decide (6=j)),.bl (decide (7=j))])=Hb4 at kb4 hb4 pb4
  refine ⟨_,_,_,_,rfl,rfl,pb4,hb4,(by walk_at "ln"),fun l4 gl4=>?_⟩
  have kl4:Kp [] Hb4 (upd Hb4 l4 (.lst [.bl (decide (0=j)),.bl (decide (1=j)),.bl (decide (2=j)),.bl (decide (3=j)),.bl (decide (4=j)),.bl (decide (5=j)),.bl (decide (6=j)),.bl (decide (7=j))])):=Kp.new Kp.refl gl4
  have hl4:upd Hb4 l4 (.lst [.bl (decide (0=j)),.bl (decide (1=j)),.bl (decide (2=j)),.bl (decide (3=j)),.bl (decide (4=j)),.bl (decide (5=j)),.bl (decide (6=j)),.bl (decide (7=j))]) l4=some (.lst [.bl (decide (0=j)),.bl (decide (1=j)),.bl (decide (2=j)),.bl (decide (3=j)),.bl (decide (4=j)),.bl (decide (5=j)),.bl (decide (6=j)),.bl (decide (7=j))]):=upd_same
  show L2.tSeq _ _ _ _ (upd Hb4 l4 (.lst [.bl (decide (0=j)),.bl (decide (1=j)),.bl (decide (2=j)),.bl (decide (3=j)),.bl (decide (4=j)),.bl (decide (5=j)),.bl (decide (6=j)),.bl (decide (7=j))]))
  generalize upd Hb4 l4 (.lst [.bl (decide (0=j)),.bl (decide (1=j)),.bl (decide (2=j)),.bl (decide (3=j)),.bl (decide (4=j)),.bl (decide (5=j)),.bl (decide (6=j)),.bl (decide (7=j))])=Hl4 at kl4 hl4 ⊢
  have el4:=(kb4.trans kl4) _ _ e1 (by simp)
  refine ⟨_,rfl,_,rfl,a,C,dd,d 8,_,rfl,el4,kf.kit,kf.one 8 (by decide),_,rfl,a,C,dd,d 9,_,rfl,el4,kf.kit,kf.one 9 (by decide),_,rfl,a,C,dd,d 10,_,rfl,el4,kf.kit,kf.one 10 (by decide),_,rfl,a,C,dd,d 11,_,rfl,el4,kf.kit,kf.one 11 (by decide),(by walk_at "ln"),fun b8 gb8=>?_⟩
  have kb8:Kp [] Hl4 (upd Hl4 b8 (.lst [.bl (decide (8=j)),.bl (decide (9=j)),.bl (decide (10=j)),.bl (decide (11=j))])):=Kp.new Kp.refl gb8
  have hb8:upd Hl4 b8 (.lst [.bl (decide (8=j)),.bl (decide (9=j)),.bl (decide (10=j)),.bl (decide (11=j))]) b8=some (.lst [.bl (decide (8=j)),.bl (decide (9=j)),.bl (decide (10=j)),.bl (decide (11=j))]):=upd_same
  have pb8:=kb8 _ _ hl4 (by simp)
  generalize upd Hl4 b8 (.lst [.bl (decide (8=j)),.bl (decide (9=j)),.bl (decide (10=j)),.bl (decide (11=j))])=Hb8 at kb8 hb8 pb8
  refine ⟨_,_,_,_,rfl,rfl,pb8,hb8,(by walk_at "ln"),fun l8 gl8=>?_⟩
  have kl8:Kp [] Hb8 (upd Hb8 l8 (.lst [.bl (decide (0=j)),.bl (decide (1=j)),.bl (decide (2=j)),.bl (decide (3=j)),.bl (decide (4=j)),.bl (decide (5=j)),.bl (decide (6=j)),.bl (decide (7=j)),.bl (decide (8=j)),.bl (decide (9=j)),.bl (decide (10=j)),.bl (decide (11=j))])):=Kp.new Kp.refl gl8
  have hl8:upd Hb8 l8 (.lst [.bl (decide (0=j)),.bl (decide (1=j)),.bl (decide (2=j)),.bl (decide (3=j)),.bl (decide (4=j)),.bl (decide (5=j)),.bl (decide (6=j)),.bl (decide (7=j)),.bl (decide (8=j)),.bl (decide (9=j)),.bl (decide (10=j)),.bl (decide (11=j))]) l8=some (.lst [.bl (decide (0=j)),.bl (decide (1=j)),.bl (decide (2=j)),.bl (decide (3=j)),.bl (decide (4=j)),.bl (decide (5=j)),.bl (decide (6=j)),.bl (decide (7=j)),.bl (decide (8=j)),.bl (decide (9=j)),.bl (decide (10=j)),.bl (decide (11=j))]):=upd_same
  show L2.tSeq _ _ _ _ (upd Hb8 l8 (.lst [.bl (decide (0=j)),.bl (decide (1=j)),.bl (decide (2=j)),.bl (decide (3=j)),.bl (decide (4=j)),.bl (decide (5=j)),.bl (decide (6=j)),.bl (decide (7=j)),.bl (decide (8=j)),.bl (decide (9=j)),.bl (decide (10=j)),.bl (decide (11=j))]))
  generalize upd Hb8 l8 (.lst [.bl (decide (0=j)),.bl (decide (1=j)),.bl (decide (2=j)),.bl (decide (3=j)),.bl (decide (4=j)),.bl (decide (5=j)),.bl (decide (6=j)),.bl (decide (7=j)),.bl (decide (8=j)),.bl (decide (9=j)),.bl (decide (10=j)),.bl (decide (11=j))])=Hl8 at kl8 hl8 ⊢
  have el8:=(kb8.trans kl8) _ _ el4 (by simp)
  refine ⟨_,rfl,_,rfl,a,C,dd,d 12,_,rfl,el8,kf.kit,kf.one 12 (by decide),_,rfl,a,C,dd,d 13,_,rfl,el8,kf.kit,kf.one 13 (by decide),_,rfl,a,C,dd,d 14,_,rfl,el8,kf.kit,kf.one 14 (by decide),_,rfl,a,C,dd,d 15,_,rfl,el8,kf.kit,kf.one 15 (by decide),(by walk_at "ln"),fun b12 gb12=>?_⟩
  have kb12:Kp [] Hl8 (upd Hl8 b12 (.lst [.bl (decide (12=j)),.bl (decide (13=j)),.bl (decide (14=j)),.bl (decide (15=j))])):=Kp.new Kp.refl gb12
  have hb12:upd Hl8 b12 (.lst [.bl (decide (12=j)),.bl (decide (13=j)),.bl (decide (14=j)),.bl (decide (15=j))]) b12=some (.lst [.bl (decide (12=j)),.bl (decide (13=j)),.bl (decide (14=j)),.bl (decide (15=j))]):=upd_same
  have pb12:=kb12 _ _ hl8 (by simp)
  generalize upd Hl8 b12 (.lst [.bl (decide (12=j)),.bl (decide (13=j)),.bl (decide (14=j)),.bl (decide (15=j))])=Hb12 at kb12 hb12 pb12
  refine ⟨_,_,_,_,rfl,rfl,pb12,hb12,(by walk_at "ln"),fun l12 gl12=>?_⟩
  have kl12:Kp [] Hb12 (upd Hb12 l12 (.lst [.bl (decide (0=j)),.bl (decide (1=j)),.bl (decide (2=j)),.bl (decide (3=j)),.bl (decide (4=j)),.bl (decide (5=j)),.bl (decide (6=j)),.bl (decide (7=j)),.bl (decide (8=j)),.bl (decide (9=j)),.bl (decide (10=j)),.bl (decide (11=j)),.bl (decide (12=j)),.bl (decide (13=j)),.bl (decide (14=j)),.bl (decide (15=j))])):=Kp.new Kp.refl gl12
  have hl12:upd Hb12 l12 (.lst [.bl (decide (0=j)),.bl (decide (1=j)),.bl (decide (2=j)),.bl (decide (3=j)),.bl (decide (4=j)),.bl (decide (5=j)),.bl (decide (6=j)),.bl (decide (7=j)),.bl (decide (8=j)),.bl (decide (9=j)),.bl (decide (10=j)),.bl (decide (11=j)),.bl (decide (12=j)),.bl (decide (13=j)),.bl (decide (14=j)),.bl (decide (15=j))]) l12=some (.lst [.bl (decide (0=j)),.bl (decide (1=j)),.bl (decide (2=j)),.bl (decide (3=j)),.bl (decide (4=j)),.bl (decide (5=j)),.bl (decide (6=j)),.bl (decide (7=j)),.bl (decide (8=j)),.bl (decide (9=j)),.bl (decide (10=j)),.bl (decide (11=j)),.bl (decide (12=j)),.bl (decide (13=j)),.bl (decide (14=j)),.bl (decide (15=j))]):=upd_same
  show L2.tSeq _ _ _ _ (upd Hb12 l12 (.lst [.bl (decide (0=j)),.bl (decide (1=j)),.bl (decide (2=j)),.bl (decide (3=j)),.bl (decide (4=j)),.bl (decide (5=j)),.bl (decide (6=j)),.bl (decide (7=j)),.bl (decide (8=j)),.bl (decide (9=j)),.bl (decide (10=j)),.bl (decide (11=j)),.bl (decide (12=j)),.bl (decide (13=j)),.bl (decide (14=j)),.bl (decide (15=j))]))
  generalize upd Hb12 l12 (.lst [.bl (decide (0=j)),.bl (decide (1=j)),.bl (decide (2=j)),.bl (decide (3=j)),.bl (decide (4=j)),.bl (decide (5=j)),.bl (decide (6=j)),.bl (decide (7=j)),.bl (decide (8=j)),.bl (decide (9=j)),.bl (decide (10=j)),.bl (decide (11=j)),.bl (decide (12=j)),.bl (decide (13=j)),.bl (decide (14=j)),.bl (decide (15=j))])=Hl12 at kl12 hl12 ⊢
  have el12:=(kb12.trans kl12) _ _ el8 (by simp)
  refine ⟨_,rfl,.inl ⟨rfl,_,SqL.of hl12⟩,_,rfl,a,C,dd, "ValueError",true,rfl,el12,kf.kit,kf.ve,_,rfl,_,_,_,rfl,rfl,hl12,(by walk_at "ln"),?_⟩
  have k13:Kp [l12] Hl12 (upd Hl12 l12 (.lst ((List.range 17).map fun i=>V.bl (decide (i=j))))):=Kp.put Kp.refl (by simp)
  have h13:upd Hl12 l12 (.lst ((List.range 17).map fun i=>V.bl (decide (i=j)))) l12=some (.lst ((List.range 17).map fun i=>V.bl (decide (i=j)))):=upd_same
  have ee:([.bl (decide (0=j)),.bl (decide (1=j)),.bl (decide (2=j)),.bl (decide (3=j)),.bl (decide (4=j)),.bl (decide (5=j)),.bl (decide (6=j)),.bl (decide (7=j)),.bl (decide (8=j)),.bl (decide (9=j)),.bl (decide (10=j)),.bl (decide (11=j)),.bl (decide (12=j)),.bl (decide (13=j)),.bl (decide (14=j)),.bl (decide (15=j))]++[V.bl (!true)]:List V)=(List.range 17).map fun i=>V.bl (decide (i=j)):=by
   have:decide (16=j)=false:=decide_eq_false (by omega)
   show _=[V.bl (decide (0=j)),V.bl (decide (1=j)),V.bl (decide (2=j)),V.bl (decide (3=j)),V.bl (decide (4=j)),V.bl (decide (5=j)),V.bl (decide (6=j)),V.bl (decide (7=j)),V.bl (decide (8=j)),V.bl (decide (9=j)),V.bl (decide (10=j)),V.bl (decide (11=j)),V.bl (decide (12=j)),V.bl (decide (13=j)),V.bl (decide (14=j)),V.bl (decide (15=j)),V.bl (decide (16=j))]
   rw [this];rfl
  rw [ee]
  have fl:Fre H l12:=((k1.trans (kb4.trans kl4)).trans ((kb8.trans kl8).trans kb12)).fre gl12 (by simp)
  have k0:Kp [] H Hl12:=(k1.trans (kb4.trans kl4)).trans ((kb8.trans kl8).trans (kb12.trans kl12))
  generalize upd Hl12 l12 (.lst ((List.range 17).map fun i=>V.bl (decide (i=j))))=H13 at k13 h13 ⊢
  have k013:Kp [] H H13:=fun b o hb _=>k13 b o (k0 b o hb (by simp)) (nm1 (zAj hb fl))
  refine ⟨(by walk_at "ln"),fun w1 q1=>?_⟩
  have k14:Kp [] H13 (upd H13 w1 (.lst ((zBp.take 12).map V.str))):=Kp.new Kp.refl q1
  have h14:upd H13 w1 (.lst ((zBp.take 12).map V.str)) w1=some (.lst ((zBp.take 12).map V.str)):=upd_same
  show L2.tSeq _ _ _ _ (upd H13 w1 (.lst ((zBp.take 12).map V.str)))
  generalize upd H13 w1 (.lst ((zBp.take 12).map V.str))=H14 at k14 h14 ⊢
  refine ⟨_,rfl,(by walk_at "ln"),fun w2 q2=>?_⟩
  have k15:Kp [] H14 (upd H14 w2 (.lst [V.str "length",V.str "paper",V.str "turns",V.str "line",V.str "other"])):=Kp.new Kp.refl q2
  have h15:upd H14 w2 (.lst [V.str "length",V.str "paper",V.str "turns",V.str "line",V.str "other"]) w2=some (.lst [V.str "length",V.str "paper",V.str "turns",V.str "line",V.str "other"]):=upd_same
  have h14':=k15 _ _ h14 (by simp)
  refine ⟨w1,w2,(zBp.take 12).map V.str,(zBp.drop 12).map V.str,rfl,rfl,h14',h15,by rw [hs];decide,fun w3 q3=>?_⟩
  have k16:Kp [] (upd H14 w2 (.lst [V.str "length",V.str "paper",V.str "turns",V.str "line",V.str "other"])) (upd (upd H14 w2 (.lst [V.str "length",V.str "paper",V.str "turns",V.str "line",V.str "other"])) w3 (.lst (zBp.map V.str))):=Kp.new Kp.refl q3
  have h16:upd (upd H14 w2 (.lst [V.str "length",V.str "paper",V.str "turns",V.str "line",V.str "other"])) w3 (.lst (zBp.map V.str)) w3=some (.lst (zBp.map V.str)):=upd_same
  rw [<-List.map_append,List.take_append_drop]
  generalize upd (upd H14 w2 (.lst [V.str "length",V.str "paper",V.str "turns",V.str "line",V.str "other"])) w3 (.lst (zBp.map V.str))=H16 at k16 h16 ⊢
  have hS:=(k14.trans (k15.trans k16)) _ _ h13 (by simp)
  have k016:=k013.trans (k14.trans (k15.trans k16))
  refine ⟨_,rfl,(by decide),(by decide),fun D hD=>zIi (lo:=0) (n:=17) (fun i ys τ H'=>(∃o0,τ=[o0,some (.ref w3),some (.ref l12)])/\ys=(if j<i then [V.str (zBp.getD j "")] else [])/\H'=upd H16 D (.lst ys)) ⟨⟨_,rfl⟩,by simp,rfl⟩ ?_ ?_⟩
  ·rintro i ys τ H' hi ⟨⟨o0,rfl⟩,rfl,rfl⟩
   have hS':=(upd_ne (o:=.lst (if j<i then [V.str (zBp.getD j "")] else [])) (ne_fre (show Fre H16 D from hD) hS)).trans hS
   have hW':=(upd_ne (o:=.lst (if j<i then [V.str (zBp.getD j "")] else [])) (ne_fre (show Fre H16 D from hD) h16)).trans h16
   have ai:atI ((List.range 17).map fun i=>V.bl (decide (i=j))) (0+(i:Int))=some (.bl (decide (i=j))):=zA0 (by omega) (by rw [show (0+(i:Int)).toNat=i by omega,List.getElem?_map,List.getElem?_range hi];rfl)
   refine ⟨_,rfl,_,rfl,_,_,_,_,rfl,rfl,SqL.of hS',ai,_,rfl,?_⟩
   by_cases c:i=j
   ·subst c
    rw [decide_eq_true rfl]
    refine iteT ?_
    have wl:i<zBp.length:=hi
    have aw:atI (zBp.map V.str) (0+(i:Int))=some (.str (zBp.getD i "")):=zA0 (by omega) (by rw [show (0+(i:Int)).toNat=i by omega,List.getElem?_map,List.getD_eq_getElem?_getD,List.getElem?_eq_getElem wl];rfl)
    refine ⟨_,rfl,_,rfl,_,_,_,_,rfl,rfl,SqL.of hW',aw,upd_same,?_,⟨_,rfl⟩,?_,zDu⟩
    ·rw [if_neg (Nat.lt_irrefl _),hs];decide
    ·rw [if_neg (Nat.lt_irrefl _),if_pos (Nat.lt_succ_self _)];rfl
   ·rw [decide_eq_false c]
    refine iteF ?_
    have e:(if j<i+1 then [V.str (zBp.getD j "")] else [])=(if j<i then [V.str (zBp.getD j "")] else []):=by
     by_cases z:j<i
     ·rw [if_pos z,if_pos (by omega)]
     ·rw [if_neg z,if_neg (by omega)]
    exact ⟨⟨_,rfl⟩,e.symm,rfl⟩
  ·rintro ys τ H' ⟨_,rfl,rfl⟩
   rw [if_pos (by omega)]
   exact k D _ (Kp.new k016 (k016.fre hD (by simp))) upd_same
end
def ordT (k:List Str):Str:=k.getD 0 Str.empty++ " < " ++ k.getD 1 Str.empty
def txtS (ns:List Str) (ks:List (List Str)):Str:=Txt.join "; " (Txt.join " " ns::ks.map ordT)
theorem join_tail:∀(ts:List Str) (h:Str),Txt.join "; " (h::ts)=h++Txt.join "" (ts.map fun t=>("; " : Str)++t)
 | [],h=>(app_empty h).symm
 | [t],h=>by
  rw [zDs]
  show h++ "; " ++ t=h++(("; " : Str)++t)
  exact zDt _ _ _
 | t::s::r,h=>by
  rw [zDs,join_tail (s::r) t,List.map_cons,List.map_cons,List.map_cons,zDs,show (("; " : Str)++t++ "")=("; " : Str)++t from app_empty _,zDt,zDt]
def Twos (ks:List (List Str)):Prop:=∀k∈ks,∃a b,k=[a,b]/\zBa a/\zBa b
theorem ord_len {a b:Str} (ha:zBa a) (hb:zBa b):(ordT [a,b]).length<=19:=by
 show (a++ " < " ++ b).length<=19
 rw [zA5,zA5,show ((" < " : Str)).length=3 by decide]
 have:=ha.2.1
 have:=hb.2.1
 omega
theorem zG6 {ns:List Str} (h:∀n∈ns,zBa n) (l:ns.length<=25):(Txt.join " " ns).length<=225/\(ns.map (·.length)).sum+ns.length*(" " : Str).length<=225:=by
 have h1:=zJh " " ns
 have h2:=sum_le (fun s:Str=>s.length) 8 (xs:=ns) fun s hs=>(h s hs).2.1
 have h3:(" " : Str).length=1:=by decide
 rw [h3] at h1 ⊢
 constructor<;>omega
theorem txt_len {ns:List Str} {ks:List (List Str)} (h1:∀n∈ns,zBa n) (l1:ns.length<=25) (h2:Twos ks) (l2:ks.length<=400):(txtS ns ks).length<=9000/\((Txt.join " " ns::ks.map ordT).map (·.length)).sum+(Txt.join " " ns::ks.map ordT).length*("; " : Str).length<=9000:=by
 have a:=(zG6 h1 l1).1
 have b:=sum_le (fun s:Str=>s.length) 19 (xs:=ks.map ordT) fun s hs=>by
  obtain ⟨k,hk,rfl⟩:=List.mem_map.mp hs
  obtain ⟨a,b,rfl,ha,hb⟩:=h2 k hk
  exact ord_len ha hb
 rw [List.length_map] at b
 have c:((Txt.join " " ns::ks.map ordT).map (·.length)).sum+(Txt.join " " ns::ks.map ordT).length*("; " : Str).length<=9000:=by
  rw [List.map_cons,List.sum_cons,List.length_cons,List.length_map,show ("; " : Str).length=2 by decide]
  have b:(List.map (fun s:Str=>s.length) (ks.map ordT)).sum<=ks.length*19:=b
  omega
 exact ⟨Nat.le_trans (zJh "; " _) c,c⟩
section
variable {P:Program} {w:World} {K:PySem.W.Frag} {mg:Str->Option Value} {base:Heap}
theorem ordq {q:List Str×Addr} {a b:Str} (e:q.1=[a,b]):ordT q.1=a++ " < " ++ b:=by rw [e];rfl
def spText:Sp:=fun vs H Q _=>∃(l m:Addr) (ns:List Str) (qs:List (List Str×Addr)),vs=[.ref l,.ref m]/\Txs H l ns/\Ords H m qs/\(∀n∈ns,zBa n)/\ns.length<=25/\qs.length<=400/\Twos (qs.map (·.1))/\∀H',Kp [] H H'->Q (.str (txtS ns (qs.map (·.1)))) H'
abbrev s_text:Stmt:=top 54
theorem sc_text:FnScope ["_law_names_here", "_law_pairs_here"] ["_law_names_here", "_law_pairs_here"] (zAe s_text):=⟨rfl,rfl,rfl,by decide +kernel,rfl,by decide +kernel,by decide +kernel⟩
theorem ok_text {f:Addr} {fd:FuncData} (F:Fun K "_law_text" "_law_text" s_text f fd):FnOk P w K mg base CX0 1 f fd ["_law_names_here", "_law_pairs_here"] spText:=by
 refine F.ok sc_text (fun vs H Q E h=>?_) (fun cdv A outer s H vs Q E hr h=>?_)
 ·obtain ⟨l,m,ns,qs,rfl,_⟩:=h
  rfl
 ·obtain ⟨l,m,ns,qs,rfl,hl,hm,nm,ln,lq,tw,k⟩:=h
  refine ⟨_,(zAd (zAq (zAs zBf (zDm PySem.F.plainAttrs_str PySem.F.slot_str_join PySem.F.type_str_join mt_join zAo (zAa (pv 0) zAb)) (zDm PySem.F.plainAttrs_str PySem.F.slot_str_join PySem.F.type_str_join mt_join zAo (zAa (zBz rfl (zB4 (sc:=zAe s_text) rfl (by decide +kernel)) (Draws.own (x:= "_law_one") (Draws.own (x:= "_law_other") Draws.nil)) (zAx (pv 1)) (fun C s₀ H₀ ex=>(zI2 (K:=K) (n:=2) rfl (zA8 (zAk (i:=0) (show List.Nodup (["_law_one", "_law_other"]:List Str) by decide +kernel) rfl (by walk_at "lc")) (zA8 (zAk (i:=1) (show List.Nodup (["_law_one", "_law_other"]:List Str) by decide +kernel) rfl (by walk_at "lc")) zD9)))) (fun C s₀ H₀ ex=>zB8) (fun C s₀ H₀ ex=>(zAs zBf (zAs zBf (zAs zBf zAo (pv 0)) zAo) (pv 1)))) zAb))))),?_⟩
  have nl:=zG6 nm ln
  have hs:=sizeLine_eq
  refine ⟨rfl,_,rfl,_,_,_,rfl,rfl,SqL.of hl,by omega,rfl,_,rfl,_,rfl,⟨_,SqL.of hm.top⟩,fun D hD=>zBl (qs.map fun q=>V.ref q.2) (fun i ys τ H'=>(∃o0 o1,τ=[o0,o1])/\ys=(((qs.take i).map fun q=>("; " : Str)++ordT q.1).map V.str)/\H'=upd H D (.lst ys)) ⟨⟨_,_,rfl⟩,rfl,rfl⟩ (fun i ys τ H' ⟨_,_,e⟩=>by subst e;exact SqL.of ((upd_ne (ne_fre (show Fre H D from hD) hm.top)).trans hm.top)) ?_ ?_⟩
  ·rintro i v ys τ H' hv ⟨⟨o0,o1,rfl⟩,rfl,rfl⟩
   obtain ⟨q,eq,rfl⟩:=zEw hv
   have mq:=List.mem_of_getElem? eq
   obtain ⟨a,b,eab,ha,hb⟩:=tw q.1 (List.mem_map.mpr ⟨q,mq,rfl⟩)
   have hrow:upd H D (.lst (((qs.take i).map fun q=>("; " : Str)++ordT q.1).map V.str)) q.2=some (.tup [.str a,.str b]):=by
    rw [upd_ne (ne_fre (show Fre H D from hD) (hm.row q mq)),hm.row q mq,eab];rfl
   refine ⟨_,_,rfl,.inl (.inl hrow),rfl,_,_,rfl,_,_,rfl,rfl,?_⟩
   have la:=ha.2.1
   have lb:=hb.2.1
   have x1:("; " : Str).length=2:=by decide
   have x2:(" < " : Str).length=3:=by decide
   refine ⟨_,rfl,_,_,rfl,rfl,by rw [x1];omega,_,_,rfl,rfl,by rw [zA5,x1,x2];omega,_,rfl,_,_,rfl,rfl,by rw [zA5,zA5,x1,x2];omega,upd_same,?_,⟨_,_,rfl⟩,?_,zDu⟩
   ·rw [List.length_map,List.length_map,List.length_take,hs];omega
   ·rw [zAl eq,List.map_append,List.map_append]
    show _=_++[V.str (("; " : Str)++ordT q.1)]
    rw [ordq eab,zDt,zDt,zDt]
  ·rintro ys τ H' ⟨_,rfl,rfl⟩
   have eM:qs.take (qs.map fun q=>V.ref q.2).length=qs:=by rw [List.length_map,List.take_length]
   have tl:=txt_len nm ln tw (by rw [List.length_map];exact lq)
   have et:txtS ns (qs.map (·.1))=Txt.join " " ns++Txt.join "" (qs.map fun q=>("; " : Str)++ordT q.1):=by
    unfold txtS
    rw [join_tail,List.map_map,List.map_map];rfl
   have es:((qs.map fun q=>("; " : Str)++ordT q.1).map (·.length)).sum<=400*21:=by
    have b:=sum_le (fun s:Str=>s.length) 21 (xs:=qs.map fun q=>("; " : Str)++ordT q.1) fun s hs=>by
     obtain ⟨q,hq,rfl⟩:=List.mem_map.mp hs
     obtain ⟨a,b,eab,ha,hb⟩:=tw q.1 (List.mem_map.mpr ⟨q,hq,rfl⟩)
     have:=ord_len ha hb
     rw [zA5,eab,show ("; " : Str).length=2 by decide];omega
    rw [List.length_map] at b
    have b:((qs.map fun q=>("; " : Str)++ordT q.1).map (·.length)).sum<=qs.length*21:=b
    omega
   refine ⟨_,D,qs.map fun q=>("; " : Str)++ordT q.1,rfl,rfl,SqL.of ?_,?_,_,_,rfl,rfl,?_,?_⟩
   ·rw [upd_same,eM]
   ·rw [List.length_map,show ("" : Str).length=0 by decide];omega
   ·rw [<-zA5,<-et,hs];omega
   ·rw [<-et]
    exact k _ (Kp.new Kp.refl hD)
end
section
variable {P:Program} {w:World} {K:PySem.W.Frag} {mg:Str->Option Value} {base:Heap} {C CB CN CM CT CS CR:Addr}
def spReadN (K:PySem.W.Frag) (CN:Addr):Sp:=fun vs H _ E=>∃(v:V) (t:Value),vs=[v]/\TyOf K H v t/\PySem.W.kitOne K t (.type "str")=some false/\E (.ref CN) none H
theorem ok_readN {f:Addr} {fd:FuncData} (F:Fun K "read_jobs" "read_jobs" zCc f fd) (T:Txt K mg) (R:X0 K mg CB CN "NoText"):FnOk P w K mg base (CX1 P w) 1 f fd ["text"] (spReadN K CN):=by
 refine Fun.okX F zCk (fun vs H Q E h=>?_) (fun cdv A outer s H vs Q E hr h=>?_)
 ·obtain ⟨v,t,rfl,_⟩:=h
  rfl
 ·obtain ⟨v,t,rfl,ty,kt,k⟩:=h
  refine ⟨_,(zAc (zA2 (zC2 (zBi (zAf zCj (by rfl) T.z_isinstance zAh (zAa (pv 0) (zAa (zC3 (by rfl) T.z_str zIj (v:=.ty "str") rfl) zAb)))))
    (zAd (zGo raise1 rfl rfl R.mgX R.ok (zAa zAo zAb)))
    zAm)
   zBt),?_⟩
  exact ⟨_,rfl,_,_,_,_,rfl,ty,kt,_,rfl,iteT ⟨by walk_at "ln",k⟩⟩
def spReadA (K:PySem.W.Frag) (C CN CM CT CS CR:Addr):Sp:=fun vs H Q E=>spReadY C CN CM CT CS CR vs H Q E\/spReadN K CN vs H Q E
theorem ok_readA {f:Addr} {fd:FuncData} (F1:FnOk P w K mg base (CX1 P w) 8 f fd ["text"] (spReadY C CN CM CT CS CR)) (F2:FnOk P w K mg base (CX1 P w) 1 f fd ["text"] (spReadN K CN)):FnOk P w K mg base (CX1 P w) 8 f fd ["text"] (spReadA K C CN CM CT CS CR):=F1.both (F2.mono (by decide)) fun _ _ _ _ h=>h
end
def cnt (x:Str):Nat:=x.cps.toList.count 59
theorem zCq (a b:Str):cnt (a++b)=cnt a+cnt b:=by
 unfold cnt
 rw [Str.cps_append,Array.toList_append,List.count_append]
theorem zCa {f:Str->Nat} (fa:∀a b,f (a++b)=f a+f b) (sep:Str):∀ps:List Str,ps≠[]->f (Txt.join sep ps)+f sep=(ps.map f).sum+ps.length*f sep
 | [p],_=>by
  show f p+f sep=_
  simp
 | p::q::r,_=>by
  have ih:=zCa fa sep (q::r) (by simp)
  rw [zDs,fa,fa,List.map_cons,List.sum_cons,List.length_cons,Nat.succ_mul]
  omega
theorem split_cnt (x:Str):(Txt.split x "; ").length<=cnt x+1:=by
 by_cases h:Txt.split x "; " = []
 ·rw [h];exact Nat.zero_le _
 ·have:=zCa zCq "; " _ h
  rw [zDq,show cnt "; " = 1 by decide +kernel] at this
  omega
theorem le_sum {f:Str->Nat}:∀{ps:List Str} {p:Str},p∈ps->f p<=(ps.map f).sum
 | q::r,p,h=>by
  rw [List.map_cons,List.sum_cons]
  rcases List.mem_cons.mp h with rfl| h
  ·omega
  ·have:=le_sum (f:=f) h
   omega
theorem join_perm {f:Str->Nat} (fa:∀a b,f (a++b)=f a+f b) {sep:Str} {ps qs:List Str} (h:ps.Perm qs):f (Txt.join sep ps)=f (Txt.join sep qs):=by
 by_cases z:ps=[]
 ·subst z
  rw [List.nil_perm.mp h]
 ·have z':qs≠[]:=fun y=>z (by subst y;exact List.perm_nil.mp h)
  have a:=zCa fa sep ps z
  have b:=zCa fa sep qs z'
  rw [(h.map f).sum_nat,h.length_eq] at a
  omega
theorem zIe {f:Str->Nat} (fa:∀a b,f (a++b)=f a+f b) {sep p:Str} {ps qs:List Str} (h:qs.Perm (p::ps)) (hp:p∈ps):f (Txt.join sep qs)<=2*f (Txt.join sep ps)+f sep:=by
 have z:ps≠[]:=fun y=>by rw [y] at hp;cases hp
 have a:=zCa fa sep ps z
 have b:=zCa fa sep (p::ps) (by simp)
 have c:=le_sum (f:=f) hp
 have d:ps.length*f sep>=f sep:=by
  have:1<=ps.length:=List.length_pos_iff.mpr z
  exact Nat.le_mul_of_pos_left _ this
 rw [join_perm fa h]
 rw [List.map_cons,List.sum_cons,List.length_cons,Nat.succ_mul] at b
 omega
theorem zH4 (x:Str) (l u:Option Int):Txt.slice x l u=StrLaws.sliceText x l u:=rfl
theorem cnt_sub {x y:Str} (h:y.cps.toList.Sublist x.cps.toList):cnt y<=cnt x:=h.count_le 59
theorem slice_to_cnt {x:Str} {j:Int} (h0:0<=j) (h1:j<=x.length):cnt (Txt.slice x none (some j))<=cnt x:=by
 rw [zH4,StrLaws.sliceText_to ⟨h0,by simpa [Str.length] using h1⟩]
 exact cnt_sub (by simpa using (List.take_sublist _ _))
theorem zHq {x:Str} {i:Int} (h0:0<=i) (h1:i<=x.length):cnt (Txt.slice x (some i) none)<=cnt x:=by
 rw [zH4,StrLaws.sliceText_from ⟨h0,by simpa [Str.length] using h1⟩]
 exact cnt_sub (by simpa using (List.take_sublist _ _).trans (List.drop_sublist _ _))
theorem over_none {i:Int} {n:Nat} (h:(n:Int)<i):Builtin.Str.strSliceIndices (some i) none 1 n=[]:=by
 apply List.length_eq_zero_iff.mp
 unfold Builtin.Str.strSliceIndices sliceRange
 simp only [show (1:Int)>0 by decide,if_true,List.length_map,List.length_range]
 split<;>(try split)<;>(try split)<;>(try simp only [Int.ediv_one])<;>omega
theorem zEv {x:Str} {i:Int} (h0:0<=i):cnt (Txt.slice x (some i) none)<=cnt x:=by
 rcases Int.lt_or_le (x.length:Int) i with h| h
 ·unfold Txt.slice
  split
  ·exact Nat.le_refl _
  ·rw [over_none h];exact Nat.zero_le _
 ·exact zHq h0 h
theorem split_pos {x sep:Str} (hp:1<=sep.length):Txt.split x sep≠[]:=by
 by_cases h:x=Str.empty
 ·subst h
  intro z
  unfold Txt.split at z
  rw [if_pos (by rw [decide_eq_true (show Str.empty.length<sep.length from hp)];rfl)] at z
  cases z
 ·exact zGj h
theorem sum_set {f:Str->Nat} {v a:Str}:∀{ps:List Str} {i:Nat},ps[i]?=some a->((ps.set i v).map f).sum+f a=(ps.map f).sum+f v
 | p::r,0,h=>by
  cases h
  simp only [List.set_cons_zero,List.map_cons,List.sum_cons]
  omega
 | p::r,i+1,h=>by
  have:=sum_set (f:=f) (v:=v) (ps:=r) (i:=i) (by simpa using h)
  simp only [List.set_cons_succ,List.map_cons,List.sum_cons]
  omega
theorem join_swap {f:Str->Nat} (fa:∀a b,f (a++b)=f a+f b) {sep q1 q2:Str} {ps:List Str} {i j:Nat} (h1:ps[i]?=some q1) (h2:ps[j]?=some q2):f (Txt.join sep ((ps.set i q2).set j q1))=f (Txt.join sep ps):=by
 have li:=(List.getElem?_eq_some_iff.mp h1).1
 have z:ps≠[]:=fun y=>by rw [y] at li;exact absurd li (Nat.not_lt_zero _)
 have z':(ps.set i q2).set j q1≠[]:=fun y=>by
  have:=congrArg List.length y
  rw [List.length_set,List.length_set] at this
  rw [List.length_nil] at this
  omega
 have e:(ps.set i q2)[j]?=some q2:=by
  by_cases c:i=j
  ·subst c;exact List.getElem?_set_self li
  ·rw [List.getElem?_set_ne c];exact h2
 have s1:=sum_set (f:=f) (v:=q2) h1
 have s2:=sum_set (f:=f) (v:=q1) e
 have a:=zCa fa sep ps z
 have b:=zCa fa sep _ z'
 rw [List.length_set,List.length_set] at b
 omega
theorem atI_some {α:Type} (xs:List α) {d:Int} (h0:0<=d) (h1:d<xs.length):∃c,atI xs d=some c:=by
 have h:d.toNat<xs.length:=by omega
 exact ⟨xs[d.toNat],zA0 h0 (by simp [h])⟩
section
variable {P:Program} {w:World} {K:PySem.W.Frag} {mg:Str->Option Value} {base:Heap}
def spOther:Sp:=fun vs H Q _=>∃(p:Addr) (x:Str),vs=[.ref p,.str x]/\zB1 H p/\x.length<=2000/\∀(y:Str) (H':Hp),y.length<=5000->cnt y<=2*cnt x+1->zB1 H' p->Kp [p] H H'->Q (.str y) H'
abbrev s_other:Stmt:=top 55
theorem zCt:FnScope ["_law_purse_here", "_law_text_here", "_law_way", "_law_at", "_law_signs", "_law_sign", "_law_between", "_law_pieces", "_law_one", "_law_other"] ["_law_purse_here", "_law_text_here"] (zAe s_other):=⟨rfl,rfl,rfl,by decide +kernel,rfl,by decide +kernel,by decide +kernel⟩
theorem ok_other {f:Addr} {fd:FuncData} (F:Fun K "_law_otherwise" "_law_otherwise" s_other f fd) (T:Txt K mg) (C_take:Cal P w K mg base "_law_take" 1 ["_law_purse_here", "_law_many"] zH3):FnOk P w K mg base CX0 2 f fd ["_law_purse_here", "_law_text_here"] spOther:=by
 refine F.ok zCt (fun vs H Q E h=>?_) (fun cdv A outer s H vs Q E hr h=>?_)
 ·obtain ⟨p,x,rfl,_⟩:=h
  rfl
 ·obtain ⟨p,x,rfl,P0,lx,k⟩:=h
  refine ⟨_,(zAc (zAn (i:=2) zCt.nd rfl (by walk_at "lc") (zAi C_take hr rfl (zAa (pv 0) (zAa zAg zAb))))
   (zAc (zAn (i:=3) zCt.nd rfl (by walk_at "lc") (zAi C_take hr rfl (zAa (pv 0) (zAa (zAs zCs (zAf zDi (by rfl) T.z_len zBv (zAa (pv 1) zAb)) zAg) zAb))))
   (zAc (zAn (i:=4) zCt.nd rfl (by walk_at "lc") zAo)
   (zAc (zAn (i:=5) zCt.nd rfl (by walk_at "lc") (zA9 ix_str (pv 4) (zAi C_take hr rfl (zAa (pv 0) (zAa (zAf zDi (by rfl) T.z_len zBv (zAa (pv 4) zAb)) zAb))) (fun _ _=>rfl)))
   (zAc (zA2 (zAr zEu (pv 2) zAg (zAt _))
    (zAd (zAq (zAs zBf (zCg zH5 (pv 1) zDl (zDk (pv 3))) (zCg zH5 (pv 1) (zDk (zAs zCs (pv 3) zAg)) zDl))))
    zAm)
   (zAc (zA2 (zAr zEu (pv 2) zAg (zAt _))
    (zAd (zAq (zAs zBf (zAs zBf (zCg zH5 (pv 1) zDl (zDk (pv 3))) (pv 5)) (zCg zH5 (pv 1) (zDk (pv 3)) zDl))))
    zAm)
   (zAc (zA2 (zAr zEu (pv 2) zAg (zAt _))
    (zAd (zAq (zAs zBf (zAs zBf (zCg zH5 (pv 1) zDl (zDk (pv 3))) (pv 5)) (zCg zH5 (pv 1) (zDk (zAs zCs (pv 3) zAg)) zDl))))
    zAm)
   (zAc (zAn (i:=6) zCt.nd rfl (by walk_at "lc") (zA9 zA1 (zBo (zAa zAo (zAa zAo (zAa zAo zAb)))) (zAi C_take hr rfl (zAa (pv 0) (zAa zAg zAb))) (fun _ _=>rfl)))
   (zAc (zAn (i:=7) zCt.nd rfl (by walk_at "lc") (zDm PySem.F.plainAttrs_str PySem.F.slot_str_split PySem.F.type_str_split zEn (pv 1) (zAa (pv 6) zAb)))
   (zAc (zAn (i:=8) zCt.nd rfl (by walk_at "lc") (zAi C_take hr rfl (zAa (pv 0) (zAa (zAf zAp (by rfl) T.z_len zBv (zAa (pv 7) zAb)) zAb))))
   (zAc (zAn (i:=9) zCt.nd rfl (by walk_at "lc") (zAi C_take hr rfl (zAa (pv 0) (zAa (zAf zAp (by rfl) T.z_len zBv (zAa (pv 7) zAb)) zAb))))
   (zAc (zA2 (zAr zEu (pv 2) zAg (zAt _))
    (zAd (zA3 (zDm PySem.F.plainAttrs_list PySem.F.slot_list_insert PySem.F.type_list_insert zG7 (pv 7) (zAa (pv 8) (zAa (zA9 zA1 (pv 7) (pv 9) (fun _ _=>rfl)) zAb)))))
    zAm)
   (zAc (zA2 (zAr op_gt (pv 2) zAg (zAt _))
    (zAd (ps_asg (zB9 (zAa (zA9 zA1 (pv 7) (pv 9) (fun _ _=>rfl)) (zAa (zA9 zA1 (pv 7) (pv 8) (fun _ _=>rfl)) zAb))) (pg_tup rfl (zA8 (pg_sub (pv 7) (pv 8) zGm) (zA8 (pg_sub (pv 7) (pv 9) zGm) zD9)))))
    zAm)
   (zAd (zAq (zDm PySem.F.plainAttrs_str PySem.F.slot_str_join PySem.F.type_str_join mt_join (pv 6) (zAa (pv 7) zAb))))))))))))))))),?_⟩
  have hs:=sizeLine_eq
  refine ⟨_,rfl,p,6,rfl,P0,by decide,by decide,fun wy H1 w0 w1 P1 K1=>?_⟩
  refine ⟨_,rfl,_,rfl,_,rfl,by rw [hs];omega,_,_,rfl,rfl,p,_,rfl,P1,by omega,by omega,fun a H2 a0 a1 P2 K2=>?_⟩
  refine ⟨_,rfl,_,rfl,_,rfl,_,rfl,by rw [hs];decide,p,12,rfl,P2,by decide,by decide,fun b H3 b0 b1 P3 K3=>?_⟩
  have h12:(" ;<abzA1_-,>" : Str).cps.toList.length=12:=by decide +kernel
  obtain ⟨c,hc⟩:=atI_some (" ;<abzA1_-,>" : Str).cps.toList b0 (by omega)
  refine ⟨_,_,_,rfl,rfl,by rw [hs];decide,hc,?_⟩
  have K03:Kp [p] H H3:=K1.trans (K2.trans K3)
  have c1:cnt ⟨#[c]⟩<=1:=by
   unfold cnt
   exact Nat.le_trans List.count_le_length (by simp)
  have lt:=zGw x none (some a)
  have ct:=slice_to_cnt (x:=x) a0 (by omega)
  have lf:=zGw x (some a) none
  have cf:=zEv (x:=x) a0
  have lg:=zGw x (some (a+1)) none
  have cg:=zEv (x:=x) (i:=a+1) (by omega)
  have l1:(⟨#[c]⟩:Str).length=1:=rfl
  refine ⟨_,rfl,rfl,_,rfl,ite2 (fun z=>?_) (fun z=>?_)⟩
  ·refine ⟨_,rfl,_,rfl,_,rfl,_,rfl,by rw [hs];omega,_,rfl,_,rfl,_,_,rfl,rfl,_,rfl,_,rfl,by rw [hs];omega,_,_,rfl,rfl,by rw [hs];omega,?_⟩
   exact k _ H3 (by rw [zA5];omega) (by rw [zCq];omega) P3 K03
  refine ⟨_,rfl,rfl,_,rfl,ite2 (fun z=>?_) (fun z=>?_)⟩
  ·refine ⟨_,rfl,_,rfl,_,rfl,_,rfl,by rw [hs];omega,_,rfl,_,_,rfl,rfl,by rw [hs];omega,_,rfl,_,rfl,_,rfl,_,rfl,by rw [hs];omega,_,_,rfl,rfl,by rw [hs,zA5];omega,?_⟩
   exact k _ H3 (by rw [zA5,zA5];omega) (by rw [zCq,zCq];omega) P3 K03
  refine ⟨_,rfl,rfl,_,rfl,ite2 (fun z=>?_) (fun z=>?_)⟩
  ·refine ⟨_,rfl,_,rfl,_,rfl,_,rfl,by rw [hs];omega,_,rfl,_,_,rfl,rfl,by rw [hs];omega,_,rfl,_,rfl,_,_,rfl,rfl,_,rfl,_,rfl,by rw [hs];omega,_,_,rfl,rfl,by rw [hs,zA5];omega,?_⟩
   exact k _ H3 (by rw [zA5,zA5];omega) (by rw [zCq,zCq];omega) P3 K03
  refine ⟨(by walk_at "ln"),fun l1 g1=>?_⟩
  have kq:Kp [] H3 (upd H3 l1 (.lst [.str "; ",.str " ",.str " < "])):=Kp.new Kp.refl g1
  have hq:upd H3 l1 (.lst [.str "; ",.str " ",.str " < "]) l1=some (.lst [.str "; ",.str " ",.str " < "]):=upd_same
  generalize upd H3 l1 (.lst [.str "; ",.str " ",.str " < "])=H4 at kq hq
  have P4:=P3.kp kq (by simp)
  have np:l1≠p:=by obtain ⟨u,v,e,_⟩:=P3;exact (ne_fre (show Fre H3 l1 from g1) e).symm
  refine ⟨_,rfl,p,3,rfl,P4,by decide,by decide,fun e H5 e0 e1 P5 K5=>?_⟩
  have h5:=K5 _ _ hq (nm1 np)
  obtain ⟨sep,hsep,s1,s3,sc⟩:∃sep:Str,atI [V.str "; ",.str " ",.str " < "] e=some (.str sep)/\1<=sep.length/\sep.length<=3/\cnt sep<=1:=by
   have:e=0\/e=1\/e=2:=by omega
   rcases this with rfl| rfl| rfl
   ·exact ⟨_,rfl,by decide,by decide,by decide +kernel⟩
   ·exact ⟨_,rfl,by decide,by decide,by decide +kernel⟩
   ·exact ⟨_,rfl,by decide,by decide,by decide +kernel⟩
  refine ⟨_,_,_,_,rfl,rfl,SqL.of h5,hsep,?_⟩
  have K05:Kp [p] H H5:=K03.trans (kq.of0.trans K5)
  refine ⟨_,rfl,rfl,_,rfl,_,_,rfl,rfl,s1,by omega,fun l2 g2=>?_⟩
  have pn:=split_pos (x:=x) s1
  have pf:=zD3 (x:=x) s1
  have pj:=zDq x sep
  generalize Txt.split x sep=ps at pn pf pj ⊢
  have pl:1<=ps.length:=List.length_pos_iff.mpr pn
  have k6:Kp [] H5 (upd H5 l2 (.lst (ps.map V.str))):=Kp.new Kp.refl g2
  have h6:upd H5 l2 (.lst (ps.map V.str)) l2=some (.lst (ps.map V.str)):=upd_same
  have P6:=P5.kp k6 (by simp)
  have f2:Fre H l2:=K05.fre g2 (by obtain ⟨u,v,e,_⟩:=P5;exact nm1 (ne_fre (show Fre H5 l2 from g2) e).symm)
  have n2:l2≠p:=by obtain ⟨u,v,e,_⟩:=P5;exact (ne_fre (show Fre H5 l2 from g2) e).symm
  generalize upd H5 l2 (.lst (ps.map V.str))=H6 at k6 h6 P6 ⊢
  refine ⟨_,rfl,_,rfl,_,_,rfl,.inl (SqL.of h6),p,_,rfl,P6,by rw [List.length_map];omega,by rw [List.length_map];omega,fun o1 H7 o10 o11 P7 K7=>?_⟩
  have h7:=K7 _ _ h6 (nm1 n2)
  refine ⟨_,rfl,_,rfl,_,_,rfl,.inl (SqL.of h7),p,_,rfl,P7,by rw [List.length_map];omega,by rw [List.length_map];omega,fun o2 H8 o20 o21 P8 K8=>?_⟩
  have h8:=K8 _ _ h7 (nm1 n2)
  rw [List.length_map] at o11 o21
  have K08:Kp [p] H H8:=K05.trans (k6.of0.trans (K7.trans K8))
  obtain ⟨q1,eq1⟩:∃q,ps[o1.toNat]?=some q:=⟨ps[o1.toNat]'(by omega),List.getElem?_eq_getElem (by omega)⟩
  obtain ⟨q2,eq2⟩:∃q,ps[o2.toNat]?=some q:=⟨ps[o2.toNat]'(by omega),List.getElem?_eq_getElem (by omega)⟩
  have a1':atI (ps.map V.str) o1=some (.str q1):=zA0 o10 (by rw [List.getElem?_map,eq1];rfl)
  have a2':atI (ps.map V.str) o2=some (.str q2):=zA0 o20 (by rw [List.getElem?_map,eq2];rfl)
  have wy3:wy=3\/3<wy:=by
   have z0:wy≠0:=fun e=>absurd (decide_eq_true (by rw [e])) ‹¬decide (V.int wy=V.int 0)=true›
   have z1:wy≠1:=fun e=>absurd (decide_eq_true (by rw [e])) ‹¬decide (V.int wy=V.int 1)=true›
   have z2:wy≠2:=fun e=>absurd (decide_eq_true (by rw [e])) ‹¬decide (V.int wy=V.int 2)=true›
   omega
  have fin:∀(qs:List Str) (H9:Hp),H9 l2=some (.lst (qs.map V.str))->qs.length<=2002->(Txt.join sep qs).length<=4003->cnt (Txt.join sep qs)<=2*cnt x+1->zB1 H9 p->Kp [p] H H9->Q (.str (Txt.join sep qs)) H9:=fun qs H9 _ _ h1 h2 h3 h4=>k _ H9 (by omega) h2 h3 h4
  have lens:∀(qs:List Str),qs≠[]->(qs.map (·.length)).sum+qs.length*sep.length<=(Txt.join sep qs).length+3:=fun qs z=>by
   have:=zCa (f:=fun s:Str=>s.length) zA5 sep qs z
   have e:(qs.map (·.length)).sum+qs.length*sep.length=(Txt.join sep qs).length+sep.length:=this.symm
   omega
  rcases wy3 with rfl| w3
  ·refine ⟨_,rfl,rfl,_,rfl,?_⟩
   rw [decide_eq_true rfl]
   refine iteT ?_
   have hp:=ST.ins_perm ps o1.toNat q2
   refine ⟨_,rfl,.inl ⟨rfl,_,SqL.of h8⟩,_,rfl,_,rfl,_,rfl,_,_,_,_,rfl,rfl,SqL.of h8,a2',_,_,_,_,rfl,rfl,h8,by rw [List.length_map,hs];omega,o10,by rw [List.length_map];omega,?_⟩
   rw [ins_map V.str]
   have h9:upd H8 l2 (.lst ((ps.take o1.toNat++q2::ps.drop o1.toNat).map V.str)) l2=some (.lst ((ps.take o1.toNat++q2::ps.drop o1.toNat).map V.str)):=upd_same
   have k9:Kp [p] H (upd H8 l2 (.lst ((ps.take o1.toNat++q2::ps.drop o1.toNat).map V.str))):=Kp.new K08 f2
   have P9:zB1 (upd H8 l2 (.lst ((ps.take o1.toNat++q2::ps.drop o1.toNat).map V.str))) p:=P8.kp (M:=[l2]) (Kp.put Kp.refl (by simp)) (nm1 n2.symm)
   generalize upd H8 l2 (.lst ((ps.take o1.toNat++q2::ps.drop o1.toNat).map V.str))=H9 at h9 k9 P9 ⊢
   have m2:=List.mem_of_getElem? eq2
   have jl:=zIe (f:=fun s:Str=>s.length) zA5 (sep:=sep) hp m2
   have jc:=zIe zCq (sep:=sep) hp m2
   have nn:ps.take o1.toNat++q2::ps.drop o1.toNat≠[]:=by simp
   have ll:=lens _ nn
   have le:=hp.length_eq
   generalize ps.take o1.toNat++q2::ps.drop o1.toNat=qs at *
   rw [pj] at jl jc
   have jl:(Txt.join sep qs).length<=2*x.length+sep.length:=jl
   rw [List.length_cons] at le
   refine ⟨_,rfl,_,_,rfl,rfl,_,rfl,iteF ?_⟩
   refine ⟨_,rfl,rfl,_,rfl,_,_,_,rfl,rfl,SqL.of h9,by omega,?_⟩
   exact fin qs H9 h9 (by omega) (by omega) (by omega) P9 k9
  ·refine ⟨_,rfl,rfl,_,rfl,?_⟩
   rw [decide_eq_false (fun z=>by have:=V.int.inj z;omega)]
   refine iteF ?_
   refine ⟨_,rfl,_,_,rfl,rfl,_,rfl,?_⟩
   rw [decide_eq_true (by omega)]
   refine iteT ?_
   refine ⟨_,rfl,_,rfl,_,_,_,_,rfl,rfl,SqL.of h8,a2',_,rfl,_,rfl,_,_,_,_,rfl,rfl,SqL.of h8,a1',(by walk_at "ln"),fun tt gt=>?_⟩
   have kt:Kp [] H8 (upd H8 tt (.tup [.str q2,.str q1])):=Kp.new Kp.refl gt
   refine ⟨_,_,rfl,.inl (.inl upd_same),rfl,_,_,rfl,?_⟩
   generalize upd H8 tt (.tup [.str q2,.str q1])=H9 at kt ⊢
   have h9:=kt _ _ h8 (by simp)
   have i1:ixN (ps.map V.str).length o1=some o1.toNat:=by unfold ixN;rw [if_pos (by omega),if_pos (by rw [List.length_map];omega)]
   have i2:ixN ((ps.map V.str).set o1.toNat (.str q2)).length o2=some o2.toNat:=by unfold ixN;rw [if_pos (by omega),if_pos (by rw [List.length_set,List.length_map];omega)]
   refine ⟨_,rfl,_,rfl,l2,_,_,_,rfl,rfl,h9,i1,?_⟩
   refine ⟨_,_,rfl,_,rfl,_,rfl,l2,_,_,_,rfl,rfl,upd_same,i2,rfl,?_⟩
   rw [zDu,show ((ps.map V.str).set o1.toNat (.str q2)).set o2.toNat (.str q1)=(((ps.set o1.toNat q2).set o2.toNat q1).map V.str) by rw [List.map_set,List.map_set]]
   have jl:=join_swap (f:=fun s:Str=>s.length) zA5 (sep:=sep) eq1 eq2
   have jc:=join_swap zCq (sep:=sep) eq1 eq2
   have nn:(ps.set o1.toNat q2).set o2.toNat q1≠[]:=fun y=>by
    have:=congrArg List.length y
    rw [List.length_set,List.length_set,List.length_nil] at this
    omega
   have ll:=lens _ nn
   have le:((ps.set o1.toNat q2).set o2.toNat q1).length=ps.length:=by rw [List.length_set,List.length_set]
   generalize (ps.set o1.toNat q2).set o2.toNat q1=qs at *
   rw [pj] at jl jc
   have jl:(Txt.join sep qs).length=x.length:=jl
   have h10:upd H9 l2 (.lst (qs.map V.str)) l2=some (.lst (qs.map V.str)):=upd_same
   have k10:Kp [p] H (upd H9 l2 (.lst (qs.map V.str))):=Kp.new (K08.trans kt.of0) f2
   have P10:zB1 (upd H9 l2 (.lst (qs.map V.str))) p:=(P8.kp kt (by simp)).kp (M:=[l2]) (Kp.put Kp.refl (by simp)) (nm1 n2.symm)
   refine ⟨_,rfl,rfl,_,rfl,_,_,_,rfl,rfl,SqL.of h10,by omega,?_⟩
   exact fin qs _ h10 (by omega) (by omega) (by omega) P10 k10
end
structure Mth (P:Program) (w:World) (K:PySem.W.Frag) (mg:Str->Option Value) (base:Heap) (C:Addr) (m:Str) (k:Nat) (ps:List Str) (sp:Sp):Prop where
 to:∃(f:Addr) (fd:FuncData),Meth K C m f/\zC5 K fd ps []/\FnOk P w K mg base CX0 k f fd ps sp
theorem pe_methC0 {X:Cx} {C:Addr} {m:Str} {k:Nat} {ps:List Str} {sp:Sp} {o:Expr} {apos pos:Pos} {ta:TE} {pl:Sem Bool} (M:Mth X.prog X.w X.K X.mg X.base C m k ps sp) (c:Cls X.K C) (hr:Room k X.A) (he:PE X o ta)
  (ht:eval (.Call (.Attribute o m apos) [] [] pos) X.env=(do
   let ov<-eval o X.env
   standAt apos.atName
   let (f,first)<-holding [ov] (getMethod ov m pl)
   callWith pos f first (backTo pos (starEach [] X.env)) (backToKw pos (keywordEach [] X.env))):=by rfl):PE X (.Call (.Attribute o m apos) [] [] pos) (tMeth C m sp [] E0 ta tNil):=by
 obtain ⟨f,fd,h1,h2,h3⟩:=M.to
 exact pe_meth0 he c h1 h3 hr h2 .nil pass0 ht
structure JI (K:PySem.W.Frag) (C:Addr):Prop where
 a:PySem.W.findIn K (.ref C) "__class__" = some (some (.builtin "object.__class__"))
 n:PySem.W.specialIn K (.builtin "object.__class__") "__get__" = some (some (.builtin "getset_descriptor.__get__"))
 t:PySem.W.takesIn K (.builtin "object.__class__")=some true
 m:PySem.W.mroIn K C (.type "object")=some true
theorem rows_alike {K:PySem.W.Frag} {H:Hp} {n:Nat} {as bs:List (List Str×Addr)} (h1:∀q∈as,H q.2=some (.tup (q.1.map V.str))) (h2:∀q∈bs,H q.2=some (.tup (q.1.map V.str))) (e:as.map (·.1)=bs.map (·.1)):∀(i:Nat) (x y:V),(as.map fun q=>V.ref q.2)[i]?=some x->(bs.map fun q=>V.ref q.2)[i]?=some y->Alike K H (n+1) x y:=fun i u v e1 e2=>by
 obtain ⟨q,q1,rfl⟩:=zEw e1
 obtain ⟨q',q2,rfl⟩:=zEw e2
 have eq':q.1=q'.1:=by
  have h1:(bs.map (·.1))[i]?=some q'.1:=by rw [List.getElem?_map,q2];rfl
  have h2:(as.map (·.1))[i]?=some q.1:=by rw [List.getElem?_map,q1];rfl
  rw [<-e,h2] at h1
  exact Option.some.inj h1
 refine .tups (.inl (.inl (h1 q (List.mem_of_getElem? q1)))) (.inl (.inl (h2 q' (List.mem_of_getElem? q2)))) (by rw [eq']) fun i u v e1 e2=>?_
 rw [eq',e2] at e1
 cases e1
 obtain ⟨n,_,rfl⟩:=zBn e2
 exact .flat rfl
theorem zFc {K:PySem.W.Frag} {H:Hp} {n:Nat} {ns:List Str}:∀(i:Nat) (x y:V),(ns.map V.str)[i]?=some x->(ns.map V.str)[i]?=some y->Alike K H n x y:=fun i x y e1 e2=>by
 rw [e1] at e2
 cases e2
 obtain ⟨n,_,rfl⟩:=zBn e1
 exact .flat rfl
theorem told_keys {qs rs:List (List Str×Addr)} (e:qs.map (·.1)=rs.map (·.1)) (n:Str):told qs n=told rs n:=by
 have h:∀qs:List (List Str×Addr),told qs n=((qs.map (·.1)).filter fun k=>decide (k.getD 1 Str.empty=n)).map fun k=>k.getD 0 Str.empty:=fun qs=>by
  unfold told
  rw [List.filter_map,List.map_map];rfl
 rw [h,h,e]
structure KX (K:PySem.W.Frag) (d:Nat->Addr) (CB C:Addr) (j:Nat):Prop where
 kf:KF K d C j
 b:PySem.W.kitOne K (.ref C) (.ref CB)=some true
 x:excB K C=true
 s:(mroK K C).contains (.ref CB)=true
def ofL (ds:List Addr) (i:Nat):Addr:=ds.getD i 0
def kxB (K:PySem.W.Frag) (ds:List Addr) (CB C:Addr) (j:Nat):Bool:=zIh K C&&(PySem.W.kitOne K (.ref C) (.ref CB)==some true)&&(PySem.W.kitOne K (.ref C) (.type "ValueError")==some true)&&(PySem.W.kitAny K (.ref C) ((ds.eraseIdx j).map Value.ref)==some false)
theorem zId {K:PySem.W.Frag} {t:Value}:∀{cs:List Value},PySem.W.kitAny K t cs=some false->∀c∈cs,PySem.W.kitOne K t c=some false
 | c::r,h,x,hx=>by
  unfold PySem.W.kitAny at h
  split at h
  ·cases h
  ·rename_i e
   rcases List.mem_cons.mp hx with rfl| hx
   ·exact e
   ·exact zId h x hx
  ·cases h
theorem KX.of {K:PySem.W.Frag} {ds:List Addr} {CB C:Addr} {j:Nat} (h:kxB K ds CB C j=true) (x:excB K C=true) (s:(mroK K C).contains (.ref CB)=true) (e:ofL ds j=C) (l:ds.length=16):KX K (ofL ds) CB C j:=by
 unfold kxB at h
 simp only [Bool.and_eq_true,beq_iff_eq] at h
 obtain ⟨⟨⟨h1,h2⟩,h3⟩,h4⟩:=h
 refine ⟨⟨h1,fun i hi=>?_,h3⟩,h2,x,s⟩
 by_cases c:i=j
 ·subst c
  rw [e,decide_eq_true rfl]
  exact zDf (by simp)
 ·rw [decide_eq_false c]
  refine zId h4 _ (List.mem_map.mpr ⟨ofL ds i,?_,rfl⟩)
  refine List.mem_eraseIdx_iff_getElem.mpr ⟨i,by omega,c,?_⟩
  unfold ofL
  rw [List.getD_eq_getElem?_getD,List.getElem?_eq_getElem (by omega)];rfl
structure KN (K:PySem.W.Frag) (C:Addr) (f:Str):Prop where
 gt:XGet K C
 nr:zDj K C f
def zHn (C CN CM CT CS CR:Addr) (H:Hp) (v:V):Option (List Str×List (List Str))->Prop
 | none=>∃a,v= .ref a/\H a=some (excD a CN none)
 | some (ns,ks)=>(20<ns.length/\∃a,v= .ref a/\H a=some (excD a CM none))\/(ns.length<=20/\∃i n a dx,TwAt ns i n/\v= .ref a/\H a=some (excD a CT (some dx))/\H dx=some (.xd [("name",.str n)])) \/
  (ns.length<=20/\ns.Nodup/\∃y a dx,strg ns ks=some y/\v= .ref a/\H a=some (excD a CS (some dx))/\H dx=some (.xd [("name",.str y)])) \/
  (∃qs,qs.map (·.1)=ks/\GoodX ns qs/\((∃a dx p rs,RingOf (told qs) rs/\(∀x∈rs,x∈ns)/\rs.length<=20/\v= .ref a/\H a=some (excD a CR (some dx))/\H dx=some (.xd [("ring",.ref p)])/\Txs H p rs) \/
   (∃x J,v= .ref x/\JobsAt C H x J/\J.ns=ns/\(∀k,k∈J.zs.map (·.1)↔k∈ks)/\∃r:Str->Nat,∀q∈qs,r (fst q)<r (snd q))))
theorem zHn.kp {C CN CM CT CS CR:Addr} {H H':Hp} {v:V} {o:Option (List Str×List (List Str))} (h:zHn C CN CM CT CS CR H v o) (k:Kp [] H H'):zHn C CN CM CT CS CR H' v o:=by
 have g:∀{a o},H a=some o->H' a=some o:=fun h=>k _ _ h (by simp)
 match o,h with
 | none,⟨a,e,h⟩=>exact ⟨a,e,g h⟩
 | some (ns,ks),.inl ⟨l,a,e,h⟩=>exact .inl ⟨l,a,e,g h⟩
 | some (ns,ks),.inr (.inl ⟨l,i,n,a,dx,t,e,h,h2⟩)=>exact .inr (.inl ⟨l,i,n,a,dx,t,e,g h,g h2⟩)
 | some (ns,ks),.inr (.inr (.inl ⟨l,nd,y,a,dx,t,e,h,h2⟩))=>exact .inr (.inr (.inl ⟨l,nd,y,a,dx,t,e,g h,g h2⟩))
 | some (ns,ks),.inr (.inr (.inr ⟨qs,e,G,.inl ⟨a,dx,p,rs,h1,h2,h3,h4,h5,h6,h7⟩⟩))=>exact .inr (.inr (.inr ⟨qs,e,G,.inl ⟨a,dx,p,rs,h1,h2,h3,h4,g h5,g h6,g h7⟩⟩))
 | some (ns,ks),.inr (.inr (.inr ⟨qs,e,G,.inr ⟨x,J,h1,h2,h3⟩⟩))=>exact .inr (.inr (.inr ⟨qs,e,G,.inr ⟨x,J,h1,h2.kp0 k,h3⟩⟩))
theorem zF9.kp {H H':Hp} {v:V} {o:Option (List Str×List (List Str))} (h:zF9 H v o) (k:Kp [] H H'):zF9 H' v o:=by
 have g:∀{a o},H a=some o->H' a=some o:=fun h=>k _ _ h (by simp)
 match o,h with
 | none,h=>exact h
 | some (ns,ks),⟨t,l,m,qs,e,h1,h2,h3,h4,h5⟩=>exact ⟨t,l,m,qs,e,g h1,g h2,g h3,fun q hq=>g (h4 q hq),h5⟩
inductive Agree (K:PySem.W.Frag) (C CN CM CT CS CR:Addr) (H:Hp) (u v:V) (o:Option (List Str×List (List Str))):Prop
 | good (ns:List Str) (ks:List (List Str)) (x:Addr) (J:JR) (eo:o=some (ns,ks)) (eu:u= .ref x) (ev:v= .non) (A:JobsAt C H x J) (en:J.ns=ns) (hz:∀k,k∈J.zs.map (·.1)↔k∈ks)
 | plain (a Cx t j:Nat) (s:Str) (eu:u= .ref a) (h1:H a=some (excD a Cx none)) (ev:v= .ref t) (h2:H t=some (.tup [.str s,.non])) (c:(Cx=CN/\j=5/\s= "text")\/(Cx=CM/\j=4/\s= "many"))
 | name (a Cx t j dx:Nat) (s n:Str) (eu:u= .ref a) (h1:H a=some (excD a Cx (some dx))) (ev:v= .ref t) (h2:H t=some (.tup [.str s,.str n])) (h3:H dx=some (.xd [("name",.str n)])) (c:(Cx=CT/\j=1/\s= "twice")\/(Cx=CS/\j=2/\s= "stranger"))
 | ring (ns:List Str) (qs:List (List Str×Addr)) (a t dx p:Nat) (rs:List Str) (eo:o=some (ns,qs.map (·.1))) (eu:u= .ref a) (h1:H a=some (excD a CR (some dx))) (ev:v= .ref t) (h2:H t=some (.tup [.str "ring",.non])) (h3:H dx=some (.xd [("ring",.ref p)])) (R:RingOf (told qs) rs) (l:rs.length<=20) (h4:Txs H p rs)
theorem agree {K:PySem.W.Frag} {C CN CM CT CS CR:Addr} {H:Hp} {u v:V} {o:Option (List Str×List (List Str))} (a:zHn C CN CM CT CS CR H u o) (b:DueAt H v o):Agree K C CN CM CT CS CR H u v o:=by
 match o,a,b with
 | none,⟨a,e,h⟩,⟨t,e2,h2⟩=>exact .plain a CN t 5 "text" e h e2 h2 (.inl ⟨rfl,rfl,rfl⟩)
 | some (ns,ks),.inl ⟨l,a,e,h⟩,b =>
  rcases b with ⟨_,t,e2,h2⟩| ⟨l2,_⟩| ⟨l2,_⟩| ⟨l2,_⟩
  ·exact .plain a CM t 4 "many" e h e2 h2 (.inr ⟨rfl,rfl,rfl⟩)
  all_goals omega
 | some (ns,ks),.inr (.inl ⟨l,i,n,a,dx,t,e,h,h2⟩),b =>
  rcases b with ⟨l2,_⟩| ⟨l2,i',n',t',tt,e2,h3⟩| ⟨_,nd,_⟩| ⟨_,nd,_⟩
  ·omega
  ·obtain ⟨_,rfl⟩:=t.one t'
   exact .name a CT tt 1 dx "twice" n e h e2 h3 h2 (.inl ⟨rfl,rfl,rfl⟩)
  all_goals exact absurd nd t.not
 | some (ns,ks),.inr (.inr (.inl ⟨l,nd,y,a,dx,t,e,h,h2⟩)),b =>
  rcases b with ⟨l2,_⟩| ⟨l2,i',n',t',_⟩| ⟨_,_,y',t',tt,e2,h3⟩| ⟨_,_,z,_⟩
  ·omega
  ·exact absurd nd t'.not
  ·rw [t] at t'
   cases t'
   exact .name a CS tt 2 dx "stranger" y e h e2 h3 h2 (.inr ⟨rfl,rfl,rfl⟩)
  ·rw [t] at z;cases z
 | some (ns,ks),.inr (.inr (.inr ⟨qs,e,G,h⟩)),b =>
  have sn:strg ns ks=none:=zFd fun k hk=>by
   rw [<-e] at hk
   obtain ⟨q,q1,rfl⟩:=List.mem_map.mp hk
   exact G.qin q q1
  rcases b with ⟨l2,_⟩| ⟨l2,i',n',t',_⟩| ⟨_,_,y',t',_⟩| ⟨_,_,_,b⟩
  ·have:=G.few;omega
  ·exact absurd G.nd t'.not
  ·rw [sn] at t';cases t'
  ·rw [<-zEy e] at b
   rcases h with ⟨a,dx,p,rs,RO,sub,h3,h4,h5,h6,h7⟩| ⟨x,J,h1,h2,h3,h4,r,h5⟩
   ·rcases b with ⟨_,t,e2,h8⟩| ⟨z,_⟩
    ·exact .ring ns qs a t dx p rs (by rw [e]) h4 h5 e2 h8 h6 RO h3 h7
    ·obtain ⟨y,hy⟩:=List.exists_mem_of_ne_nil rs RO.ne
     have:=zF0 RO sub ns.length y hy
     rw [z] at this;cases this
   ·have e0:zBs qs ns.length ns=[]:=List.length_eq_zero_iff.mp (by have:=zH2 (L:=ns) h5 ns.length;omega)
    rcases b with ⟨z,_⟩| ⟨_,e2⟩
    ·exact absurd e0 z
    ·exact .good ns ks x J rfl h1 e2 h2 h3 h4
theorem parse_ok {x:Str} {ns:List Str} {ks:List (List Str)} (lx:x.length<=100000) (lp:(Txt.split x "; ").length<=63) (h:zEt x=some (ns,ks)):ns.length<=100001/\ks.length<=63/\∀k∈ks,okO k=true:=by
 unfold zEt at h
 by_cases c:x=Str.empty
 ·rw [if_pos c] at h
  cases h
  exact ⟨by simp,by simp,fun k h=>nomatch h⟩
 ·rw [if_neg c] at h
  have sle:∀p∈Txt.split x "; ",p.length<=100000:=fun p hp=>Nat.le_trans (split_le hp) lx
  have sne:=zGj (sep:= "; ") c
  generalize Txt.split x "; " = ps at *
  obtain ⟨p0,pr,rfl⟩:=List.exists_cons_of_ne_nil sne
  have h:(if (Txt.split p0 " ").all zBh&&(pr.map fun p=>Txt.split p " < ").all okO then some (Txt.split p0 " ",pr.map fun p=>Txt.split p " < ") else none)=some (ns,ks):=h
  split at h
  ·rename_i q
   rw [Bool.and_eq_true] at q
   cases h
   refine ⟨?_,?_,fun k hk=>List.all_eq_true.mp q.2 k hk⟩
   ·have:=zD3 (x:=p0) (sep:= " ") (by decide)
    have:=sle p0 List.mem_cons_self
    omega
   ·rw [List.length_map]
    rw [List.length_cons] at lp
    omega
  ·cases h
theorem nxp_mid {t u:TS} {D:Ends} {r:V->Hp->Prop} {b c:St->Hp->Prop} {σ:St} {H:Hp} (Mid:St->Hp->Prop) (h1:∀N:St->Hp->Prop,(∀σ H,Mid σ H->N σ H)->t {D with nx:=N} σ H) (h2:∀σ H,Mid σ H->u D σ H):Ends.nx {nx:=tSeq t u D,rt:=r,bk:=b,ct:=c} σ H:=seq_mid Mid h1 h2
section
variable {P:Program} {w:World} {K:PySem.W.Frag} {mg:Str->Option Value} {base:Heap} {C CB CN CM CT CS CR:Addr}
inductive Asked (K:PySem.W.Frag) (H:Hp):V->Option (List Str×List (List Str))->Prop
 | txt (x:Str) (lx:x.length<=100000) (lp:(Txt.split x "; ").length<=63):Asked K H (.str x) (zEt x)
 | other (v:V) (t:Value) (ty:∀H',Kp [] H H'->TyOf K H' v t) (kt:PySem.W.kitOne K t (.type "str")=some false):Asked K H v none
theorem ok_checkB' {f:Addr} {fd:FuncData} (F:Fun K "check_job" "check_job" zCz f fd) (T:Txt K mg) (R:XF K mg CB CS "Stranger") (C_is_one_of:Cal P w K mg base "is_one_of" 1 ["thing", "names"] zFe) (C_own_copy:CalD P w K mg base "own_copy" 1 ["thing", "depth"] [.int 12] zIs) (M_Stranger:MkrX P w K mg base CS 2 ["self", "name"] (zE0 CS)):FnOk P w K mg base (CX1 P w) 4 f fd ["names", "thing"] (zIt CS):=ok_checkB (zGb F T C_is_one_of) (ok_checkX F R C_is_one_of C_own_copy M_Stranger)
theorem ok_initY' {f:Addr} {fd:FuncData} (F:Fun K "__init__" "Jobs.__init__" zAw f fd) (T:Txt K mg) (U:JC K mg C) (C_namesM:CalX P w K mg base "check_names" 2 ["names"] (zIq CM)) (C_namesT:CalX P w K mg base "check_names" 4 ["names"] (zIp CT)) (C_check_names:Cal P w K mg base "check_names" 2 ["names"] zC7) (C_partsX:CalX P w K mg base "check_parts" 5 ["names", "orders"] (zIo CS)) (C_check_parts:Cal P w K mg base "check_parts" 3 ["names", "orders"] zD4)
  (C_all_ahead:CalX P w K mg base "all_ahead" 3 ["names", "told"] (zE1 CR)) (C_told_ahead:Cal P w K mg base "told_ahead" 1 ["names", "orders"] zEz):FnOk P w K mg base (CX1 P w) 6 f fd ["self", "names", "orders"] (zFw C CM CT CS CR):=ok_initY (ok_I1 F C_namesM) (ok_I2 F C_namesT) (ok_I3 F C_check_names C_partsX) (zJd F T U C_check_names C_check_parts C_all_ahead C_told_ahead)
theorem ok_readA' {f:Addr} {fd:FuncData} (F:Fun K "read_jobs" "read_jobs" zCc f fd) (T:Txt K mg) (R:X0 K mg CB CN "NoText") (C_read_names:CalX P w K mg base "read_names" 2 ["part", "between"] (zGk CN)) (C_read_order:CalX P w K mg base "read_order" 3 ["part"] (zIn CN)) (M_Jobs:MkrF P w K mg base C "Jobs" 6 ["self", "names", "orders"] (zFw C CM CT CS CR)):FnOk P w K mg base (CX1 P w) 8 f fd ["text"] (spReadA K C CN CM CT CS CR):=ok_readA (ok_readY F T C_read_names C_read_order M_Jobs) (ok_readN F T R)
def spRight (K:PySem.W.Frag):Sp:=fun vs H Q _=>∃v o,vs=[v]/\Asked K H v o/\∀H',Kp [] H H'->Q (.bl true) H'
abbrev s_right:Stmt:=top 53
theorem zC8:FnScope ["_law_text_here", "_law_told", "_law_e", "_law_parts_here", "_law_due_here"] ["_law_text_here"] (zAe s_right):=⟨rfl,rfl,rfl,by decide +kernel,rfl,by decide +kernel,by decide +kernel⟩
theorem ok_right {d:Nat->Addr} {f:Addr} {fd:FuncData} (F:Fun K "_law_right" "_law_right" s_right f fd) (T:Txt K mg) (U:JC K mg C) (VJ:JI K C) (mgB:mg "BenchError" = some (.ref CB)) (xB:excB K CB=true)
  (KN_:KX K d CB CN 5) (KM_:KX K d CB CM 4) (KT_:KX K d CB CT 1) (KS_:KX K d CB CS 2) (KR_:KX K d CB CR 3) (NT:KN K CT "name") (NS:KN K CS "name") (NR:KN K CR "ring")
  (C_read:CalX P w K mg base "read_jobs" 8 ["text"] (spReadA K C CN CM CT CS CR)) (C_parts:Cal P w K mg base "_law_parts" 2 ["_law_text_here"] spParts) (C_due:Cal P w K mg base "_law_due" 2 ["_law_parts_here"] spDue) (C_kinds:Cal P w K mg base "_law_kinds" 1 ["_law_e"] (spKinds K d)) (C_is_ring:Cal P w K mg base "_law_is_ring" 1 ["_law_found", "_law_orders"] spIsRing)
  (M_names:Mth P w K mg base C "names" 1 ["self"] (spNames C)) (M_orders:Mth P w K mg base C "orders" 1 ["self"] (spOrders C)):FnOk P w K mg base CX0 9 f fd ["_law_text_here"] (spRight K):=by
 refine F.ok zC8 (fun vs H Q E h=>?_) (fun cdv A outer s H vs Q E hr h=>?_)
 ·obtain ⟨v,o,rfl,_⟩:=h
  rfl
 ·obtain ⟨v,o,rfl,ask,k⟩:=h
  have hr1:=hr.mono (j:=1) (by decide)
  have hr2:=hr.mono (j:=2) (by decide)
  refine ⟨_,(zAc (zAn (i:=1) zC8.nd rfl (by walk_at "lc") zEa)
   (zAc (ps_tryF (i:=2) rfl rfl rfl rfl zC8.nd rfl rfl rfl mgB xB
     (fun pl ξ E p own=>zAd (zAn (i:=1) zC8.nd rfl (by walk_at "lc") (zCw (E:=E) C_read hr rfl p (zAa (pv 0) zAb))))
     (fun a=>zAd (zAn (i:=1) zC8.nd rfl (by walk_at "lc") (pv 2))))
   (zAc (zAn (i:=3) zC8.nd rfl (by walk_at "lc") zEa)
   (zAc (zA2 (zBi (zAf zCj (by rfl) T.z_isinstance zAh (zAa (pv 0) (zAa (zC3 (by rfl) T.z_str zIj (v:=.ty "str") rfl) zAb))))
    (zAd (zAn (i:=3) zC8.nd rfl (by walk_at "lc") (zAi C_parts hr2 rfl (zAa (pv 0) zAb))))
    zAm)
   (zAc (zAn (i:=4) zC8.nd rfl (by walk_at "lc") (zAi C_due hr2 rfl (zAa (pv 3) zAb)))
   (zAc (zA2 (zAr op_isN (pv 4) zEa (zAt _))
    (zAd (zAq (pe_and (zAf call_isC (by rfl) T.z_isinstance zAh (zAa (pv 1) (zAa (zA4 rfl U.mgC (v:=.ref C) rfl) zAb)))
     (pe_and (zBg (op_eqL hr1) (pe_methC0 M_names U.cl hr1 (pv 1)) (zA9 zHc (pv 3) zAg (fun _ _=>rfl)) (zAt _))
     (zH9 (zBg (op_eqL hr1) (pe_methC0 M_orders U.cl hr1 (pv 1)) (zAf (zDo (P:=P) (w:=w) (K:=K) hr1) (by rfl) T.z_sorted zHj (zAa (zAy (zF8 (P:=P) (w:=w) (K:=K) hr1) (by rfl) T.z_set bo_set (zAa (zA9 zHc (pv 3) zAg (fun _ _=>rfl)) zAb)) zAb)) (zAt _)))))))
    zAm)
   (zAc (zA2 (PW.pt (pw_or (zC2 (zBi (zAf zA6 (by rfl) T.z_isinstance zAh (zAa (pv 1) (zAa (zA4 rfl mgB (v:=.ref CB) rfl) zAb))))) (pw_or1 (zAr (op_neL hr1) (zAi C_kinds hr1 rfl (zAa (pv 1) zAb)) (zBo (zAa (zA9 zHc (pv 4) zAg (fun _ _=>rfl)) zAb)) (zAt _)))))
    (zAd (zAq pe_bl))
    zAm)
   (zAc (zA2 (zAr zEu (zA9 zHc (pv 4) zAg (fun _ _=>rfl)) zAo (zAt _))
    (zAd (zAq (zAi C_is_ring hr1 rfl (zAa (pe_fldX (K:=K) rfl (pv 1) rfl) (zAa (zA9 zHc (pv 3) zAg (fun _ _=>rfl)) zAb)))))
    zAm)
   (zAd (zAq (pe_or (zBg zEb (zA9 zHc (pv 4) zAg (fun _ _=>rfl)) (zB9 (zAa zAo (zAa zAo zAb))) (by rfl)) (zH9 (zBg zEu (pe_fldX (K:=K) rfl (pv 1) rfl) (zA9 zHc (pv 4) zAg (fun _ _=>rfl)) (zAt _)))))))))))))),?_⟩
  refine nxp_mid (fun σ H'=>∃u,σ=[some v,some u,none,none,none]/\Kp [] H H'/\zHn C CN CM CT CS CR H' u o) (fun N hN=>?_) ?_
  ·refine ⟨_,rfl,?_⟩
   have hN':∀u H',Kp [] H H'->zHn C CN CM CT CS CR H' u o->N [some v,some u,none,none,none] H':=fun u H' k1 t=>hN _ _ ⟨u,rfl,k1,t⟩
   have back:∀{Cx:Addr} {dd:Option Addr} {H':Hp},Kp [] H H'->(∀a H'',H'' a=some (excD a Cx dd)->Kp [] H' H''->zHn C CN CM CT CS CR H'' (.ref a) o)->∀a,H' a=none->N [some v,some (.ref a),none,none,none] (upd H' a (excD a Cx dd)):=fun {Cx dd H'} k1 h a ha =>
    hN' _ _ (k1.trans (Kp.new Kp.refl ha)) (h a _ upd_same (Kp.new Kp.refl ha))
   cases ask with
   | other _ t ty kt=>exact .inr ⟨v,t,rfl,ty _ Kp.refl,kt,CN,rfl,KN_.x,KN_.s,fun a ha=>⟨_,rfl,back (Cx:=CN) (dd:=none) Kp.refl (fun a H'' h _=>⟨a,rfl,h⟩) a ha⟩⟩
   | txt x lx lp =>
    refine .inl ⟨x,rfl,lx,lp,fun e H' k1=>⟨CN,rfl,KN_.x,KN_.s,fun a ha=>⟨_,rfl,back (Cx:=CN) (dd:=none) k1 (fun a H'' h _=>(by rw [e];exact ⟨a,rfl,h⟩)) a ha⟩⟩,fun ns ks e=>?_⟩
    rw [e] at hN' back
    exact {
     many:=fun l H' k1=>⟨CM,rfl,KM_.x,KM_.s,fun a ha=>⟨_,rfl,back (Cx:=CM) (dd:=none) k1 (fun a H'' h _=>.inl ⟨l,a,rfl,h⟩) a ha⟩⟩
     twice:=fun l i n t dx H' k1 hd=>⟨CT,rfl,KT_.x,KT_.s,fun a ha=>⟨_,rfl,back (Cx:=CT) (dd:=some dx) k1 (fun a H'' h k2=>.inr (.inl ⟨l,i,n,a,dx,t,rfl,h,k2 _ _ hd (by simp)⟩)) a ha⟩⟩
     strange:=fun l nd y t dx H' k1 hd=>⟨CS,rfl,KS_.x,KS_.s,fun a ha=>⟨_,rfl,back (Cx:=CS) (dd:=some dx) k1 (fun a H'' h k2=>.inr (.inr (.inl ⟨l,nd,y,a,dx,t,rfl,h,k2 _ _ hd (by simp)⟩))) a ha⟩⟩
     good:=fun qs e G x J H' A en hz rk k1=>hN' _ _ k1 (.inr (.inr (.inr ⟨qs,e,G,.inr ⟨x,J,rfl,A,en,hz,rk⟩⟩)))
     ring:=fun qs e G p dx rs H' R sub hp hd l k1=>⟨CR,rfl,KR_.x,KR_.s,fun a ha=>⟨_,rfl,back (Cx:=CR) (dd:=some dx) k1 (fun a H'' h k2=>.inr (.inr (.inr ⟨qs,e,G,.inl ⟨a,dx,p,rs,R,sub,l,rfl,h,k2 _ _ hd (by simp),k2 _ _ hp (by simp)⟩⟩))) a ha⟩⟩}
  rintro σ H1 ⟨u,rfl,k1,t1⟩
  refine nxp_mid (fun σ H'=>∃q,σ=[some v,some u,none,some q,none]/\Kp [] H1 H'/\zF9 H' q o) (fun N hN=>?_) ?_
  ·cases ask with
   | other _ t ty kt=>exact ⟨_,rfl,_,_,_,_,rfl,ty _ k1,kt,_,rfl,iteF (hN _ _ ⟨_,rfl,Kp.refl,rfl⟩)⟩
   | txt x lx lp=>exact ⟨_,rfl,_,_,_,_,rfl,TyOf.str _,zDf,_,rfl,iteT ⟨_,rfl,x,rfl,lx,fun q H2 k2 pa=>hN _ _ ⟨q,rfl,k2,pa⟩⟩⟩
  rintro σ H2 ⟨q,rfl,k2,pa⟩
  have okp:∀ns ks,o=some (ns,ks)->ns.length<=100001/\ks.length<=63/\∀k∈ks,okO k=true:=fun ns ks e=>by
   cases ask with
   | other=>cases e
   | txt x lx lp=>exact parse_ok lx lp e
  refine ⟨_,rfl,q,o,rfl,pa,okp,fun b H3 k3 du=>?_⟩
  have k13:=k2.trans k3
  have pa3:=pa.kp k3
  have kk:=k1.trans k13
  cases agree (K:=K) (t1.kp k13) du with
  | good ns ks x J eo eu ev A en hz =>
   subst eo eu ev
   obtain ⟨tt,l,m,qs,rfl,h1,h2,h3,h4,h5⟩:=pa3
   refine ⟨_,rfl,rfl,_,rfl,iteT ?_⟩
   have two:∀q∈qs,∃u v,q.1=[u,v]:=fun q hq=>pair_at ((okp ns ks rfl).2.2 _ (by rw [<-h5];exact List.mem_map.mpr ⟨q,hq,rfl⟩))
   have lq:qs.length<=63:=by have:=(okp ns ks rfl).2.1;rw [<-h5,List.length_map] at this;exact this
   have O3:Ords H3 m qs:=⟨h3,h4,two⟩
   refine ⟨_,rfl,_,_,_,_,rfl,TyOf.ins A.ob U.cl VJ.a VJ.n VJ.t VJ.m,zDf (by simp),_,rfl,iteT ?_⟩
   refine ⟨_,rfl,x,J.dx,_,rfl,A.ob,jf_no _ _ _ (by decide +kernel) (by decide +kernel) (by decide +kernel),x,J,rfl,A,fun b1 H4 f4 n4 k4=>?_⟩
   refine ⟨_,rfl,_,_,_,_,rfl,rfl,SqT.of (k4 _ _ h1 (by simp)),zA0 (by decide) rfl,.inl ⟨_,_,_,_,rfl,rfl,SqL.of n4,SqL.of (k4 _ _ h2 (by simp)),by rw [en],fun i x y e1 e2=>zFc i x y e1 (by rw [en];exact e2),_,rfl,iteT ?_⟩⟩
   have A4:=A.kp0 k4
   refine ⟨_,rfl,x,J.dx,_,rfl,A4.ob,jf_no _ _ _ (by decide +kernel) (by decide +kernel) (by decide +kernel),x,J,rfl,A4,fun b H11 fb h11 k11=>?_⟩
   have O11:=O3.kp (k4.trans k11) (by simp) (by simp)
   refine ⟨_,rfl,_,_,_,_,rfl,rfl,SqT.of ((k4.trans k11) _ _ h1 (by simp)),zA0 (by decide) rfl,m,qs,rfl,SqL.of O11.top,fun q hq=>.inl (.inl (O11.row q hq)),by omega,fun sa yk hsa y1 y2 y3 y4=>?_⟩
   have fsa:Fre H11 sa:=hsa
   refine ⟨sa,yk,rfl,upd_same,fun q hq=>.inl (.inl ((upd_ne (ne_fre fsa (O11.row q (y1 q hq)))).trans (O11.row q (y1 q hq)))),fun q hq=>?_,by omega,fun c3 zs hc3 z1 z2=>?_⟩
   ·obtain ⟨u,v,e⟩:=O11.two q (y1 q hq)
    rw [e];simp
   have k12:Kp [] H11 (upd (upd H11 sa (TSt P w sa yk)) c3 (.lst (zs.map fun q=>V.ref q.2))):=by
    have h1:Kp [] H11 (upd H11 sa (TSt P w sa yk)):=Kp.new Kp.refl fsa
    exact Kp.new h1 (h1.fre (show Fre (upd H11 sa (TSt P w sa yk)) c3 from hc3) (by simp))
   have hcs:(upd (upd H11 sa (TSt P w sa yk)) c3 (.lst (zs.map fun q=>V.ref q.2))) c3=some (.lst (zs.map fun q=>V.ref q.2)):=upd_same
   have ekeys:zs.map (·.1)=J.zs.map (·.1):=by
    refine ST.rows_one (ST.strict_of (List.pairwise_map.mpr z2) ((z1.map (·.1)).nodup_iff.mpr y3)) A.rise fun k=>?_
    rw [hz k,<-h5,(z1.map (·.1)).mem_iff]
    exact ⟨fun h=>by
     obtain ⟨q,q1,q2⟩:=List.mem_map.mp h
     exact List.mem_map.mpr ⟨q,y1 q q1,q2⟩,fun h=>by
     obtain ⟨q,q1,q2⟩:=List.mem_map.mp h
     rw [<-q2];exact y2 q q1⟩
   have zq:∀q∈zs,H11 q.2=some (.tup (q.1.map V.str)):=fun q hq=>O11.row q (y1 q (z1.mem_iff.mp hq))
   generalize upd (upd H11 sa (TSt P w sa yk)) c3 (.lst (zs.map fun q=>V.ref q.2))=H12 at k12 hcs ⊢
   have h12:=h11.kp k12 (by simp) (by simp)
   have elen:J.zs.length=zs.length:=by have:=congrArg List.length ekeys;simpa using this.symm
   exact .inl ⟨_,_,_,_,rfl,rfl,SqL.of h12.top,SqL.of hcs,by rw [List.length_map,List.length_map,elen],rows_alike h12.row (fun q hq=>k12 _ _ (zq q hq) (by simp)) ekeys.symm,k _ (kk.trans (k4.trans (k11.trans k12)))⟩
  | plain a Cx t j s eu h1 ev h2 c =>
   subst eu ev
   refine ⟨_,rfl,rfl,_,rfl,iteF ?_⟩
   have hX:KX K d CB Cx j/\j<16/\zBp.getD j "" = s/\s≠ "ring" /\(s= "text" \/s= "many"):=by
    rcases c with ⟨rfl,rfl,rfl⟩| ⟨rfl,rfl,rfl⟩
    ·exact ⟨KN_,by decide,rfl,by decide,.inl rfl⟩
    ·exact ⟨KM_,by decide,rfl,by decide,.inr rfl⟩
   clear c
   obtain ⟨X,j16,es,ns,c⟩:=hX
   refine ⟨_,rfl,a,Cx,none,CB,_,rfl,h1,X.kf.kit,X.b,_,rfl,iteF ?_⟩
   refine ⟨_,rfl,a,Cx,none,j,rfl,h1,X.kf,j16,fun l H4 k4 hl=>?_⟩
   have h24:=k4 _ _ h2 (by simp)
   refine ⟨_,rfl,_,_,_,_,rfl,rfl,SqT.of h24,zA0 (by decide) rfl,by walk_at "ln",fun l2 g2=>?_⟩
   have k5:Kp [] H4 (upd H4 l2 (.lst [.str s])):=Kp.new Kp.refl g2
   have hl2:upd H4 l2 (.lst [.str s]) l2=some (.lst [.str s]):=upd_same
   have hl:=k5 _ _ hl (by simp)
   have h25:=k5 _ _ h24 (by simp)
   generalize upd H4 l2 (.lst [.str s])=H5 at *
   rw [es] at hl
   refine ⟨_,_,_,_,rfl,rfl,SqL.of hl,SqL.of hl2,rfl,zFc (ns:=[s]),_,rfl,iteF ?_⟩
   refine ⟨_,rfl,_,_,_,_,rfl,rfl,SqT.of h25,zA0 (by decide) rfl,rfl,_,rfl,ite2 (fun c=>?_) (fun _=>?_)⟩
   ·exact absurd (V.str.inj (of_decide_eq_true c)) ns
   refine ⟨_,rfl,_,_,_,_,rfl,rfl,SqT.of h25,zA0 (by decide) rfl,by walk_at "ln",fun l3 g3=>?_⟩
   refine ⟨_,_,rfl,.inr (SqT.of upd_same),rfl,rfl,_,rfl,?_⟩
   rw [show inV (.str s) [.str "text",.str "many"]=true from by rcases c with rfl| rfl<;>decide]
   exact iteT (k _ (kk.trans (k4.trans (k5.trans (Kp.new Kp.refl g3)))))
  | name a Cx t j dx s n eu h1 ev h2 h3 c =>
   subst eu ev
   refine ⟨_,rfl,rfl,_,rfl,iteF ?_⟩
   have hX:KX K d CB Cx j/\KN K Cx "name" /\j<16/\zBp.getD j "" = s/\s≠ "ring" /\(s= "twice" \/s= "stranger"):=by
    rcases c with ⟨rfl,rfl,rfl⟩| ⟨rfl,rfl,rfl⟩
    ·exact ⟨KT_,NT,by decide,rfl,by decide,.inl rfl⟩
    ·exact ⟨KS_,NS,by decide,rfl,by decide,.inr rfl⟩
   clear c
   obtain ⟨X,NX,j16,es,ns,c⟩:=hX
   refine ⟨_,rfl,a,Cx,_,CB,_,rfl,h1,X.kf.kit,X.b,_,rfl,iteF ?_⟩
   refine ⟨_,rfl,a,Cx,_,j,rfl,h1,X.kf,j16,fun l H4 k4 hl=>?_⟩
   have h24:=k4 _ _ h2 (by simp)
   refine ⟨_,rfl,_,_,_,_,rfl,rfl,SqT.of h24,zA0 (by decide) rfl,by walk_at "ln",fun l2 g2=>?_⟩
   have k5:Kp [] H4 (upd H4 l2 (.lst [.str s])):=Kp.new Kp.refl g2
   have hl2:upd H4 l2 (.lst [.str s]) l2=some (.lst [.str s]):=upd_same
   have hl:=k5 _ _ hl (by simp)
   have h25:=k5 _ _ h24 (by simp)
   generalize upd H4 l2 (.lst [.str s])=H5 at *
   rw [es] at hl
   refine ⟨_,_,_,_,rfl,rfl,SqL.of hl,SqL.of hl2,rfl,zFc (ns:=[s]),_,rfl,iteF ?_⟩
   refine ⟨_,rfl,_,_,_,_,rfl,rfl,SqT.of h25,zA0 (by decide) rfl,rfl,_,rfl,ite2 (fun c=>?_) (fun _=>?_)⟩
   ·exact absurd (V.str.inj (of_decide_eq_true c)) ns
   refine ⟨_,rfl,_,_,_,_,rfl,rfl,SqT.of h25,zA0 (by decide) rfl,by walk_at "ln",fun l3 g3=>?_⟩
   have k6:Kp [] H5 (upd H5 l3 (.tup [.str "text",.str "many"])):=Kp.new Kp.refl g3
   refine ⟨_,_,rfl,.inr (SqT.of upd_same),rfl,rfl,_,rfl,?_⟩
   rw [show inV (.str s) [.str "text",.str "many"]=false from by rcases c with rfl| rfl<;>decide]
   have k36:=k4.trans (k5.trans k6)
   refine iteF ⟨_,rfl,a,Cx,dx,_,.str n,rfl,k36 _ _ h1 (by simp),k36 _ _ h3 (by simp),NX.gt,NX.nr,rfl,_,rfl,_,_,_,_,rfl,rfl,SqT.of (k6 _ _ h25 (by simp)),zA0 (by decide) rfl,rfl,?_⟩
   rw [show decide ((V.str n)=V.str n)=true from decide_eq_true rfl]
   exact k _ (kk.trans k36)
  | ring ns qs a t dx p rs eo eu h1 ev h2 h3 R l h4 =>
   subst eo eu ev
   refine ⟨_,rfl,rfl,_,rfl,iteF ?_⟩
   refine ⟨_,rfl,a,CR,_,CB,_,rfl,h1,KR_.kf.kit,KR_.b,_,rfl,iteF ?_⟩
   refine ⟨_,rfl,a,CR,_,3,rfl,h1,KR_.kf,by decide,fun l1 H4 k4 hl=>?_⟩
   have h24:=k4 _ _ h2 (by simp)
   refine ⟨_,rfl,_,_,_,_,rfl,rfl,SqT.of h24,zA0 (by decide) rfl,by walk_at "ln",fun l2 g2=>?_⟩
   have k5:Kp [] H4 (upd H4 l2 (.lst [.str "ring"])):=Kp.new Kp.refl g2
   have hl2:upd H4 l2 (.lst [.str "ring"]) l2=some (.lst [.str "ring"]):=upd_same
   have hl:=k5 _ _ hl (by simp)
   have h25:=k5 _ _ h24 (by simp)
   generalize upd H4 l2 (.lst [.str "ring"])=H5 at *
   refine ⟨_,_,_,_,rfl,rfl,SqL.of hl,SqL.of hl2,rfl,zFc (ns:=["ring"]),_,rfl,iteF ?_⟩
   refine ⟨_,rfl,_,_,_,_,rfl,rfl,SqT.of h25,zA0 (by decide) rfl,rfl,_,rfl,iteT ?_⟩
   obtain ⟨tt,pl,m,qs',rfl,g1,g2,g3,g4,g5⟩:=pa3
   have k35:=k4.trans k5
   have g:∀{a o},H3 a=some o->H5 a=some o:=fun h=>k35 _ _ h (by simp)
   refine ⟨_,rfl,a,CR,dx,_,.ref p,rfl,g h1,g h3,NR.gt,NR.nr,rfl,_,rfl,_,_,_,_,rfl,rfl,SqT.of (g g1),zA0 (by decide) rfl,p,m,rs,qs',rfl,g h4,⟨g g3,fun q hq=>g (g4 q hq),fun q hq=>pair_at ((okp ns _ rfl).2.2 _ (by rw [<-g5];exact List.mem_map.mpr ⟨q,hq,rfl⟩))⟩,?_,l,fun H6 k6=>k _ (kk.trans (k35.trans k6))⟩
   rw [show told qs'=told qs from funext fun n=>told_keys g5 n]
   exact R
end
theorem zJo {n:Str} (h:zBa n):cnt n=0:=by
 unfold cnt
 rw [List.count_eq_zero]
 intro z
 have:=(h.2.2 _ z).1
 omega
theorem zIm {f:Str->Nat}:∀{ps:List Str},(∀p∈ps,f p=0)->(ps.map f).sum=0
 | [],_=>rfl
 | p::r,h=>by
  rw [List.map_cons,List.sum_cons,h p List.mem_cons_self,zIm fun q hq=>h q (List.mem_cons_of_mem _ hq)]
theorem txt_cnt {ns:List Str} {ks:List (List Str)} (h1:∀n∈ns,zBa n) (h2:Twos ks):cnt (txtS ns ks)=ks.length:=by
 have e1:cnt (Txt.join " " ns)=0:=by
  by_cases z:ns=[]
  ·subst z;decide +kernel
  ·have:=zCa zCq " " ns z
   rw [zIm fun n hn=>zJo (h1 n hn),show cnt " " = 0 by decide +kernel] at this
   omega
 have:=zCa zCq "; " (Txt.join " " ns::ks.map ordT) (by simp)
 rw [zIm fun p hp=>?_,show cnt "; " = 1 by decide +kernel,List.length_cons,List.length_map] at this
 ·have:cnt (txtS ns ks)+1=0+(ks.length+1)*1:=this
  omega
 ·rcases List.mem_cons.mp hp with rfl| hp
  ·exact e1
  ·obtain ⟨k,hk,rfl⟩:=List.mem_map.mp hp
   obtain ⟨a,b,rfl,ha,hb⟩:=h2 k hk
   show cnt (a++ " < " ++ b)=0
   rw [zCq,zCq,zJo ha,zJo hb]
   decide +kernel
theorem txt_len2 {ns:List Str} {ks:List (List Str)} (h1:∀n∈ns,zBa n) (l1:ns.length<=25) (h2:Twos ks) (l2:ks.length<=30):(txtS ns ks).length<=2000:=by
 have a:=(zG6 h1 l1).1
 have b:=sum_le (fun s:Str=>s.length) 19 (xs:=ks.map ordT) fun s hs=>by
  obtain ⟨k,hk,rfl⟩:=List.mem_map.mp hs
  obtain ⟨a,b,rfl,ha,hb⟩:=h2 k hk
  exact ord_len ha hb
 rw [List.length_map] at b
 refine Nat.le_trans (zJh "; " _) ?_
 rw [List.map_cons,List.sum_cons,List.length_cons,List.length_map,show ("; " : Str).length=2 by decide]
 have b:(List.map (fun s:Str=>s.length) (ks.map ordT)).sum<=ks.length*19:=b
 omega
theorem Asked.kp {K:PySem.W.Frag} {H H':Hp} {v:V} {o:Option (List Str×List (List Str))} (h:Asked K H v o) (k:Kp [] H H'):Asked K H' v o:=by
 cases h with
 | txt x lx lp=>exact .txt x lx lp
 | other _ t ty kt=>exact .other v t (fun H2 k2=>ty H2 (k.trans k2)) kt
section
variable {P:Program} {w:World} {K:PySem.W.Frag} {mg:Str->Option Value} {base:Heap}
def spLaw (K:PySem.W.Frag):Sp:=fun vs H Q _=>∃(a:Addr) (ns:List Int),vs=[.ref a]/\SqL K H a (ns.map V.int)/\ns.length<=63/\∀H',Q (.bl true) H'
abbrev zIy:Stmt:=top 56
theorem zFh:FnScope ["_law_script", "_law_k", "_law_purse_here", "_law_names_here", "_law_orders", "_law_text_here", "_law_turn"] ["_law_script"] (zAe zIy):=⟨rfl,rfl,rfl,by decide +kernel,rfl,by decide +kernel,by decide +kernel⟩
theorem ok_law {f:Addr} {fd:FuncData} (F:Fun K "law" "law" zIy f fd) (T:Txt K mg) (C_cell:Cal P w K mg base "_law_cell" 1 ["_law_script", "_law_k"] (spCell K)) (C_purse:Cal P w K mg base "_law_purse" 1 ["_law_cell_here", "_law_k"] spPurse) (C_take:Cal P w K mg base "_law_take" 1 ["_law_purse_here", "_law_many"] zH3)
  (C_names:Cal P w K mg base "_law_names" 2 ["_law_purse_here", "_law_many"] zIr) (C_jobs:Cal P w K mg base "_law_jobs" 3 ["_law_purse_here", "_law_most"] spLJobs) (C_text:Cal P w K mg base "_law_text" 1 ["_law_names_here", "_law_pairs_here"] spText) (C_otherwise:Cal P w K mg base "_law_otherwise" 2 ["_law_purse_here", "_law_text_here"] spOther) (C_right:Cal P w K mg base "_law_right" 9 ["_law_text_here"] (spRight K)):FnOk P w K mg base CX0 10 f fd ["_law_script"] (spLaw K):=by
 refine F.ok zFh (fun vs H Q E h=>?_) (fun cdv A outer s H vs Q E hr h=>?_)
 ·obtain ⟨a,ns,rfl,_⟩:=h
  rfl
 ·obtain ⟨sc,is,rfl,hS,hlen,k⟩:=h
  have hr1:=hr.mono (j:=1) (by decide)
  have hr2:=hr.mono (j:=2) (by decide)
  have hr3:=hr.mono (j:=3) (by decide)
  refine ⟨_,(zAc (zBb PassesOwn.never rfl (zBj rfl T.z_range (zAa (zAf (call_max2 rfl) (by rfl) T.z_max bo_max (zAa zAg (zAa (zAf (call_min2 rfl) (by rfl) T.z_min bo_min (zAa (zAf zAp (by rfl) T.z_len zBv (zAa (pv 0) zAb)) (zAa zAg zAb))) zAb))) zAb)) (zAk (i:=1) zFh.nd rfl (by walk_at "lc"))
    (zAc (zAn (i:=2) zFh.nd rfl (by walk_at "lc") (zAi C_purse hr1 rfl (zAa (zAi C_cell hr1 rfl (zAa (pv 0) (zAa (pv 1) zAb))) (zAa (pv 1) zAb))))
    (zAc (ps_asg (zAi C_jobs hr3 rfl (zAa (pv 2) (zAa zAg zAb))) (pg_tup rfl (zA8 (zAk (i:=3) zFh.nd rfl (by walk_at "lc")) (zA8 (zAk (i:=4) zFh.nd rfl (by walk_at "lc")) zD9))))
    (zAc (zA2 (zAr zEu (zAi C_take hr1 rfl (zAa (pv 2) (zAa zAg zAb))) zAg (zAt _))
     (zAc (zAn (i:=3) zFh.nd rfl (by walk_at "lc") (zAi C_names hr2 rfl (zAa (pv 2) (zAa (zAs zCs zAg (zAi C_take hr1 rfl (zAa (pv 2) (zAa zAg zAb)))) zAb))))
     (zAd (zI1 (i:=4) rfl (zB4 (sc:=zAe zIy) rfl (by decide +kernel)) (Draws.own (x:= "_law_j") (Draws.tk (i:=3) rfl (by walk_at "vs") (by walk_at "vk") (by walk_at "vf") Draws.nil)) (pi_range2 rfl T.z_range (zAa zAg (zAa (zAi C_take hr1 rfl (zAa (pv 2) (zAa zAg zAb))) zAb))) (fun C s₀ H₀ ex=>(zAk (i:=0) (show List.Nodup (["_law_j", "_law_names_here"]:List Str) by decide +kernel) rfl (by walk_at "lc"))) (fun C s₀ H₀ ex=>zB8) (fun C s₀ H₀ ex=>(zB9 (zAa (zA9 (zCh (K:=K)) (pv 1) (zAs zG2 (pv 0) zAg) (fun _ _=>rfl)) (zAa (zA9 (zCh (K:=K)) (pv 1) (pv 0) (fun _ _=>rfl)) zAb)))) zFh.nd rfl rfl)))
     zAm)
    (zAc (zAn (i:=5) zFh.nd rfl (by walk_at "lc") (zAi C_text hr1 rfl (zAa (pv 3) (zAa (zAf (zDo (P:=P) (w:=w) (K:=K) hr1) (by rfl) T.z_sorted zHj (zAa (zAy (zF8 (P:=P) (w:=w) (K:=K) hr1) (by rfl) T.z_set bo_set (zAa (pv 4) zAb)) zAb)) zAb))))
    (zAd (zBb PassesOwn.never rfl (zBj rfl T.z_range (zAa (zAs zCs zAg (zAi C_take hr1 rfl (zAa (pv 2) (zAa zAg zAb)))) zAb)) (zAk (i:=6) zFh.nd rfl (by walk_at "lc"))
     (zAd (zA2 (zC2 (zBi (zAi C_right hr rfl (zAa (zAi C_otherwise hr2 rfl (zAa (pv 2) (zAa (pv 5) zAb))) zAb))))
      (zAd (zAq pe_bl))
      zAm)))))))))
   (zAd (zAq (zAf (zD2 _ rfl) (by rfl) T.z_all zHk (zAa (zBz rfl (zB4 (sc:=zAe zIy) rfl (by decide +kernel)) (Draws.own (x:= "_law_thing") Draws.nil) (zAx (zBo (zAa zEa (zAa zAg (zAa pe_bl (zAa (zBo (zAa zAo zAb)) (zAa (zB9 (zAa zAo (zAa zAo zAb))) (zAa zEm zAb)))))))) (fun C s₀ H₀ ex=>(zAk (i:=0) (show List.Nodup (["_law_thing"]:List Str) by decide +kernel) rfl (by walk_at "lc"))) (fun C s₀ H₀ ex=>zB8) (fun C s₀ H₀ ex=>(zAi C_right hr rfl (zAa (pv 0) zAb)))) zAb))))),?_⟩
  refine ⟨_,rfl,_,_,rfl,.inl hS,_,_,rfl,_,_,rfl,?_⟩
  rw [List.length_map]
  have hN:∀m:Nat,(0:Int)<=(if (if (12:Int)<m then 12 else (m:Int))>1 then (if (12:Int)<m then 12 else (m:Int)) else 1)/\(if (if (12:Int)<m then 12 else (m:Int))>1 then (if (12:Int)<m then 12 else (m:Int)) else 1)<=12:=fun m=>by split<;>split<;>omega
  have hN:=hN is.length
  generalize (if (if (12:Int)<(is.length:Int) then 12 else (is.length:Int))>1 then (if (12:Int)<(is.length:Int) then 12 else (is.length:Int)) else 1)=N at hN ⊢
  refine ⟨_,rfl,by omega,by omega,zBu (lo:=0) (n:=N.toNat) (fun i σ H2=>∃o1 o2 o3 o4 o5 o6:Option V,σ=[some (.ref sc),o1,o2,o3,o4,o5,o6]/\Kp [] H H2) ⟨_,_,_,_,_,_,rfl,Kp.refl⟩ ?_ ?_⟩
  ·rintro i σ H2 hi ⟨o1,o2,o3,o4,o5,o6,rfl,k2⟩
   refine ⟨_,rfl,_,rfl,sc,is,_,rfl,k2.seq hS,by omega,fun cv=>?_⟩
   refine ⟨_,rfl,cv,_,rfl,by omega,by omega,fun p H3 fp P3 K3=>?_⟩
   refine ⟨_,rfl,p,8,rfl,by decide,by decide,P3,fun t l m ns qs r H4 l8 l30 ht ft fl fm fq hl hm G P4 K4=>?_⟩
   have k4:Kp [] H2 H4:=Kp.drop K3 fp K4
   refine ⟨_,_,rfl,.inl (.inl ht),rfl,_,_,rfl,_,_,rfl,rfl,?_⟩
   have pl:∀{b:Addr},Fre H3 b->b≠p:=fun {b} f=>by obtain ⟨_,_,e,_⟩:=P3;exact (ne_fre f e).symm
   refine nxp_mid (fun σ H'=>∃l m ns qs,σ=[some (.ref sc),some (.int (0+(i:Int))),some (.ref p),some (.ref l),some (.ref m),o5,o6]/\Txs H' l ns/\Ords H' m qs/\(∀n∈ns,zBa n)/\ns.length<=25/\qs.length<=30/\(∀q∈qs,∀x∈q.1,x∈ns)/\zB1 H' p/\Kp [] H2 H') (fun N hN=>?_) ?_
   ·refine ⟨_,rfl,p,4,rfl,P4,by decide,by decide,fun d H5 d0 d1 P5 K5=>⟨rfl,_,rfl,ite2 (fun _=>?_) (fun _=>?_)⟩⟩
    ·-- _law_names_here=_law_names(_law_purse_here,19+_law_take(_law_purse_here,7))
     refine ⟨_,rfl,_,rfl,p,7,rfl,P5,by decide,by decide,fun d2 H6 x0 x1 P6 K6=>?_⟩
     refine ⟨_,_,rfl,rfl,p,_,rfl,P6,by omega,by omega,fun l2 ns2 H7 fl2 hl2 nl2 nd2 nm2 P7 K7=>?_⟩
     have nlp:l2≠p:=by obtain ⟨_,_,z,_⟩:=P6;exact Ne.symm (ne_fre fl2 z)
     have hln:19<=ns2.length/\ns2.length<=25:=by rw [nl2];omega
     refine ⟨_,rfl,p,4,rfl,P7,by decide,by decide,fun d3 H8 y0 y1 P8 K8=>?_⟩
     have hl8:=K8 _ _ hl2 (nm1 nlp)
     have k28:Kp [] H2 H8:=Kp.drop (Kp.drop (Kp.drop (Kp.drop k4 fp K5) fp K6) fp K7) fp K8
     refine ⟨_,_,rfl,⟨by decide,by decide,by omega,by omega⟩,fun D hD=>zHi (lo:=1) (fun j ys τ H9=>∃zs:List (List Str×Addr),(∃o0,τ=[o0,some (.ref l2)])/\ys=(zs.map fun q=>V.ref q.2)/\zs.length=j/\(∀q∈zs,H9 q.2=some (.tup (q.1.map V.str)))/\(∀q∈zs,∃a b,q.1=[a,b])/\(∀q∈zs,∀x∈q.1,x∈ns2)/\Kp [] H8 H9/\H9 D=some (.lst ys))
      ⟨[],⟨_,rfl⟩,rfl,rfl,(fun q h=>nomatch h),(fun q h=>nomatch h),(fun q h=>nomatch h),Kp.new Kp.refl hD,upd_same⟩ ?_ ?_⟩
     ·rintro j ys τ H9 hj ⟨zs,⟨o0,rfl⟩,rfl,lz,z1,z2,z3,k9,h9⟩
      have hj:j<(d3 - 1).toNat:=hj
      have hl9:=k9 _ _ hl8 (by simp)
      obtain ⟨a,ea⟩:∃a,ns2[j]?=some a:=⟨_,List.getElem?_eq_getElem (by omega)⟩
      obtain ⟨b,eb⟩:∃b,ns2[j+1]?=some b:=⟨_,List.getElem?_eq_getElem (by omega)⟩
      refine ⟨_,rfl,_,rfl,_,_,rfl,rfl,_,_,_,_,rfl,rfl,SqL.of hl9,zA0 (v:=.str a) (by omega) (by rw [show (1+(j:Int) - 1).toNat=j by omega,List.getElem?_map,ea];rfl),_,rfl,_,rfl,_,_,_,_,rfl,rfl,SqL.of hl9,zA0 (v:=.str b) (by omega) (by rw [show (1+(j:Int)).toNat=j+1 by omega,List.getElem?_map,eb];rfl),(by walk_at "ln"),fun t ht=>?_⟩
      have kt:Kp [] H9 (upd H9 t (.tup [.str a,.str b])):=Kp.new Kp.refl ht
      have htt:upd H9 t (.tup [.str a,.str b]) t=some (.tup [.str a,.str b]):=upd_same
      have h10:=kt _ _ h9 (by simp)
      generalize upd H9 t (.tup [.str a,.str b])=H10 at *
      have k810:=k9.trans kt
      have nDt:∀{c:Addr} {o},H10 c=some o->o≠HO.lst (zs.map fun q=>V.ref q.2)->c≠D:=fun h n=>zBd h h10 n
      refine ⟨h10,?_,zs++[([a,b],t)],⟨_,rfl⟩,?_,?_,fun q hq=>?_,fun q hq=>?_,fun q hq=>?_,?_,upd_same⟩
      ·rw [List.length_map,sizeLine_eq];omega
      ·rw [List.map_append];rfl
      ·rw [List.length_append,lz];rfl
      ·rcases List.mem_append.mp hq with z| z
       ·have:=kt _ _ (z1 q z) (by simp)
        exact (upd_ne (nDt this fun y=>nomatch y)).trans this
       ·rw [List.mem_singleton.mp z]
        exact (upd_ne (nDt htt fun y=>nomatch y)).trans htt
      ·rcases List.mem_append.mp hq with z| z
       ·exact z2 q z
       ·rw [List.mem_singleton.mp z];exact ⟨a,b,rfl⟩
      ·rcases List.mem_append.mp hq with z| z
       ·exact z3 q z
       ·rw [List.mem_singleton.mp z]
        intro x hx
        rcases List.mem_cons.mp hx with rfl| hx
        ·exact List.mem_of_getElem? ea
        ·rw [List.mem_singleton.mp hx];exact List.mem_of_getElem? eb
      ·exact fun b o hb nm=>(upd_ne (zAj hb hD)).trans (k810 b o hb nm)
     ·rintro ys τ H9 ⟨zs,⟨o0,rfl⟩,rfl,lz,z1,z2,z3,k9,h9⟩
      exact hN _ _ ⟨l2,D,ns2,zs,rfl,k9 _ _ hl8 (by simp),⟨h9,z1,z2⟩,nm2,hln.2,by omega,z3,P8.kp k9 (by simp),k28.trans k9⟩
    ·have k45:Kp [] H2 H5:=Kp.drop k4 fp K5
     exact hN _ _ ⟨l,m,ns,qs,rfl,K5 _ _ hl (nm1 (pl fl)),hm.kp K5 (nm1 (pl fm)) (fun q hq=>nm1 (pl (fq q hq))),G.nm,by have:=G.few;omega,l30,G.qin,P5,k45⟩
   clear hl hm G P4 K4 k4 ht l8 l30 ft fl fm fq pl
   clear l m ns qs r H4 t
   rintro σ H4 ⟨l,m,ns,qs,rfl,hl,hm,nm,ln,lq,qin,P4,k4⟩
   refine ⟨_,rfl,_,rfl,m,qs,rfl,SqL.of hm.top,fun q hq=>.inl (.inl (hm.row q hq)),by omega,fun sa yk hsa y1 y2 y3 y4=>?_⟩
   have fsa:Fre H4 sa:=hsa
   refine ⟨sa,yk,rfl,upd_same,fun q hq=>.inl (.inl ((upd_ne (ne_fre fsa (hm.row q (y1 q hq)))).trans (hm.row q (y1 q hq)))),fun q hq=>?_,by omega,fun c3 zs hc3 z1 z2=>?_⟩
   ·obtain ⟨u,v,e⟩:=hm.two q (y1 q hq)
    rw [e];simp
   have k5:Kp [] H4 (upd (upd H4 sa (TSt P w sa yk)) c3 (.lst (zs.map fun q=>V.ref q.2))):=by
    have h1:Kp [] H4 (upd H4 sa (TSt P w sa yk)):=Kp.new Kp.refl fsa
    exact Kp.new h1 (h1.fre (show Fre (upd H4 sa (TSt P w sa yk)) c3 from hc3) (by simp))
   have hcs:(upd (upd H4 sa (TSt P w sa yk)) c3 (.lst (zs.map fun q=>V.ref q.2))) c3=some (.lst (zs.map fun q=>V.ref q.2)):=upd_same
   have zq:∀q∈zs,q∈qs:=fun q hq=>y1 q (z1.mem_iff.mp hq)
   have zl:=z1.length_eq
   have nd:=(z1.map (·.1)).nodup_iff.mpr y3
   generalize upd (upd H4 sa (TSt P w sa yk)) c3 (.lst (zs.map fun q=>V.ref q.2))=H5 at k5 hcs ⊢
   have Oz:Ords H5 c3 zs:=⟨hcs,fun q hq=>k5 _ _ (hm.row q (zq q hq)) (by simp),fun q hq=>hm.two q (zq q hq)⟩
   have in2:∀q∈zs,∃a b,q.1=[a,b]/\a∈ns/\b∈ns:=fun q hq=>by
    obtain ⟨a,b,e⟩:=Oz.two q hq
    have:=qin q (zq q hq)
    rw [e] at this
    exact ⟨a,b,e,this a (by simp),this b (by simp)⟩
   have twz:Twos (zs.map (·.1)):=fun k hk=>by
    obtain ⟨q,q1,rfl⟩:=List.mem_map.mp hk
    obtain ⟨a,b,e,ha,hb⟩:=in2 q q1
    exact ⟨a,b,e,nm a ha,nm b hb⟩
   have l64:(zs.map (·.1)).length<=30:=by rw [List.length_map];omega
   have xl:=txt_len2 nm ln twz l64
   have xc:=txt_cnt nm twz
   refine ⟨l,c3,ns,zs,rfl,k5 _ _ hl (by simp),Oz,nm,ln,by omega,twz,fun H6 k6=>?_⟩
   generalize txtS ns (zs.map (·.1))=x at xl xc
   have P6:=(P4.kp k5 (by simp)).kp k6 (by simp)
   have k26:=k4.trans (k5.trans k6)
   refine ⟨_,rfl,p,12,rfl,P6,by decide,by decide,fun d H7 d0 d1 P7 K7=>?_⟩
   have k27:=Kp.drop k26 fp K7
   refine ⟨_,_,rfl,rfl,_,rfl,by omega,by omega,zBu (lo:=0) (n:=(1+d).toNat) (fun j σ H8=>∃o6:Option V,σ=[some (.ref sc),some (.int (0+(i:Int))),some (.ref p),some (.ref l),some (.ref m),some (.str x),o6]/\zB1 H8 p/\Kp [] H2 H8) ⟨_,rfl,P7,k27⟩ ?_ ?_⟩
   ·rintro j σ H8 hj ⟨o6,rfl,P8,k8⟩
    refine ⟨_,rfl,_,rfl,p,x,rfl,P8,xl,fun y H9 ly cy P9 K9=>?_⟩
    have sy:(Txt.split y "; ").length<=63:=by have:=split_cnt y;omega
    refine ⟨_,_,rfl,.txt y (by omega) sy,fun H10 k10=>⟨_,rfl,iteF ?_⟩⟩
    exact ⟨_,rfl,P9.kp k10 (by simp),(Kp.drop k8 fp K9).trans k10⟩
   ·rintro σ H8 ⟨o6,rfl,P8,k8⟩
    exact ⟨_,_,_,_,_,_,rfl,k2.trans k8⟩
  ·rintro σ H2 ⟨o1,o2,o3,o4,o5,o6,rfl,k2⟩
   refine ⟨(by walk_at "ln"),fun a1 g1=>⟨(by walk_at "ln"),fun a2 g2=>fun a3 g3=>⟨(by walk_at "ln"),fun g hg=>?_⟩⟩⟩
   have k1:Kp [] H2 (upd H2 a1 (.lst [.str "a"])):=Kp.new Kp.refl g1
   have h1:upd H2 a1 (.lst [.str "a"]) a1=some (.lst [.str "a"]):=upd_same
   generalize upd H2 a1 (.lst [.str "a"])=H3 at *
   have k2:Kp [] H3 (upd H3 a2 (.tup [.str "a",.str "b"])):=Kp.new Kp.refl g2
   have h2:upd H3 a2 (.tup [.str "a",.str "b"]) a2=some (.tup [.str "a",.str "b"]):=upd_same
   generalize upd H3 a2 (.tup [.str "a",.str "b"])=H4 at *
   have k3:Kp [] H4 (upd H4 a3 (.dK [])):=Kp.new Kp.refl g3
   have h3:upd H4 a3 (.dK []) a3=some (.dK []):=upd_same
   generalize upd H4 a3 (.dK [])=H5 at *
   have k4:Kp [] H5 (upd H5 g (.lst [.non,.int 5,.bl true,.ref a1,.ref a2,.ref a3])):=Kp.new Kp.refl hg
   have h4:upd H5 g (.lst [.non,.int 5,.bl true,.ref a1,.ref a2,.ref a3]) g=some (.lst [.non,.int 5,.bl true,.ref a1,.ref a2,.ref a3]):=upd_same
   generalize upd H5 g (.lst [.non,.int 5,.bl true,.ref a1,.ref a2,.ref a3])=H6 at *
   have q1:=k4 _ _ (k3 _ _ (k2 _ _ h1 (by simp)) (by simp)) (by simp)
   have q2:=k4 _ _ (k3 _ _ h2 (by simp)) (by simp)
   have q3:=k4 _ _ h3 (by simp)
   have ask:∀v∈[V.non,.int 5,.bl true,.ref a1,.ref a2,.ref a3],Asked K H6 v none:=fun v hv=>by
    simp only [List.mem_cons,List.not_mem_nil,or_false] at hv
    rcases hv with rfl| rfl| rfl| rfl| rfl| rfl
    ·exact .other _ _ (fun _ _=>TyOf.non) rfl
    ·exact .other _ _ (fun _ _=>TyOf.int _) rfl
    ·exact .other _ _ (fun _ _=>TyOf.bl _) rfl
    ·exact .other _ _ (fun _ k=>TyOf.lst (k _ _ q1 (by simp))) rfl
    ·exact .other _ _ (fun _ k=>TyOf.tup (k _ _ q2 (by simp))) rfl
    ·exact .other _ _ (fun _ k=>TyOf.dK (k _ _ q3 (by simp))) rfl
   refine ⟨_,rfl,⟨_,SqL.of h4⟩,fun B hB=>zBl [V.non,.int 5,.bl true,.ref a1,.ref a2,.ref a3] (fun i ys τ H7=>(∃o0,τ=[o0])/\ys=List.replicate i (V.bl true)/\Kp [] H6 H7/\H7 B=some (.lst ys))
    ⟨⟨_,rfl⟩,rfl,Kp.new Kp.refl hB,upd_same⟩ (fun i ys τ H7 ⟨_,_,k7,_⟩=>SqL.of (k7 g _ h4 (by simp))) ?_ ?_⟩
   ·rintro i v ys τ H7 hv ⟨⟨o0,rfl⟩,rfl,k7,h7⟩
    have hi:i<6:=(List.getElem?_eq_some_iff.mp hv).1
    refine ⟨_,rfl,v,none,rfl,(ask v (List.mem_of_getElem? hv)).kp k7,fun H8 k8=>?_⟩
    refine ⟨k8 _ _ h7 (by simp),?_,⟨_,rfl⟩,?_,Kp.new (k7.trans k8) hB,upd_same⟩
    ·rw [List.length_replicate,sizeLine_eq];omega
    ·rw [List.replicate_succ']
   ·rintro ys τ H7 ⟨_,rfl,k7,h7⟩
    exact ⟨B,[true,true,true,true,true,true],rfl,SqL.of h7,k H7⟩
end
def Hd (K:PySem.W.Frag) (x q:Str) (st:Stmt) (f:Addr):Prop:=∃oc od kV dc pm an cd ct sl,K.lookup f=some ⟨oc,od,.func (PySem.W.fnOf x q (zCe st) (zBr st) (zAe st) .none kV dc pm an cd ct),sl⟩/\PySem.W.codeIn K cd q=true/\PySem.W.keepIn K (.ref f)=true
def Dft (K:PySem.W.Frag) (x:Str) (st:Stmt) (f:Addr):Prop:=PySem.W.nsIn K mainGlobals x=some (some (.ref f))/\Hd K x x st f
def nnB (K:PySem.W.Frag) (x:Str):Bool:=match PySem.W.nsIn K mainGlobals x with
 | some none=>true
 | _=>false
theorem nnB_of {K:PySem.W.Frag} {x:Str} {h:Heap} {mg:Str->Option Value} (X:K.In h) (G:h.Ns mainGlobals mg) {xs:List Str} (a:xs.all (nnB K)=true) (m:x∈xs):mg x=none:=by
 have e:=List.all_eq_true.mp a x m
 unfold nnB at e
 split at e
 ·rename_i e2
  exact PySem.W.mg_none_of X G e2
 ·cases e
theorem Hd.to {K:PySem.W.Frag} {x q:Str} {st:Stmt} {f:Addr} (t:Hd K x q st f):∃fd,Fun K x q st f fd:=by
 obtain ⟨_,_,_,_,_,_,_,_,_,l,c,k⟩:=t
 exact ⟨_,fun_mk l c k⟩
section
variable {K:PySem.W.Frag} {x q a b c d:Str} {st:Stmt} {f:Addr} {fd:FuncData} (F:Fun K x q st f fd)
include F
theorem _root_.L2.Fun.b1 (h:∀(kV doc pm:Value) (an:Option Addr) (cdv ct u:Value),bindArgs (PySem.W.fnOf x q (zCe st) (zBr st) (zAe st) .none kV doc pm an cdv ct) ⟨[u],[]⟩=pure [(a,u)]:=by intros;rfl):zC5 K fd [a] []:=F.binds fun kV doc pm an cdv ct us hl=>match us,hl with| [u],_=>h kV doc pm an cdv ct u
theorem _root_.L2.Fun.b2 (h:∀(kV doc pm:Value) (an:Option Addr) (cdv ct u v:Value),bindArgs (PySem.W.fnOf x q (zCe st) (zBr st) (zAe st) .none kV doc pm an cdv ct) ⟨[u,v],[]⟩=pure [(a,u),(b,v)]:=by intros;rfl):zC5 K fd [a,b] []:=F.binds fun kV doc pm an cdv ct us hl=>match us,hl with| [u,v],_=>h kV doc pm an cdv ct u v
theorem _root_.L2.Fun.b3 (h:∀(kV doc pm:Value) (an:Option Addr) (cdv ct u v w:Value),bindArgs (PySem.W.fnOf x q (zCe st) (zBr st) (zAe st) .none kV doc pm an cdv ct) ⟨[u,v,w],[]⟩=pure [(a,u),(b,v),(c,w)]:=by intros;rfl):zC5 K fd [a,b,c] []:=F.binds fun kV doc pm an cdv ct us hl=>match us,hl with| [u,v,w],_=>h kV doc pm an cdv ct u v w
theorem _root_.L2.Fun.b4 (h:∀(kV doc pm:Value) (an:Option Addr) (cdv ct u v w z:Value),bindArgs (PySem.W.fnOf x q (zCe st) (zBr st) (zAe st) .none kV doc pm an cdv ct) ⟨[u,v,w,z],[]⟩=pure [(a,u),(b,v),(c,w),(d,z)]:=by intros;rfl):zC5 K fd [a,b,c,d] []:=F.binds fun kV doc pm an cdv ct us hl=>match us,hl with| [u,v,w,z],_=>h kV doc pm an cdv ct u v w z
end
section
variable {K:PySem.W.Frag} {mg:Str->Option Value} {x q:Str} {st:Stmt} {f:Addr} {fd:FuncData} {ps:List Str} {sp:Sp} {k:Nat} (P:Program) (w:World) (base:Heap)
theorem cal (g:mg x=some (.ref f)) (F:Fun K x q st f fd) (b:zC5 K fd ps []) (h:FnOk P w K mg base CX0 k f fd ps sp):Cal P w K mg base x k ps sp:=⟨f,fd,g,F.kp,b,h⟩
theorem calX (g:mg x=some (.ref f)) (F:Fun K x q st f fd) (b:zC5 K fd ps []) (h:FnOk P w K mg base (CX1 P w) k f fd ps sp):CalX P w K mg base x k ps sp:=⟨f,fd,g,F.kp,b,h⟩
def Dfm (K:PySem.W.Frag) (C:Addr) (m q:Str) (st:Stmt) (f:Addr):Prop:=PySem.W.findIn K (.ref C) m=some (some (.ref f))/\PySem.W.isFn K (.ref f)=true/\Hd K m q st f
theorem mth {C:Addr} {m:Str} (t:Dfm K C m q st f) (F:Fun K m q st f fd) (b:zC5 K fd ps []) (h:FnOk P w K mg base CX0 k f fd ps sp):Mth P w K mg base C m k ps sp:=⟨f,fd,⟨t.1,t.2.1,F.kp⟩,b,h⟩
end
def DftD (K:PySem.W.Frag) (x:Str) (st:Stmt) (f:Addr) (dv:Int):Prop:=∃T t,PySem.W.nsIn K mainGlobals x=some (some (.ref f))/\(∃oc od kV dc pm an cd ct sl,K.lookup f=some ⟨oc,od,.func (PySem.W.fnOf x x (zCe st) (zBr st) (zAe st) (.ref T) kV dc pm an cd ct),sl⟩/\PySem.W.codeIn K cd x=true/\PySem.W.keepIn K (.ref f)=true)/\∃To Td Tn Ts,K.lookup T=some ⟨To,Td,.seq #[.int dv t] Tn,Ts⟩
theorem all_mk {l:PySem.W.OpenLaw} {w:World} {K:PySem.W.Frag} {h:Heap} {mg:Str->Option Value} {fa:Addr} (X:K.In h) (G:h.Ns mainGlobals mg) (hfa:mg "law" = some (.ref fa)) {C f0 f1 f2 f3 f4 f5 f6 f7 f8 f9 f10 f11 f12 f13 f14 f15 f16 f17 f18 f19 f20 f21 f22 f23 f24 f25 f26 f27 f28 f29 f30 f31 f32 f33 f34 f35 f36 c_BenchError c_NoName c_Twice c_Stranger c_Ring c_TooMany c_NoText c_NoBench c_NoRow c_NoWood c_NoEnd c_NoJob c_NoWindow c_NoLength c_NoPaper c_NoTurns c_NoLine:Addr} {t_MOST_JOBS t_LONGEST_NAME:Tok}
  (aC:PySem.W.nsIn K mainGlobals "Jobs" = some (some (.ref C)))
  (x_BenchError:PySem.W.nsIn K mainGlobals "BenchError" = some (some (.ref c_BenchError)))
  (x_NoName:PySem.W.nsIn K mainGlobals "NoName" = some (some (.ref c_NoName)))
  (x_Twice:PySem.W.nsIn K mainGlobals "Twice" = some (some (.ref c_Twice)))
  (x_Stranger:PySem.W.nsIn K mainGlobals "Stranger" = some (some (.ref c_Stranger)))
  (x_Ring:PySem.W.nsIn K mainGlobals "Ring" = some (some (.ref c_Ring)))
  (x_TooMany:PySem.W.nsIn K mainGlobals "TooMany" = some (some (.ref c_TooMany)))
  (x_NoText:PySem.W.nsIn K mainGlobals "NoText" = some (some (.ref c_NoText)))
  (x_NoBench:PySem.W.nsIn K mainGlobals "NoBench" = some (some (.ref c_NoBench)))
  (x_NoRow:PySem.W.nsIn K mainGlobals "NoRow" = some (some (.ref c_NoRow)))
  (x_NoWood:PySem.W.nsIn K mainGlobals "NoWood" = some (some (.ref c_NoWood)))
  (x_NoEnd:PySem.W.nsIn K mainGlobals "NoEnd" = some (some (.ref c_NoEnd)))
  (x_NoJob:PySem.W.nsIn K mainGlobals "NoJob" = some (some (.ref c_NoJob)))
  (x_NoWindow:PySem.W.nsIn K mainGlobals "NoWindow" = some (some (.ref c_NoWindow)))
  (x_NoLength:PySem.W.nsIn K mainGlobals "NoLength" = some (some (.ref c_NoLength)))
  (x_NoPaper:PySem.W.nsIn K mainGlobals "NoPaper" = some (some (.ref c_NoPaper)))
  (x_NoTurns:PySem.W.nsIn K mainGlobals "NoTurns" = some (some (.ref c_NoTurns)))
  (x_NoLine:PySem.W.nsIn K mainGlobals "NoLine" = some (some (.ref c_NoLine)))
  (l0:Dft K "_law_take" s_take f0)
  (l1:Dft K "_law_purse" s_purse f1)
  (l2:Dft K "_law_cell" s_cell f2)
  (l3:Dft K "is_name" zFj f3)
  (l4:Dft K "is_one_of" zE5 f4)
  (l5:Dft K "words_for" zE4 f5)
  (l6:Dfm K c_Stranger "__init__" "Stranger.__init__" zBy f6)
  (l7:Dfm K c_Twice "__init__" "Twice.__init__" zCp f7)
  (l8:DftD K "own_copy" zEj f8 12)
  (l9:Dft K "check_job" zCz f9)
  (l10:Dft K "check_names" zB7 f10)
  (l11:Dft K "check_parts" zCv f11)
  (l12:Dft K "told_ahead" zD5 f12)
  (l13:Dft K "has_all" zFk f13)
  (l14:Dft K "joined" zI0 f14)
  (l15:Dft K "ring_among" zDb f15)
  (l16:Dfm K c_Ring "__init__" "Ring.__init__" zC1 f16)
  (l17:Dft K "all_ahead" zC0 f17)
  (l18:Dfm K C "__init__" "Jobs.__init__" zAw f18)
  (l19:Dfm K C "names" "Jobs.names" zD8 f19)
  (l20:Dfm K C "orders" "Jobs.orders" zDy f20)
  (l21:Dft K "read_names" zD7 f21)
  (l22:Dft K "read_order" zD6 f22)
  (l23:Dft K "read_jobs" zCc f23)
  (l24:Dft K "_law_names" zIx f24)
  (l25:Dft K "_law_pairs" s_pairs f25)
  (l26:Dft K "_law_jobs" s_jobs f26)
  (l27:Dft K "_law_kinds" zIz f27)
  (l28:Dft K "_law_is_ring" zFi f28)
  (l29:Dft K "_law_is_name" zEk f29)
  (l30:Dft K "_law_parts" zFz f30)
  (l31:Dft K "_law_goes_round" zCl f31)
  (l32:Dft K "_law_due" s_due f32)
  (l33:Dft K "_law_right" s_right f33)
  (l34:Dft K "_law_text" s_text f34)
  (l35:Dft K "_law_otherwise" s_other f35)
  (l36:Dft K "law" zIy f36)
  (pg:PySem.W.plainGet K C Str.empty=true)
  (hd:PySem.W.hasDictIn K C=true)
  (po:PySem.W.plainOver K C=true)
  (sa:PySem.W.findIn K (.ref C) "__setattr__" = some (some (.builtin "object.__setattr__")))
  (mk:PySem.W.makesIn K C=true)
  (kc:PySem.W.keepIn K (.ref C)=true)
  (iA:PySem.W.findIn K (.ref C) "__class__" = some (some (.builtin "object.__class__")))
  (iN:PySem.W.specialIn K (.builtin "object.__class__") "__get__" = some (some (.builtin "getset_descriptor.__get__")))
  (iT:PySem.W.takesIn K (.builtin "object.__class__")=some true)
  (iM:PySem.W.mroIn K C (.type "object")=some true)
  (n_row:PySem.W.findIn K (.ref C) "row" = some none)
  (n_pairs:PySem.W.findIn K (.ref C) "pairs" = some none)
  (n_above:PySem.W.findIn K (.ref C) "above" = some none)
  (zz:List.all (α:=Str) ["len", "max", "range", "int", "str", "list", "all", "min", "any", "dict", "bool", "reversed", "isinstance", "sorted", "set", "tuple", "ValueError"] (nnB K)=true)
  (f_ga:PySem.W.specialIn K (.ref c_BenchError) "__getattribute__" = some (some (.builtin "type.__getattribute__")))
  (f_rd:PySem.W.readsIn K c_BenchError (.type "type")=true)
  (f_fi:PySem.W.findCls K (.ref c_BenchError) (.type "type") "__init__" = some (.val (.builtin "ValueError.__init__")))
  (f_sa_Twice:PySem.W.findIn K (.ref c_Twice) "__setattr__" = some (some (.builtin "object.__setattr__")))
  (f_hd_Twice:PySem.W.hasDictIn K c_Twice=true)
  (f_ob_Twice:PySem.W.mroIn K c_Twice (.type "object")=some true)
  (f_be_Twice:PySem.W.mroIn K c_Twice (.type "BaseException")=some true)
  (f_nr_Twice:PySem.W.findIn K (.ref c_Twice) "name" = some none)
  (f_gg_Twice:PySem.W.findIn K (.ref c_Twice) "__getattribute__" = some (some (.builtin "BaseException.__getattribute__")))
  (f_gn_Twice:PySem.W.findIn K (.ref c_Twice) "__getattr__" = some none)
  (f_kp_Twice:PySem.W.keepIn K (.ref c_Twice)=true)
  (f_sa_Stranger:PySem.W.findIn K (.ref c_Stranger) "__setattr__" = some (some (.builtin "object.__setattr__")))
  (f_hd_Stranger:PySem.W.hasDictIn K c_Stranger=true)
  (f_ob_Stranger:PySem.W.mroIn K c_Stranger (.type "object")=some true)
  (f_be_Stranger:PySem.W.mroIn K c_Stranger (.type "BaseException")=some true)
  (f_nr_Stranger:PySem.W.findIn K (.ref c_Stranger) "name" = some none)
  (f_gg_Stranger:PySem.W.findIn K (.ref c_Stranger) "__getattribute__" = some (some (.builtin "BaseException.__getattribute__")))
  (f_gn_Stranger:PySem.W.findIn K (.ref c_Stranger) "__getattr__" = some none)
  (f_kp_Stranger:PySem.W.keepIn K (.ref c_Stranger)=true)
  (f_sa_Ring:PySem.W.findIn K (.ref c_Ring) "__setattr__" = some (some (.builtin "object.__setattr__")))
  (f_hd_Ring:PySem.W.hasDictIn K c_Ring=true)
  (f_ob_Ring:PySem.W.mroIn K c_Ring (.type "object")=some true)
  (f_be_Ring:PySem.W.mroIn K c_Ring (.type "BaseException")=some true)
  (f_nr_Ring:PySem.W.findIn K (.ref c_Ring) "ring" = some none)
  (f_gg_Ring:PySem.W.findIn K (.ref c_Ring) "__getattribute__" = some (some (.builtin "BaseException.__getattribute__")))
  (f_gn_Ring:PySem.W.findIn K (.ref c_Ring) "__getattr__" = some none)
  (f_kp_Ring:PySem.W.keepIn K (.ref c_Ring)=true)
  (f_ok_TooMany:PySem.W.excIn K c_TooMany bmVE "ValueError.__new__" = true)
  (f_ok_NoText:PySem.W.excIn K c_NoText bmVE "ValueError.__new__" = true)
  (f_sub_Twice:PySem.W.mroIn K c_Twice (.ref c_BenchError)=some true)
  (f_sub_Stranger:PySem.W.mroIn K c_Stranger (.ref c_BenchError)=some true)
  (f_sub_Ring:PySem.W.mroIn K c_Ring (.ref c_BenchError)=some true)
  (f_sub_TooMany:PySem.W.mroIn K c_TooMany (.ref c_BenchError)=some true)
  (f_sub_NoText:PySem.W.mroIn K c_NoText (.ref c_BenchError)=some true)
  (f_xb_BenchError:excB K c_BenchError=true)
  (f_xb_Twice:excB K c_Twice=true)
  (f_xb_Stranger:excB K c_Stranger=true)
  (f_xb_Ring:excB K c_Ring=true)
  (f_kx_Twice:kxB K [c_NoName,c_Twice,c_Stranger,c_Ring,c_TooMany,c_NoText,c_NoBench,c_NoRow,c_NoWood,c_NoEnd,c_NoJob,c_NoWindow,c_NoLength,c_NoPaper,c_NoTurns,c_NoLine] c_BenchError c_Twice 1=true)
  (f_kx_Stranger:kxB K [c_NoName,c_Twice,c_Stranger,c_Ring,c_TooMany,c_NoText,c_NoBench,c_NoRow,c_NoWood,c_NoEnd,c_NoJob,c_NoWindow,c_NoLength,c_NoPaper,c_NoTurns,c_NoLine] c_BenchError c_Stranger 2=true)
  (f_kx_Ring:kxB K [c_NoName,c_Twice,c_Stranger,c_Ring,c_TooMany,c_NoText,c_NoBench,c_NoRow,c_NoWood,c_NoEnd,c_NoJob,c_NoWindow,c_NoLength,c_NoPaper,c_NoTurns,c_NoLine] c_BenchError c_Ring 3=true)
  (f_kx_TooMany:kxB K [c_NoName,c_Twice,c_Stranger,c_Ring,c_TooMany,c_NoText,c_NoBench,c_NoRow,c_NoWood,c_NoEnd,c_NoJob,c_NoWindow,c_NoLength,c_NoPaper,c_NoTurns,c_NoLine] c_BenchError c_TooMany 4=true)
  (f_kx_NoText:kxB K [c_NoName,c_Twice,c_Stranger,c_Ring,c_TooMany,c_NoText,c_NoBench,c_NoRow,c_NoWood,c_NoEnd,c_NoJob,c_NoWindow,c_NoLength,c_NoPaper,c_NoTurns,c_NoLine] c_BenchError c_NoText 5=true)
  (e_MOST_JOBS:PySem.W.nsIn K mainGlobals "MOST_JOBS" = some (some (.int 20 t_MOST_JOBS)))
  (e_LONGEST_NAME:PySem.W.nsIn K mainGlobals "LONGEST_NAME" = some (some (.int 8 t_LONGEST_NAME)))
  :∃fd:FuncData,(∀(s:Shared) (v:Value),BindsTo s fd ⟨[v],[]⟩ [("_law_script",v)])/\∀base:Heap,K.In base->base.Ns mainGlobals mg->FnOk l.prog w K mg base CX0 10 fa fd ["_law_script"] (spLaw K):=by
 have z:∀x,x∈_->mg x=none:=fun x m=>nnB_of X G zz m
 have m:=fun (x:Str) (v:Value) (e:PySem.W.nsIn K mainGlobals x=some (some v))=>PySem.W.mg_of X G e
 obtain ⟨a,_,_,kV,dc,pm,an,cd,ct,_,u,v,k⟩:=l36
 cases hfa.symm.trans (m _ _ a)
 have T:Txt K mg:={z_len:=z _ (by decide),z_max:=z _ (by decide),z_range:=z _ (by decide),z_int:=z _ (by decide),z_str:=z _ (by decide),z_list:=z _ (by decide),z_all:=z _ (by decide),z_min:=z _ (by decide),z_any:=z _ (by decide),z_dict:=z _ (by decide),z_bool:=z _ (by decide),z_reversed:=z _ (by decide),z_isinstance:=z _ (by decide),z_sorted:=z _ (by decide),z_set:=z _ (by decide),z_tuple:=z _ (by decide),c_MOST_JOBS:=⟨_,m _ _ e_MOST_JOBS⟩,c_LONGEST_NAME:=⟨_,m _ _ e_LONGEST_NAME⟩}
 have U:JC K mg C:=⟨⟨pg,hd,po,sa⟩,n_row,n_pairs,n_above,m _ _ aC⟩
 have kx_Twice:KX K (ofL [c_NoName,c_Twice,c_Stranger,c_Ring,c_TooMany,c_NoText,c_NoBench,c_NoRow,c_NoWood,c_NoEnd,c_NoJob,c_NoWindow,c_NoLength,c_NoPaper,c_NoTurns,c_NoLine]) c_BenchError c_Twice 1:=KX.of f_kx_Twice f_xb_Twice (zDn f_sub_Twice) rfl rfl
 have kx_Stranger:KX K (ofL [c_NoName,c_Twice,c_Stranger,c_Ring,c_TooMany,c_NoText,c_NoBench,c_NoRow,c_NoWood,c_NoEnd,c_NoJob,c_NoWindow,c_NoLength,c_NoPaper,c_NoTurns,c_NoLine]) c_BenchError c_Stranger 2:=KX.of f_kx_Stranger f_xb_Stranger (zDn f_sub_Stranger) rfl rfl
 have kx_Ring:KX K (ofL [c_NoName,c_Twice,c_Stranger,c_Ring,c_TooMany,c_NoText,c_NoBench,c_NoRow,c_NoWood,c_NoEnd,c_NoJob,c_NoWindow,c_NoLength,c_NoPaper,c_NoTurns,c_NoLine]) c_BenchError c_Ring 3:=KX.of f_kx_Ring f_xb_Ring (zDn f_sub_Ring) rfl rfl
 have kx_TooMany:KX K (ofL [c_NoName,c_Twice,c_Stranger,c_Ring,c_TooMany,c_NoText,c_NoBench,c_NoRow,c_NoWood,c_NoEnd,c_NoJob,c_NoWindow,c_NoLength,c_NoPaper,c_NoTurns,c_NoLine]) c_BenchError c_TooMany 4:=KX.of f_kx_TooMany (excB_of f_ok_TooMany) (zDn f_sub_TooMany) rfl rfl
 have kx_NoText:KX K (ofL [c_NoName,c_Twice,c_Stranger,c_Ring,c_TooMany,c_NoText,c_NoBench,c_NoRow,c_NoWood,c_NoEnd,c_NoJob,c_NoWindow,c_NoLength,c_NoPaper,c_NoTurns,c_NoLine]) c_BenchError c_NoText 5:=KX.of f_kx_NoText (excB_of f_ok_NoText) (zDn f_sub_NoText) rfl rfl
 have RR:RC K mg c_BenchError c_Ring:={bi:=⟨f_ga,f_rd,f_fi⟩,mgB:=m _ _ x_BenchError,xc:=⟨f_xb_Ring,f_sa_Ring,f_hd_Ring,f_ob_Ring⟩,nr:=f_nr_Ring,mgR:=m _ _ x_Ring,gt:=⟨f_hd_Ring,f_be_Ring,f_gg_Ring,f_gn_Ring⟩,self:=zDn f_sub_Ring}
 have RT:XF K mg c_BenchError c_Twice "Twice" := {bi:=⟨f_ga,f_rd,f_fi⟩,mgB:=m _ _ x_BenchError,xc:=⟨f_xb_Twice,f_sa_Twice,f_hd_Twice,f_ob_Twice⟩,nr:=f_nr_Twice,mgX:=m _ _ x_Twice,gt:=⟨f_hd_Twice,f_be_Twice,f_gg_Twice,f_gn_Twice⟩,self:=zDn f_sub_Twice}
 have RS:XF K mg c_BenchError c_Stranger "Stranger" := {bi:=⟨f_ga,f_rd,f_fi⟩,mgB:=m _ _ x_BenchError,xc:=⟨f_xb_Stranger,f_sa_Stranger,f_hd_Stranger,f_ob_Stranger⟩,nr:=f_nr_Stranger,mgX:=m _ _ x_Stranger,gt:=⟨f_hd_Stranger,f_be_Stranger,f_gg_Stranger,f_gn_Stranger⟩,self:=zDn f_sub_Stranger}
 have RM:X0 K mg c_BenchError c_TooMany "TooMany" := ⟨f_ok_TooMany,m _ _ x_TooMany,zDn f_sub_TooMany⟩
 have RN:X0 K mg c_BenchError c_NoText "NoText" := ⟨f_ok_NoText,m _ _ x_NoText,zDn f_sub_NoText⟩
 have KMd:KM mg (ofL [c_NoName,c_Twice,c_Stranger,c_Ring,c_TooMany,c_NoText,c_NoBench,c_NoRow,c_NoWood,c_NoEnd,c_NoJob,c_NoWindow,c_NoLength,c_NoPaper,c_NoTurns,c_NoLine]):={m0:=m _ _ x_NoName,m1:=m _ _ x_Twice,m2:=m _ _ x_Stranger,m3:=m _ _ x_Ring,m4:=m _ _ x_TooMany,m5:=m _ _ x_NoText,m6:=m _ _ x_NoBench,m7:=m _ _ x_NoRow,m8:=m _ _ x_NoWood,m9:=m _ _ x_NoEnd,m10:=m _ _ x_NoJob,m11:=m _ _ x_NoWindow,m12:=m _ _ x_NoLength,m13:=m _ _ x_NoPaper,m14:=m _ _ x_NoTurns,m15:=m _ _ x_NoLine,zv:=z _ (by decide)}
 have VJ:JI K C:=⟨iA,iN,iT,iM⟩
 obtain ⟨_,F0⟩:=l0.2.to
 obtain ⟨_,F1⟩:=l1.2.to
 obtain ⟨_,F2⟩:=l2.2.to
 obtain ⟨_,F3⟩:=l3.2.to
 obtain ⟨_,F4⟩:=l4.2.to
 obtain ⟨_,F5⟩:=l5.2.to
 obtain ⟨_,F6⟩:=l6.2.2.to
 obtain ⟨_,F7⟩:=l7.2.2.to
 obtain ⟨T8,t8,a8,⟨_,_,_,_,_,_,_,_,_,u8,v8,k8⟩,_,_,_,_,d8⟩:=l8
 have F8:FunD K "own_copy" "own_copy" zEj f8 _ T8 #[.int 12 t8]:=⟨⟨_,_,_,_,_,_,_,_,_,rfl,u8,v8⟩,⟨_,_,d8,rfl⟩,k8⟩
 have b8:=F8.binds (ps:=["thing", "depth"]) (ds:=[]) fun _ _ _ _ _ _ us hl=>match us,hl with| [_,_],_=>⟨_,rfl,rfl⟩
 have bd8:=F8.binds (ps:=["thing", "depth"]) (ds:=[.int 12 t8]) fun _ _ _ _ _ _ us hl=>match us,(show us.length=1 by simpa using hl) with| [_],_=>⟨_,rfl,rfl⟩
 obtain ⟨_,F9⟩:=l9.2.to
 obtain ⟨_,F10⟩:=l10.2.to
 obtain ⟨_,F11⟩:=l11.2.to
 obtain ⟨_,F12⟩:=l12.2.to
 obtain ⟨_,F13⟩:=l13.2.to
 obtain ⟨_,F14⟩:=l14.2.to
 obtain ⟨_,F15⟩:=l15.2.to
 obtain ⟨_,F16⟩:=l16.2.2.to
 obtain ⟨_,F17⟩:=l17.2.to
 obtain ⟨_,F18⟩:=l18.2.2.to
 obtain ⟨_,F19⟩:=l19.2.2.to
 obtain ⟨_,F20⟩:=l20.2.2.to
 obtain ⟨_,F21⟩:=l21.2.to
 obtain ⟨_,F22⟩:=l22.2.to
 obtain ⟨_,F23⟩:=l23.2.to
 obtain ⟨_,F24⟩:=l24.2.to
 obtain ⟨_,F25⟩:=l25.2.to
 obtain ⟨_,F26⟩:=l26.2.to
 obtain ⟨_,F27⟩:=l27.2.to
 obtain ⟨_,F28⟩:=l28.2.to
 obtain ⟨_,F29⟩:=l29.2.to
 obtain ⟨_,F30⟩:=l30.2.to
 obtain ⟨_,F31⟩:=l31.2.to
 obtain ⟨_,F32⟩:=l32.2.to
 obtain ⟨_,F33⟩:=l33.2.to
 obtain ⟨_,F34⟩:=l34.2.to
 obtain ⟨_,F35⟩:=l35.2.to
 have F36:=fun_mk (st:=zIy) u v k
 refine ⟨PySem.W.fnOf "law" "law" (zCe zIy) (zBr zIy) (zAe zIy) .none kV dc pm an cd ct,fun s v=>.of_eq rfl,fun B _ _=>?_⟩
 have C_take:=cal l.prog w B (m _ _ l0.1) F0 F0.b2 (ok_take F0)
 have C_purse:=cal l.prog w B (m _ _ l1.1) F1 F1.b2 (ok_purse F1 T)
 have C_cell:=cal l.prog w B (m _ _ l2.1) F2 F2.b2 (ok_cell F2 T)
 have C_is_name:=cal l.prog w B (m _ _ l3.1) F3 F3.b1 (ok_is_name F3 T)
 have C_is_one_of:=cal l.prog w B (m _ _ l4.1) F4 F4.b2 (ok_is_one_of F4 T)
 have C_words_for:=cal l.prog w B (m _ _ l5.1) F5 F5.b2 (ok_words_for F5 T)
 have M_Stranger:MkrX l.prog w K mg B c_Stranger 2 ["self", "name"] (zE0 c_Stranger):=⟨f6,_,⟨f_xb_Stranger,l6.1,l6.2.1,f_kp_Stranger⟩,F6.b2,(zGe F6 RS C_words_for)⟩
 have M_Twice:MkrX l.prog w K mg B c_Twice 2 ["self", "name"] (zE0 c_Twice):=⟨f7,_,⟨f_xb_Twice,l7.1,l7.2.1,f_kp_Twice⟩,F7.b2,(zJb F7 RT C_words_for)⟩
 have C_own_copy:CalD l.prog w K mg B "own_copy" 1 ["thing", "depth"] [.int 12] zIs:=⟨f8,_,[.int 12 t8],m _ _ a8,k8,bd8,.cons ⟨_,rfl⟩ .nil,ok_copyS F8 T⟩
 have C_check_job:=cal l.prog w B (m _ _ l9.1) F9 F9.b2 (zGb F9 T C_is_one_of)
 have C_checkB:=calX l.prog w B (m _ _ l9.1) F9 F9.b2 (ok_checkB' F9 T RS C_is_one_of C_own_copy M_Stranger)
 have C_check_names:=cal l.prog w B (m _ _ l10.1) F10 F10.b1 (zHu F10 T C_is_name)
 have C_namesM:=calX l.prog w B (m _ _ l10.1) F10 F10.b1 (ok_namesM F10 T RM)
 have C_namesT:=calX l.prog w B (m _ _ l10.1) F10 F10.b1 (ok_namesT F10 T RT C_is_name M_Twice)
 have C_check_parts:=cal l.prog w B (m _ _ l11.1) F11 F11.b2 (zHt F11 T C_check_job)
 have C_partsX:=calX l.prog w B (m _ _ l11.1) F11 F11.b2 (ok_partsX F11 C_checkB)
 have C_told_ahead:=cal l.prog w B (m _ _ l12.1) F12 F12.b2 (zI5 F12)
 have C_has_all:=cal l.prog w B (m _ _ l13.1) F13 F13.b2 (ok_has_all F13 T)
 have C_joined:=cal l.prog w B (m _ _ l14.1) F14 F14.b2 (ok_joined F14)
 have C_ring_among:=cal l.prog w B (m _ _ l15.1) F15 F15.b2 (zI6 F15 T)
 have M_Ring:MkrX l.prog w K mg B c_Ring 1 ["self", "ring"] (spRing c_Ring):=⟨f16,_,⟨f_xb_Ring,l16.1,l16.2.1,f_kp_Ring⟩,F16.b2,(ok_Ring_init F16 RR)⟩
 have C_all_ahead:=calX l.prog w B (m _ _ l17.1) F17 F17.b2 (zJa F17 T RR M_Ring C_ring_among C_has_all C_joined)
 have M_Jobs:MkrF l.prog w K mg B C "Jobs" 6 ["self", "names", "orders"] (zFw C c_TooMany c_Twice c_Stranger c_Ring):=⟨f18,_,⟨mk,l18.1,l18.2.1,kc⟩,m _ _ aC,F18.b3,(ok_initY' F18 T U C_namesM C_namesT C_check_names C_partsX C_check_parts C_all_ahead C_told_ahead)⟩
 have M_mnames:=mth l.prog w B l19 F19 F19.b1 (zJc F19 T U)
 have M_orders:=mth l.prog w B l20 F20 F20.b1 (zHv F20 T U)
 have C_read_names:=calX l.prog w B (m _ _ l21.1) F21 F21.b2 (zI8 F21 RN C_is_name)
 have C_read_order:=calX l.prog w B (m _ _ l22.1) F22 F22.b1 (zI7 F22 T RN C_read_names)
 have C_read_jobs:=calX l.prog w B (m _ _ l23.1) F23 F23.b1 (ok_readA' F23 T RN C_read_names C_read_order M_Jobs)
 have C_names:=cal l.prog w B (m _ _ l24.1) F24 F24.b2 (ok_names F24 T C_take)
 have C_pairs:=cal l.prog w B (m _ _ l25.1) F25 F25.b4 (ok_pairs F25 T C_take)
 have C_jobs:=cal l.prog w B (m _ _ l26.1) F26 F26.b2 (ok_jobs F26 T C_take C_names C_pairs)
 have C_kinds:=cal l.prog w B (m _ _ l27.1) F27 F27.b1 (ok_kinds F27 T KMd)
 have C_is_ring:=cal l.prog w B (m _ _ l28.1) F28 F28.b2 (ok_is_ring F28 T)
 have C_lis_name:=cal l.prog w B (m _ _ l29.1) F29 F29.b1 (ok_lis_name F29 T)
 have C_parts:=cal l.prog w B (m _ _ l30.1) F30 F30.b1 (ok_parts F30 T C_lis_name)
 have C_goes_round:=cal l.prog w B (m _ _ l31.1) F31 F31.b2 (zI9 F31 T)
 have C_due:=cal l.prog w B (m _ _ l32.1) F32 F32.b1 (ok_due F32 T C_goes_round)
 have C_right:=cal l.prog w B (m _ _ l33.1) F33 F33.b1 (ok_right F33 T U VJ RT.mgB f_xb_BenchError kx_NoText kx_TooMany kx_Twice kx_Stranger kx_Ring ⟨RT.gt,RT.nr⟩ ⟨RS.gt,RS.nr⟩ ⟨RR.gt,RR.nr⟩ C_read_jobs C_parts C_due C_kinds C_is_ring M_mnames M_orders)
 have C_text:=cal l.prog w B (m _ _ l34.1) F34 F34.b2 (ok_text F34)
 have C_otherwise:=cal l.prog w B (m _ _ l35.1) F35 F35.b2 (ok_other F35 T C_take)
 exact ok_law F36 T C_cell C_purse C_take C_names C_jobs C_text C_otherwise C_right
theorem walk {l:PySem.W.OpenLaw} {q:Program} {loose:List Str} {XP:(Str->Option Value)->Heap->Prop} {YP:World->Heap->Prop} {d:DefRec} {K:Params->PySem.W.Frag} (hn:l.most=some 63) (hdf:d.params.defaults=[])
  (hY:∀(w:World) (h:Heap),YP w h->(K w.params).In h)
  (F:∀(w:World) (mg:Str->Option Value) (fa:Addr) (h:Heap),(K w.params).In h->h.Ns mainGlobals mg->mg d.name=some (.ref fa) ->
   ∃fd:FuncData,(∀(s:Shared) (u:Value),BindsTo s fd ⟨[u],[]⟩ [("_law_script",u)])/\∀base:Heap,(K w.params).In base->base.Ns mainGlobals mg->FnOk l.prog w (K w.params) mg base CX0 10 fa fd ["_law_script"] (spLaw (K w.params))) :
  PySem.W.WalkO q loose XP YP l.row.toRowW d [] (fun f vs=>PySem.call f vs) :=
 L2.walk_of (n:=63) (k:=10) (x:= "_law_script") (CX:=fun _=>CX0) (sp:=fun w=>spLaw (K w.params)) hn (by decide) hdf ⟨rfl,by decide,by decide,rfl⟩ hY F (fun _ _ a ns hl _ hS=>⟨a,ns,rfl,hS,hl,fun _=>rfl⟩) fun _ _ _ _ _ z=>z
end My
namespace PySem.W.Fast
def tw1155352757580667704:Nat:=0
def tw3894426172478426110:Nat:=0
def tw699511623145451924:Nat:=0
def tw7374458801062576606:Nat:=0
def tw725650107942079601:Nat:=0
def tw9127393024206094515:Nat:=0
def tw7228131889623529431:Nat:=0
def tw12853448371980136932:Nat:=0
def tw5173463037387260522:Nat:=0
def tw4131025141793779067:Nat:=0
def tw7595621444758786378:Nat:=0
def tw16596860533321573371:Nat:=0
def tw6054745325986932447:Nat:=0
def tw6145698528610766031:Nat:=0
def tw17821826906629641574:Nat:=0
def tw2997411665459690529:Nat:=0
def tw10233474904431757848:Nat:=0
def tw106648182021409382:Nat:=0
def tw17348641097436164055:Nat:=0
def tw4225141984462356413:Nat:=0
def tw12053239030835824021:Nat:=0
def tw6201217940613115434:Nat:=0
def tw8496332114816822466:Nat:=0
def tw6102450617103965625:Nat:=0
def tw7788592682006850993:Nat:=0
def tw15382635783030499457:Nat:=0
def tw1686722847584790511:Nat:=0
def tw10842761433911202798:Nat:=0
def tw524027048820297201:Nat:=0
def tw7600143488839557025:Nat:=0
def tw8317997763826086183:Nat:=0
def tw6636582812784304307:Nat:=0
def tw5307821605977021630:Nat:=0
def tw18022132751331535602:Nat:=0
def tw6657457795244177900:Nat:=0
def tw18222313086621873870:Nat:=0
def tw7263812403630383845:Nat:=0
def tw1659582333968243604:Nat:=0
def tw17945881043388275810:Nat:=0
def tw7020667991062651032:Nat:=0
def tw14073255706584567519:Nat:=0
def tw2743622099594461828:Nat:=0
def tw11682103329748027917:Nat:=0
def tw18217559100029675213:Nat:=0
def tw6983457736641260350:Nat:=0
def tw3966383483675342204:Nat:=0
def tw277842587056236207:Nat:=0
def tw13884515573822171477:Nat:=0
def tw9052413002024686336:Nat:=0
def tw10342080217407278280:Nat:=0
def tw8980789667513891930:Nat:=0
def tw16236993142720229289:Nat:=0
def tw15363756896991627875:Nat:=0
def tw16041054953248752737:Nat:=0
def tw4082058105864849153:Nat:=0
def tw14388511730303883348:Nat:=0
def tw2546065950145370123:Nat:=0
def tw269412164891852816:Nat:=0
def tw8472195897554184639:Nat:=0
def tw1232010898752439920:Nat:=0
def tw16458101412400852958:Nat:=0
def tw12268534154643111262:Nat:=0
def tw5144420260365970087:Nat:=0
def tw14952173680460480031:Nat:=0
def tw966161360698015582:Nat:=0
def tw12935445271626003654:Nat:=0
def tw4734200733269290404:Nat:=0
def tw17849541166779489846:Nat:=0
def tw6263820314810981210:Nat:=0
def tw15195622041120887696:Nat:=0
def tw9203960530338260272:Nat:=0
def tw13584972821463319351:Nat:=0
def tw9522423035503462768:Nat:=0
def tw17917887827953670070:Nat:=0
def tw1517017179765713548:Nat:=0
def tw11811583927927016161:Nat:=0
def tw5332322481703264488:Nat:=0
def tw13772949731017662942:Nat:=0
def tw9098662008871507482:Nat:=0
def tw5154584875123551118:Nat:=0
def tw2287753078051227542:Nat:=0
def tw13703654938971990307:Nat:=0
def tw16763542666684227740:Nat:=0
def tw8398783896064194561:Nat:=0
def tw16949735850832374943:Nat:=0
def tw310667377420008868:Nat:=0
def tw16336232756523963831:Nat:=0
def tw4340996824867504962:Nat:=0
def tw13002577499089623409:Nat:=0
def tw10474290769585953365:Nat:=0
def tw6680048815257319183:Nat:=0
def tw14223009257497443050:Nat:=0
def tw16067542511225197043:Nat:=0
def tw1516393980937485535:Nat:=0
def tw14476723765073502725:Nat:=0
def tw10333077593456883098:Nat:=0
def tw17166824171528152417:Nat:=0
def tw5630871595015525064:Nat:=0
def tw4086681968557261912:Nat:=0
def tw8735118035405365162:Nat:=0
def tw10218585270069185828:Nat:=0
def tw3732263926722478299:Nat:=0
def tw15061240972768721873:Nat:=0
def tw12548739260835948631:Nat:=0
end PySem.W.Fast
open PySem PySem.W PyProof.Rows
set_option maxRecDepth 100000 in
set_option maxHeartbeats 0 in
theorem PySem.Challenge.cw_levelbench_k16_whole_one_sign_otherwise_holds : PySem.Challenge.rw_levelbench_k16_whole_one_sign_otherwise.Holds := by
 w_on;o_law;k_head;(case hw=>w_witness2)
 k_fill
 refine My.walk (l:=PySem.Challenge.rw_levelbench_k16_whole_one_sign_otherwise) rfl rfl (fun w h Y=>PySem.W.kIn_of Y) ?F
 case F =>
  intro w mg fa h KX G hmg
  refine' My.all_mk KX G hmg ?h0 ?h1 ?h2 ?h3 ?h4 ?h5 ?h6 ?h7 ?h8 ?h9 ?h10 ?h11 ?h12 ?h13 ?h14 ?h15 ?h16 ?h17 ?h18 ?h19 ?h20 ?h21 ?h22 ?h23 ?h24 ?h25 ?h26 ?h27 ?h28 ?h29 ?h30 ?h31 ?h32 ?h33 ?h34 ?h35 ?h36 ?h37 ?h38 ?h39 ?h40 ?h41 ?h42 ?h43 ?h44 ?h45 ?h46 ?h47 ?h48 ?h49 ?h50 ?h51 ?h52 ?h53 ?h54 ?h55 ?h56 ?h57 ?h58 ?h59 ?h60 ?h61 ?h62 ?h63 ?h64 ?h65 ?h66 ?h67 ?h68 ?h69 ?h70 ?h71 ?h72 ?h73 ?h74 ?h75 ?h76 ?h77 ?h78 ?h79 ?h80 ?h81 ?h82 ?h83 ?h84 ?h85 ?h86 ?h87 ?h88 ?h89 ?h90 ?h91 ?h92 ?h93 ?h94 ?h95 ?h96 ?h97 ?h98 ?h99 ?h100 ?h101 ?h102 ?h103 ?h104 ?h105 ?h106 ?h107 ?h108 ?h109 ?h110 ?h111 ?h112 ?h113
  all_goals try first| k_is| exact ⟨by k_is,_,_,_,_,_,_,_,_,_,by k_is,by k_is,by k_is⟩| exact ⟨by k_is,by k_is,_,_,_,_,_,_,_,_,_,by k_is,by k_is,by k_is⟩| exact ⟨_,_,by k_is,⟨_,_,_,_,_,_,_,_,_,by k_is,by k_is,by k_is⟩,_,_,_,_,by k_is⟩| k_exc| kernel_rfl
