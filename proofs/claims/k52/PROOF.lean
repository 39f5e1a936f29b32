import PyProof.Rows.All
import Wide.All
import OpenK.AllK
import Wide.FinOn
import Lean
import PyProof.EqAt
import PyProof.EqKinds
import PyProof.TupleCall
import PySem.Challenge.RW_tallysets_k52_grammars_refused
open List renaming getElem?_eq_getElem → jrq, mem_cons_of_mem → jrr, mem_cons_self → jrs, mem_cons → jrt, size_toArray → jru, getElem?_set → jrv, getElem?_map → jrw, map_cons → jrx, getD_eq_getElem?_getD → jry, length_map → jrz, length_cons → jrA, mem_append_right → jrB, mem_singleton → jrC, mem_of_getElem? → jrD, getElem?_append_right → jrE, length_append → jrF, filterMap_cons → jrG, getElem?_eq_none → jrH, getElem?_append_left → jrI, getElem?_set_ne → jrJ, getElem?_cons_zero → jrK, getElem?_cons_succ → jrL, length_nil → jrM, mem_append_left → jrN, length_set → jrO, append_nil → jrP, not_mem_nil → jrQ
open PySem renaming wpAny_bind → jrR, wpAny_pure → jrS, wpAny_newObj_type → jrT, wpAny_holding → jrU, wpAny_field → jrV, wpAny_mono → jrW
open PySem.Heap renaming get?_push_of_some → jrX, lt_size → jrY, get?_push_size → jrZ, get?_update_other → jr0
open Nat renaming le_refl → jr1, lt_of_lt_of_le → jr2, ne_of_lt → jr3, le_trans → jr4, lt_irrefl → jr5
open Bool renaming and_eq_true → jr6, false_eq_true → jr7, false_ne_true → jr8
set_option linter.all false
set_option maxRecDepth 100000
set_option Elab.async false
set_option maxHeartbeats 4000000
set_option bootstrap.genMatcherCode false
set_option genSizeOfSpec false
set_option compiler.extract_closed false
local macro_rules | `(tactic| omega)=>`(tactic| first | lia | omega +splitDisjunctions)
namespace L2
open PySem PySem.Spec PyProof.Rows
noncomputable abbrev Key:=Sum Int Str
noncomputable def jny:Key->Value->Bool
 |.inl k,v=>Value.isInt k v
 |.inr x,v=>Value.isStrOf x v
noncomputable def jqV (w:World):Key->Int
 |.inl k=>hashInt k
 |.inr x=>hashStr w x
theorem jaw:∀{k:Key}{v:Value},jny k v=true->(∃i t,k=Sum.inl i/\v=Value.int i t)\/(∃x t,k=Sum.inr x/\v=Value.str x t)
 |.inl i,v,h=>by
  obtain⟨t,e⟩:=Value.isInt_shape (k:=i) (v:=v) h;exact .inl ⟨i,t,rfl,e⟩
 |.inr x,v,h=>by
  obtain⟨t,e⟩:=Value.isStrOf_shape (x:=x) (v:=v) h;exact .inr ⟨x,t,rfl,e⟩
theorem jnz (a b:Int):decide ((Sum.inl a:Key)=Sum.inl b)=(a == b):=by
 by_cases e:a=b
 ·subst e;simp
 ·have h:¬ (Sum.inl a:Key)=Sum.inl b:=fun q=>e (Sum.inl.inj q);rw[decide_eq_false h];exact(beq_eq_false_iff_ne.mpr e).symm
theorem jnA (a b:Str):decide ((Sum.inr a:Key)=Sum.inr b)=decide (a=b):=by
 by_cases e:a=b
 ·subst e;simp
 ·have h:¬ (Sum.inr a:Key)=Sum.inr b:=fun q=>e (Sum.inr.inj q);rw[decide_eq_false h,decide_eq_false e]
theorem jnB (a:Int)(b:Str):decide ((Sum.inl a:Key)=Sum.inr b)=false:=decide_eq_false (fun q=>nomatch q)
theorem jnC (a:Str)(b:Int):decide ((Sum.inr a:Key)=Sum.inl b)=false:=decide_eq_false (fun q=>nomatch q)
noncomputable def jeR (prog:Program)(w:World):PySem.KeyKind prog w Key where
 is:=jny
 hash:=jqV w
 inj:=fun v a b ha hb=>by
  rcases jaw ha with ⟨i,t,rfl,rfl⟩ | ⟨x,t,rfl,rfl⟩
  ·rcases jaw hb with ⟨j,u,rfl,e⟩ | ⟨y,u,rfl,e⟩
   ·injection e with e1 _;rw[e1]
   ·exact nomatch e
  ·rcases jaw hb with ⟨j,u,rfl,e⟩ | ⟨y,u,rfl,e⟩
   ·exact nomatch e
   ·injection e with e1 _;rw[e1]
 byValue:=fun k v h=>by
  rcases jaw h with ⟨i,t,rfl,rfl⟩ | ⟨x,t,rfl,rfl⟩ <;> rfl
 pyHash:=fun hv h=>by
  rcases jaw hv with ⟨i,t,rfl,rfl⟩ | ⟨x,t,rfl,rfl⟩
  ·exact wpAny_pyHash_int h
  ·exact wpAny_pyHash_str h
 eqBool:=fun hu hv h=>by
  rcases jaw hu with ⟨i,t,rfl,rfl⟩ | ⟨x,t,rfl,rfl⟩
  ·rcases jaw hv with ⟨j,u,rfl,rfl⟩ | ⟨y,u,rfl,rfl⟩
   ·rw[jnz]at h;exact wpAny_eqBool_int h
   ·rw[jnB]at h;exact SeqAt.EqAt.int_str i t y u _ _ _ _ h
  ·rcases jaw hv with ⟨j,u,rfl,rfl⟩ | ⟨y,u,rfl,rfl⟩
   ·rw[jnC]at h;exact SeqAt.EqAt.str_int x t j u _ _ _ _ h
   ·rw[jnA]at h;exact wpAny_eqBool_str h
 «strs»:=fun k x t v h=>by
  rcases jaw h with ⟨i,u,rfl,e⟩ | ⟨y,u,rfl,e⟩
  ·exact nomatch e
  ·injection e with e1 _
   subst e1;cases v <;> rfl
end L2
namespace L2
open PySem PySem.Spec PyProof.Rows
inductive V where
 |non | bl (b:Bool) | int (i:Int) | str (x:Str) | byt (b:Array UInt8) | flt (b:UInt64) | ref (a:Addr) | ty (n:String)
 deriving DecidableEq
noncomputable def RelV:V->Value->Prop
 |.non,u=>u=Value.none
 |.bl b,u=>u=Value.bool b
 |.int i,u=>∃t,u=Value.int i t
 |.str x,u=>∃t,u=Value.str x t
 |.byt b,u=>∃t,u=Value.bytes b t
 |.flt b,u=>∃t,u=Value.float b t
 |.ref a,u=>u=Value.ref a
 |.ty n,u=>u=Value.type n
noncomputable abbrev Vals:List V->List Value->Prop:=Paired RelV
theorem Vals.length {xs:List V}{us:List Value}(r:Vals xs us):xs.length=us.length:=Paired.length r
theorem Vals.get:∀{xs:List V}{us:List Value}{i:Nat}{x:V},Vals xs us->xs[i]?=some x->∃u,us[i]?=some u/\RelV x u
 |_,_,_,_,.nil,e=>by simp at e
 |_,_,0,_,.cons r _,e=>by simp at e;subst e;exact⟨_,rfl,r⟩
 |_,_,i + 1,x,.cons _ t,e=>by
  obtain⟨u,h1,h2⟩:=Vals.get (i:=i) (x:=x) t (by simpa using e)
  exact⟨u,by simpa using h1,h2⟩
theorem Vals.set {x:V}{u:Value}(r:RelV x u):∀{xs:List V}{us:List Value} (i:Nat),Vals xs us->Vals (xs.set i x) (us.set i u)
 |_,_,_,.nil=>.nil
 |_,_,0,.cons _ t=>.cons r t
 |_,_,i + 1,.cons q t=>.cons q (Vals.set r i t)
theorem Vals.append {xs ys:List V}{us ws:List Value}(h:Vals xs us)(s:Vals ys ws):Vals (xs++ys) (us++ws):=by
 induction h with
 |nil=>exact s
 |cons r t ih=>exact .cons r ih
theorem Vals.take:∀{xs:List V}{us:List Value} (n:Nat),Vals xs us->Vals (xs.take n) (us.take n)
 |_,_,0,_=>.nil
 |_,_,_ + 1,.nil=>.nil
 |_,_,n + 1,.cons r t=>.cons r (Vals.take n t)
theorem Vals.drop:∀{xs:List V}{us:List Value} (n:Nat),Vals xs us->Vals (xs.drop n) (us.drop n)
 |_,_,0,r=>r
 |_,_,_ + 1,.nil=>.nil
 |_,_,n + 1,.cons _ t=>Vals.drop n t
noncomputable def jqv:Option V->Option Value->Prop
 |some v,some u=>RelV v u
 |none,none=>True
 |_,_=>False
noncomputable def KV {κ:Type}:List (κ×V)->List (κ×Value)->Prop:=Paired fun (p:κ×V) (q:κ×Value)=>p.1=q.1/\RelV p.2 q.2
noncomputable def kV:Key->V
 |.inl i=>.int i
 |.inr x=>.str x
inductive HO where
 |lst (xs:List V)
 |tup (xs:List V)
 |dK (kvs:List (Key×V)) | dT (kvs:List (List Key×V))
 |set (S:Int->Bool) (n:Nat)
 |ins (C dx:Addr) (fs:List (Str×V))
 |own (x:Addr)
 |xd (fs:List (Str×V))
 |met (f x:Addr)
 |rng (lo hi:Int)
 |frz (o:Obj) (u:HO)
 |tbl (ps:Array Value)
 |ext (φ:Heap->Prop)
noncomputable abbrev Hp:=Addr->Option HO
noncomputable def upd (H:Hp)(a:Addr)(o:HO):Hp:=fun b=>if b=a then some o else H b
theorem jan {H:Hp}{a:Addr}{o:HO}:upd H a o a=some o:=by unfold upd;rw[if_pos rfl]
theorem jad {H:Hp}{a b:Addr}{o:HO}(h:b≠a):upd H a o b=H b:=by unfold upd;rw[if_neg h]
theorem jab {H:Hp}{a b:Addr}{o:HO}(h:H a=some o)(h':H b=none):a≠b:=by
 intro e;subst e;rw[h]at h';cases h'
section
variable (P:Program) (w:World)
noncomputable def ObjOk (H:Hp)(h:Heap)(a:Addr):HO->Prop
 |.lst xs=>xs.length<=sizeLine/\∃(its:List Value) (n:Nat),Vals xs its/\h.get? a=some { cls:=.type "list",data:=.seq its.toArray n }
 |.tup xs=>xs.length<=sizeLine/\∃its:List Value,Vals xs its/\IsTup h a its.toArray
 |.dK kvs=>kvs.length<=sizeLine/\(a == sysModules)=false/\∃vs,KV kvs vs/\h.DictOf (jeR P w) a vs
 |.dT kvs=>kvs.length<=sizeLine/\(a == sysModules)=false/\∃xs:List (List Key×Addr×Value),
   Paired (fun (p:List Key×V) (q:List Key×Addr×Value)=>p.1=q.1/\H q.2.1=some (.tup (p.1.map kV))/\RelV p.2 q.2.2) kvs xs /\
   ∃o es ep,h.get? a=some o/\o.ExactDict/\o.data=.dict es ep/\es.toList=xs.map (entryOfKey (tupleKind (jeR P w)))/\(xs.map (·.1)).Nodup
 |.set S n=>h.SetOf (intKind P w) a S n
 |.ins C dx fs=>H dx=some (.own a)/\fs.length<=1000/\dx≠a/\h.get? a=some (PySem.W.instObj C dx) /\
   ∃mA,h.Ns1 dx mA/\(∀f,jqv (fs.lookup f) (mA f))/\PySem.Within mA (fs.map (·.1))
 |.own _=>∃o,h.get? a=some o
 |.xd fs=>∃mA,h.Ns1 a mA/\∀f,jqv (fs.lookup f) (mA f)
 |.rng lo hi=>∃t u v,h.get? a=some { cls:=.type "range",data:=.fields #[.int lo t,.int hi u,.int 1 v] }
 |.frz o u=>h.get? a=some o/\ObjOk H h a u
 |.tbl ps=>h.get? a=some { cls:=.none,data:=.fields ps }
 |.met f x=>h.get? a=some (PySem.W.methodObj (.ref f) (.ref x))
 |.ext φ=>φ h/\(∃o,h.get? a=some o)/\∀h1 h2:Heap,φ h1->(∀o,h1.get? a=some o->h2.get? a=some o)->φ h2
noncomputable def HOk (H:Hp)(h:Heap):Prop:=∀a o,H a=some o->ObjOk P w H h a o
end
section
variable {P:Program}{w:World}{H H':Hp}{h h':Heap}{a:Addr}{o:HO}
theorem ObjOk.lt (x:ObjOk P w H h a o):a < h.objs.size:=by
 cases o with
 |lst xs=>obtain⟨_,_,_,_,e⟩:=x;exact jrY e
 |tup xs=>obtain⟨_,_,_,p⟩:=x;exact p.lt
 |dK kvs=>obtain⟨_,_,_,_,o,_,_,e,_⟩:=x;exact jrY e
 |dT kvs=>obtain⟨_,_,_,_,o,_,_,e,_⟩:=x;exact jrY e
 |set S n=>obtain⟨o,_,_,_,e,_⟩:=x;exact jrY e
 |ins C dx fs=>obtain⟨_,_,_,e,_⟩:=x;exact jrY e
 |own y=>obtain⟨_,e⟩:=x;exact jrY e
 |xd fs=>obtain⟨_,⟨_,_,_,e,_⟩,_⟩:=x;exact jrY e
 |rng lo hi=>obtain⟨_,_,_,e⟩:=x;exact jrY e
 |frz ob u=>obtain⟨e,_⟩:=x;exact jrY e
 |tbl ps=>exact jrY (show h.get? a=some _ from x)
 |met f y=>exact jrY (show h.get? a=some _ from x)
 |ext φ=>obtain⟨_,⟨_,e⟩,_⟩:=x;exact jrY e
theorem Paired.mapP {α β:Type}{F G:α->β->Prop}{l₁:List α}{l₂:List β}(h:Paired F l₁ l₂)(f:∀a b,F a b->G a b):Paired G l₁ l₂:=by
 induction h with
 |nil=>exact .nil
 |cons r t ih=>exact .cons (f _ _ r) ih
theorem ObjOk.stay (x:ObjOk P w H h a o)(k:∀b u,(b=a\/H b=some (.own a))->h.get? b=some u->h'.get? b=some u)
  (ho:∀b,H b=some (.own a)->H' b=some (.own a)) (ht:∀b xs,H b=some (.tup xs)->H' b=some (.tup xs)):ObjOk P w H' h' a o:=by
 induction o with
 |lst xs=>obtain⟨z,its,n,r,e⟩:=x;exact⟨z,its,n,r,k _ _ (.inl rfl) e⟩
 |tup xs=>obtain⟨z,its,r,ob,e,c⟩:=x;exact⟨z,its,r,ob,k _ _ (.inl rfl) e,c⟩
 |dK kvs=>obtain⟨z,y,vs,r,ob,es,ep,e,c⟩:=x;exact⟨z,y,vs,r,ob,es,ep,k _ _ (.inl rfl) e,c⟩
 |dT kvs=>
  obtain⟨z,y,xs,r,ob,es,ep,e,c⟩:=x;exact⟨z,y,xs,Paired.mapP r fun p q z=>⟨z.1,ht _ _ z.2.1,z.2.2⟩,ob,es,ep,k _ _ (.inl rfl) e,c⟩
 |set S n=>obtain⟨ob,es,ep,t,e,c⟩:=x;exact⟨ob,es,ep,t,k _ _ (.inl rfl) e,c⟩
 |ins C dx fs=>
  obtain⟨d,z,ne,e,mA,⟨od,es,ep,e2,c⟩,r⟩:=x;exact⟨ho _ d,z,ne,k _ _ (.inl rfl) e,mA,⟨od,es,ep,k _ _ (.inr d) e2,c⟩,r⟩
 |own y=>obtain⟨ob,e⟩:=x;exact⟨ob,k _ _ (.inl rfl) e⟩
 |xd fs=>obtain⟨mA,⟨od,es,ep,e,c⟩,r⟩:=x;exact⟨mA,⟨od,es,ep,k _ _ (.inl rfl) e,c⟩,r⟩
 |rng lo hi=>obtain⟨t,u,v,e⟩:=x;exact⟨t,u,v,k _ _ (.inl rfl) e⟩
 |frz ob u ih=>obtain⟨e,q⟩:=x;exact⟨k _ _ (.inl rfl) e,ih q⟩
 |tbl ps=>
  have e:h.get? a=some { cls:=.none,data:=.fields ps }:=x;show h'.get? a=some { cls:=.none,data:=.fields ps };exact k a _ (.inl rfl) e
 |met f y=>
  have e:h.get? a=some (PySem.W.methodObj (.ref f) (.ref y)):=x;show h'.get? a=some (PySem.W.methodObj (.ref f) (.ref y));exact k a _ (.inl rfl) e
 |ext φ=>obtain⟨p,⟨o,e⟩,st⟩:=x;exact⟨st _ _ p fun o q=>k _ _ (.inl rfl) q,⟨o,k _ _ (.inl rfl) e⟩,st⟩
theorem HOk.lt (x:HOk P w H h)(e:H a=some o):a < h.objs.size:=(x a o e).lt
theorem HOk.fresh (x:HOk P w H h)(e:h.objs.size<=a):H a=none:=by
 cases q:H a with
 |none=>rfl
 |some u=>exact absurd (jr2 (x.lt q) e) (jr5 _)
theorem HOk.kept (x:HOk P w H h)(k:∀b u,h.get? b=some u->h'.get? b=some u):HOk P w H h':=fun a o e=>
 (x a o e).stay (fun b u _ q=>k b u q) (fun _ q=>q) fun _ _ q=>q
theorem HOk.laid (x:HOk P w H h)(k:∀b u,h.get? b=some u->h'.get? b=some u)(hp:h.objs.size<=a)(new:ObjOk P w (upd H a o) h' a o):HOk P w (upd H a o) h':=fun b u e=>by
 have hn:=x.fresh hp;by_cases hb:b=a
 ·subst hb;rw[jan]at e;cases e;exact new
 ·rw[jad hb]at e;exact(x b u e).stay (fun c v _ q=>k c v q) (fun c q=>by rw[jad (jab q hn)];exact q) fun c xs q=>by rw[jad (jab q hn)];exact q
end
noncomputable def Rd (H:Hp)(a:Addr)(u:HO):Prop:=H a=some u\/∃o,H a=some (.frz o u)
theorem Rd.ok {P:Program}{w:World}{H:Hp}{h:Heap}{a:Addr}{u:HO}(r:Rd H a u)(x:HOk P w H h):ObjOk P w H h a u:=by
 rcases r with r | ⟨o,r⟩
 ·exact x a u r
 ·obtain⟨_,q⟩:=x a _ r;exact q
noncomputable def Mut:Option HO->Prop
 |some (.lst _)=>True
 |some (.dK _)=>True
 |some (.dT _)=>True
 |some (.set _ _)=>True
 |some (.ins _ _ _)=>True
 |some (.ext _)=>True
 |_=>False
section
variable {P:Program}{w:World}{H:Hp}{h h':Heap}{x e:Addr}{o':HO}
theorem HOk.write (ok:HOk P w H h)(mu:Mut (H x))(he:e=x\/H e=some (.own x))(k:∀b u,b≠e->h.get? b=some u->h'.get? b=some u)(heo:∃u,h'.get? e=some u)
  (new:ObjOk P w (upd H x o') h' x o'):HOk P w (upd H x o') h':=fun b u q=>by
 have nown:∀c y,H c=some (.own y)->c≠x:=fun c y r z=>by subst z;rw[r]at mu;exact mu
 have ntup:∀c xs,H c=some (.tup xs)->c≠x:=fun c xs r z=>by subst z;rw[r]at mu;exact mu
 by_cases hb:b=x
 ·subst hb;rw[jan]at q;cases q;exact new
 ·rw[jad hb]at q;by_cases hbe:b=e
  ·have q':H b=some (.own x):=by
    rcases he with z | z
    ·exact absurd (hbe.trans z) hb
    ·rw[hbe];exact z
   rw[q]at q';cases q';obtain⟨v,hv⟩:=heo;exact⟨v,by rw[hbe];exact hv⟩
  ·refine(ok b u q).stay (fun c v hc r=>k c v ?_ r) (fun c r=>by rw[jad (nown c b r)];exact r) fun c xs r=>by rw[jad (ntup c xs r)];exact r
   rcases hc with rfl | hc
   ·exact hbe
   ·rintro rfl;rcases he with z | z
    ·exact nown c b hc z
    ·rw[hc]at z;cases z;exact hb rfl
end
structure Un (fs ex:List Addr)(H H':Hp)(h h':Heap):Prop where
 keep:∀b o,h.get? b=some o->H b=none->b ∉ fs->b ∉ ex->h'.get? b=some o
 slot:∀b o,h.get? b=some o->H b=none->b∈fs->b ∉ ex->∃sl,h'.get? b=some { o with slots:=sl }
 free:∀b o,h.get? b=some o->H b=none->b ∉ ex->H' b=none
 there:∀b o,h.get? b=some o->b ∉ ex->∃o',h'.get? b=some o'
 tups:∀b xs,H b=some (.tup xs)->H' b=some (.tup xs)
 frzs:∀b o u,H b=some (.frz o u)->H' b=some (.frz o u)
 tbls:∀b ps,H b=some (.tbl ps)->∃more,H' b=some (.tbl (ps++more))
section
variable {fs fs' ex ex':List Addr}{H H1 H2:Hp}{h h1 h2 h':Heap}{a x e:Addr}{o:HO}
theorem Un.any (u:Un fs ex H H1 h h1){b:Addr}{ob:Obj}(q:h.get? b=some ob)(n:H b=none)(hx:b ∉ ex):∃sl,h1.get? b=some { ob with slots:=sl }:=by
 by_cases hb:b∈fs
 ·exact u.slot b ob q n hb hx
 ·exact⟨ob.slots,u.keep b ob q n hb hx⟩
theorem Un.kept (k:∀b u,h.get? b=some u->h'.get? b=some u):Un fs ex H H h h':=
 ⟨fun b ob q _ _ _=>k b ob q,fun b ob q _ _ _=>⟨ob.slots,k b ob q⟩,fun _ _ _ n _=>n,fun b ob q _=>⟨ob,k b ob q⟩,fun _ _ q=>q,fun _ _ _ q=>q,fun _ ps q=>⟨#[],by rw[q];simp⟩⟩
theorem Un.refl:Un fs ex H H h h:=Un.kept fun _ _ q=>q
theorem Un.laid (k:∀b u,h.get? b=some u->h'.get? b=some u)(hp:h.objs.size<=a)(hn:H a=none):Un fs ex H (upd H a o) h h' where
 keep:=fun b u q _ _ _=>k b u q
 slot:=fun b u q _ _ _=>⟨u.slots,k b u q⟩
 free:=fun b u q n _=>by rw[jad (jr3 (jr2 (jrY q) hp))];exact n
 there:=fun b u q _=>⟨u,k b u q⟩
 tups:=fun b xs q=>by rw[jad (jab q hn)];exact q
 frzs:=fun b u xs q=>by rw[jad (jab q hn)];exact q
 tbls:=fun b ps q=>⟨#[],by rw[jad (jab q hn),q];simp⟩
theorem Un.write (mu:Mut (H x))(he:e=x\/H e=some (.own x))(k:∀b u,b≠e->h.get? b=some u->h'.get? b=some u)(heo:∃u,h'.get? e=some u):Un fs ex H (upd H x o) h h':=by
 have hx:∀b,H b=none->b≠x:=fun b n z=>by subst z;rw[n]at mu;exact mu
 have hb:∀b,H b=none->b≠e:=fun b n z=>by
  subst z;rcases he with r | r
  ·exact hx b n r
  ·rw[n]at r;cases r
 have hm:∀b u,H b=some u->¬ Mut (some u)->b≠x:=fun b u q nm z=>by subst z;rw[q]at mu;exact nm mu
 refine⟨fun b u q n _ _=>k b u (hb b n) q,fun b u q n _ _=>⟨u.slots,k b u (hb b n) q⟩,fun b u q n _=>by rw[jad (hx b n)];exact n,fun b u q _=>?_,
  fun b xs q=>by rw[jad (hm b _ q fun z=>z)];exact q,fun b u xs q=>by rw[jad (hm b _ q fun z=>z)];exact q,fun b ps q=>⟨#[],by rw[jad (hm b _ q fun z=>z),q];simp⟩⟩
 by_cases hbe:b=e
 ·subst hbe;exact heo
 ·exact⟨u,k b u hbe q⟩
end
noncomputable def trk (h:Heap)(H:Hp):List Addr:=(List.range h.objs.size).filter fun a=>(H a).isSome
noncomputable def jjn (h:Heap)(H:Hp):Heap:=PySem.W.hideAll h (trk h H)
theorem jhj (h:Heap)(H:Hp):(jjn h H).objs.size=h.objs.size:=PySem.W.hideAll_size _ _
theorem jjo {h:Heap}{H:Hp}{b:Addr}{o:Obj}(e:h.get? b=some o)(n:H b=none):(jjn h H).get? b=some o:=
 PySem.W.hideAll_get _ e fun hm=>by
  have q:(H b).isSome=true:=(List.mem_filter.mp hm).2;rw[n]at q;simp at q
theorem jlz {h:Heap}{H:Hp}{b:Addr}{o:Obj}(e:(jjn h H).get? b=some o):h.get? b=some o/\H b=none:=by
 have e':h.get? b=some o:=PySem.W.of_hideAll (trk h H) e;refine⟨e',?_⟩;cases q:H b with
 |none=>rfl
 |some x=>
  have hm:b∈trk h H:=List.mem_filter.mpr ⟨List.mem_range.mpr (jrY e'),by simp[q]⟩
  have z:(jjn h H).get? b=none:=PySem.W.hideAll_none (trk h H) hm;rw[z]at e;cases e
noncomputable def jlA (g h:Heap)(L:Addr):List (Addr×Obj):=(List.range h.objs.size).filterMap fun a=>if a=L\/(g.get? a).isSome=true then none else (h.get? a).map fun o=>(a,o)
noncomputable def rest (g h:Heap)(L d:Addr):List (Addr×Obj):=(jlA g h L).filter fun p=>decide (p.1≠d)
end L2
namespace L2
open PySem PySem.Spec PyProof.Rows
structure Mod (K:PySem.W.Frag)(mg:Str->Option Value)(base:Heap):Prop where
 kin:K.In base
 glob:base.Ns mainGlobals mg
 blt:∃mb,base.Ns builtinsNs mb/\∀x:Str,x≠"__name__"->mb x=bootBuiltins x
 nolimit:base.NoLimit
structure Cx where
 prog:Program
 w:World
 K:PySem.W.Frag
 mg:Str->Option Value
 base:Heap
 A:Around
 N:List Str
 s₀:Shared
 H₀:Hp
 env:Env
 outer:List Env
 stack:List Env
 ex:List Addr
 fn:Str->Bool
 calm:Bool
 pn:List (Addr×Obj)
 xe:Value->Shared->Prop
noncomputable def frs (l:List Env):List Addr:=l.filterMap (·.frame)
noncomputable abbrev Cx.fs (X:Cx):List Addr:=frs X.outer
noncomputable def Vis (sc:Scope)(x:Str):Prop:=sc.names.lookup x=some .local\/sc.names.lookup x=some .cell\/sc.names.lookup x=some .free
noncomputable def Loc (sc:Scope)(x:Str):Prop:=sc.names.lookup x=some .local\/sc.names.lookup x=some .cell
noncomputable def Look (env:Env)(h:Heap)(m:Str->Option Value)(x:Str)(u:Value):Prop:=
 (env.kindOf x=some .local/\m x=some u)\/((env.kindOf x=some .cell\/env.kindOf x=some .free)/\∃c,env.cells.lookup x=some c/\h.IsCell c (some u))
structure Cx.Ok (X:Cx):Prop where
 mod:Mod X.K X.mg X.base
 kind:X.env.scope.kind=.function
 glob:X.env.globals=mainGlobals
 blt:X.env.builtins=builtinsNs
 above:X.s₀.heap.objs.size<=X.env.locals
 inj:∀x y c,X.env.cells.lookup x=some c->X.env.cells.lookup y=some c->x=y
 has:∀x,(X.env.kindOf x=some .cell\/X.env.kindOf x=some .free)->∃c,X.env.cells.lookup x=some c
 cab:∀x c,X.fn x=true->X.env.cells.lookup x=some c->X.s₀.heap.objs.size<=c
 hd:X.calm=true->X.A.handled=none
 frames:X.A.frames=some X.stack
 stk:X.stack=X.outer\/(X.stack=X.env::X.outer/\X.env.frame=some X.env.locals)
 exf:∀b∈X.ex,b≠X.env.locals/\∀x c,X.env.cells.lookup x=some c->c≠b
 bs:∀b o,X.base.get? b=some o->X.s₀.heap.get? b=some o/\X.H₀ b=none
 bsz:X.base.objs.size<=X.s₀.heap.objs.size
 noex:∀b o,X.base.get? b=some o->b ∉ X.ex
 exfs:∀b∈X.ex,b ∉ X.fs
 funs:X.s₀.heap.FunFrames X.base X.outer
 frf:∀b∈X.fs,X.H₀ b=none
structure Inv (X:Cx)(pins:List (Addr×Obj))(σ:List (Option V))(H:Hp)(s:Shared):Prop where
 ok:X.Ok
 os:s.os=X.s₀.os
 bare:AllBare s.gens
 base:Un X.fs X.ex X.H₀ H X.s₀.heap s.heap
 loc:∃m,s.heap.Ns X.env.locals m/\∀(i:Nat) (x:Str) (v:V),X.N[i]?=some x->σ[i]?=some (some v)->Vis X.env.scope x->∃u,RelV v u/\Look X.env s.heap m x u
 cell:∀x c,X.env.cells.lookup x=some c->∃v,s.heap.IsCell c v
 free:H X.env.locals=none
 freeC:∀x c,X.env.cells.lookup x=some c->H c=none
 pin:∀p∈X.pn++pins,s.heap.get? p.1=some p.2/\H p.1=none/\p.1≠X.env.locals/\p.1 ∉ X.fs/\∀v,p.2.data≠.cell v
 hok:HOk X.prog X.w H s.heap
 len:σ.length=X.N.length
section
variable {X:Cx}{pins:List (Addr×Obj)}{σ:List (Option V)}{H H':Hp}{s:Shared}{h':Heap}
theorem Cx.Ok.nofr (ok:X.Ok){b:Addr}{o:Obj}(e:X.base.get? b=some o):b ∉ X.fs:=fun hb=>by
 have:=(ok.funs.mem hb).1;rw[e]at this;cases this
theorem Inv.bs (I:Inv X pins σ H s):∀b o,X.base.get? b=some o->s.heap.get? b=some o/\H b=none:=fun b o e=>
 ⟨I.base.keep b o (I.ok.bs b o e).1 (I.ok.bs b o e).2 (I.ok.nofr e) (I.ok.noex b o e),I.base.free b o (I.ok.bs b o e).1 (I.ok.bs b o e).2 (I.ok.noex b o e)⟩
theorem Inv.bk (I:Inv X pins σ H s):∀b o,X.base.get? b=some o->s.heap.get? b=some o:=fun b o e=>(I.bs b o e).1
theorem Inv.mod (I:Inv X pins σ H s):Mod X.K X.mg X.base:=I.ok.mod
theorem Inv.kIn (I:Inv X pins σ H s):X.K.In s.heap:=I.ok.mod.kin.keeps I.bk
theorem Inv.lt (I:Inv X pins σ H s):X.env.locals < s.heap.objs.size:=let ⟨_,hn,_⟩:=I.loc;hn.lt
theorem Inv.sz (I:Inv X pins σ H s):X.s₀.heap.objs.size<=s.heap.objs.size:=jr4 I.ok.above (Nat.le_of_lt I.lt)
theorem Inv.nofs (I:Inv X pins σ H s){a:Addr}(h:s.heap.objs.size<=a):a ∉ X.fs:=fun hb=>by
 obtain⟨_,o,ho,_⟩:=I.ok.funs.mem hb;exact absurd (jr2 (jrY ho) (jr4 I.sz h)) (jr5 _)
theorem Inv.cne (I:Inv X pins σ H s):∀x c,X.env.cells.lookup x=some c->c≠X.env.locals:=fun x c e z=>by
 obtain⟨v,o,ho,hd⟩:=I.cell x c e;obtain⟨m,⟨o',es,ep,ho',hd',_⟩,_⟩:=I.loc;rw[z,ho']at ho;cases ho;rw[hd']at hd;cases hd
theorem Inv.funs (I:Inv X pins σ H s):s.heap.FunFrames X.base X.outer:=by
 have all:∀(l:List Env),(∀b∈frs l,b∈X.fs)->X.s₀.heap.FunFrames X.base l->s.heap.FunFrames X.base l:=by
  intro l;induction l with
  |nil=>intro _ _;trivial
  |cons env r ih=>
   intro hs hl;obtain⟨hk,⟨L,o,hf,hn,ho,hd⟩,hr⟩:=hl;have hL:L∈X.fs:=hs L (by unfold frs;rw[jrG,hf];exact jrs)
   obtain⟨sl,e⟩:=I.base.slot L o ho (I.ok.frf L hL) hL fun z=>I.ok.exfs L z hL;exact⟨hk,⟨L,_,hf,hn,e,hd⟩,ih (fun b hb=>hs b (by unfold frs;rw[jrG,hf];exact jrr _ hb)) hr⟩
 exact all X.outer (fun _ hb=>hb) I.ok.funs
theorem Inv.stack (I:Inv X pins σ H s):s.heap.FunFrames X.base X.stack:=by
 rcases I.ok.stk with e | ⟨e,hf⟩
 ·rw[e];exact I.funs
 ·rw[e];obtain⟨m,hn,_⟩:=I.loc;refine .cons (by rw[I.ok.kind];decide) hf hn ?_ I.funs
  exact Heap.get?_none_of_le (jr4 I.ok.bsz I.ok.above)
theorem Inv.stkSub (I:Inv X pins σ H s):∀b∈frs X.stack,b∈X.env.locals::X.fs:=fun b hb=>by
 rcases I.ok.stk with e | ⟨e,hf⟩
 ·rw[e]at hb;exact jrr _ hb
 ·rw[e]at hb;unfold frs at hb;rw[jrG,hf]at hb;exact hb
theorem Inv.stkFree (I:Inv X pins σ H s):∀b∈frs X.stack,H b=none:=fun b hb=>by
 rcases List.mem_cons.mp (I.stkSub b hb)with e | hb
 ·rw[e];exact I.free
 ·obtain⟨_,o,ho,_⟩:=I.ok.funs.mem hb;exact I.base.free b o ho (I.ok.frf b hb) fun z=>I.ok.exfs b z hb
theorem Inv.step {g':Array GenState}{t':Nat}{d':Drawn}{ch:List Addr}(I:Inv X pins σ H s)
  (hch:∀b∈ch,(b∈X.ex\/X.s₀.heap.objs.size<=b)/\b≠X.env.locals/\(∀x c,X.env.cells.lookup x=some c->c≠b)/\∀p∈X.pn++pins,p.1≠b)
  (keep:∀b o,b≠X.env.locals->b ∉ X.fs->b ∉ ch->s.heap.get? b=some o->H b=none->h'.get? b=some o)
  (slot:∀b o,b≠X.env.locals->b∈X.fs->b ∉ ch->s.heap.get? b=some o->H b=none->∃sl,h'.get? b=some { o with slots:=sl }) (free:∀b o,b ∉ ch->s.heap.get? b=some o->H b=none->H' b=none)
  (there:∀b o,b ∉ ch->s.heap.get? b=some o->∃o',h'.get? b=some o')
  (tups:∀b xs,H b=some (.tup xs)->H' b=some (.tup xs)) (frzs:∀b o u,H b=some (.frz o u)->H' b=some (.frz o u)) (tbls:∀b ps,H b=some (.tbl ps)->∃more,H' b=some (.tbl (ps++more)))
  (ns:∀m,s.heap.Ns X.env.locals m->h'.Ns X.env.locals m) (hok:HOk X.prog X.w H' h') (hg:AllBare g') :
  Inv X pins σ H' { s with heap:=h',gens:=g',drawn:=d',toks:=t' }:=by
 have neL:∀b o,X.s₀.heap.get? b=some o->b≠X.env.locals:=fun b o e=>jr3 (jr2 (jrY e) I.ok.above);have neC:∀b o,X.s₀.heap.get? b=some o->b ∉ X.ex->b ∉ ch:=fun b o e hx hb=>by
  rcases (hch b hb).1 with z | z
  ·exact hx z
  ·exact absurd (jr2 (jrY e) z) (jr5 _)
 have cellK:∀x c,X.env.cells.lookup x=some c->∀v,s.heap.IsCell c v->h'.IsCell c v:=fun x c e v ⟨o,ho,hd⟩=>by
  have nch:c ∉ ch:=fun z=>(hch c z).2.2.1 x c e rfl;by_cases hc:c∈X.fs
  ·obtain⟨sl,q⟩:=slot c o (I.cne x c e) hc nch ho (I.freeC x c e);exact⟨_,q,hd⟩
  ·exact⟨o,keep c o (I.cne x c e) hc nch ho (I.freeC x c e),hd⟩
 refine⟨I.ok,I.os,hg,⟨fun b o e n hb hx=>?_,fun b o e n hb hx=>?_,fun b o e n hx=>?_,fun b o e hx=>?_,fun b xs e=>tups b xs (I.base.tups b xs e),fun b o xs e=>frzs b o xs (I.base.frzs b o xs e),fun b ps e=>?_⟩,?_,fun x c e=>?_,?_,fun x c e=>?_,fun p hp=>?_,hok,I.len⟩
 ·exact keep b o (neL b o e) hb (neC b o e hx) (I.base.keep b o e n hb hx) (I.base.free b o e n hx)
 ·obtain⟨sl,e1⟩:=I.base.slot b o e n hb hx;obtain⟨sl',e2⟩:=slot b _ (neL b o e) hb (neC b o e hx) e1 (I.base.free b o e n hx);exact⟨sl',e2⟩
 ·obtain⟨o',e1⟩:=I.base.there b o e hx;exact free b o' (neC b o e hx) e1 (I.base.free b o e n hx)
 ·obtain⟨o',e1⟩:=I.base.there b o e hx;exact there b o' (neC b o e hx) e1
 ·obtain⟨m1,e1⟩:=I.base.tbls b ps e;obtain⟨m2,e2⟩:=tbls b _ e1;exact⟨m1++m2,by rw[e2,Array.append_assoc]⟩
 ·obtain⟨m,hn,hl⟩:=I.loc;refine⟨m,ns m hn,fun i x v e1 e2 e3=>?_⟩;obtain⟨u,r,l⟩:=hl i x v e1 e2 e3;refine⟨u,r,?_⟩;rcases l with l | ⟨k,c,e,z⟩
  ·exact .inl l
  ·exact .inr ⟨k,c,e,cellK x c e _ z⟩
 ·obtain⟨v,z⟩:=I.cell x c e;exact⟨v,cellK x c e v z⟩
 ·obtain⟨m,⟨o,_,_,ho,_⟩,_⟩:=I.loc;exact free _ o (fun z=>(hch _ z).2.1 rfl) ho I.free
 ·obtain⟨v,o,ho,hd⟩:=I.cell x c e;exact free c o (fun z=>(hch c z).2.2.1 x c e rfl) ho (I.freeC x c e)
 ·obtain⟨e,n,ne,nf,d⟩:=I.pin p hp;have nch:p.1 ∉ ch:=fun z=>(hch p.1 z).2.2.2 p hp rfl;exact⟨keep p.1 p.2 ne nf nch e n,free p.1 p.2 nch e n,ne,nf,d⟩
theorem Inv.un {t':Nat}(I:Inv X pins σ H s)(u:Un X.fs [] H H' s.heap h')(hok:HOk X.prog X.w H' h'):Inv X pins σ H' { s with heap:=h',toks:=t' }:=by
 obtain⟨m,⟨o,es,ep,ho,r⟩,_⟩:=id I.loc;obtain⟨sl,hL⟩:=u.any ho I.free (by simp)
 exact I.step (g':=s.gens) (d':=s.drawn) (ch:=[]) (fun _ z=>nomatch z) (fun b o _ hb _ e n=>u.keep b o e n hb (by simp)) (fun b o _ hb _ e n=>u.slot b o e n hb (by simp)) (fun b o _ e n=>u.free b o e n (by simp)) (fun b o _ e=>u.there b o e (by simp)) u.tups u.frzs u.tbls (fun m' hm=>by
  obtain⟨o',es',ep',ho',r'⟩:=hm;rw[ho]at ho';cases ho';exact⟨_,es',ep',hL,r'⟩) hok I.bare
theorem Inv.call {g':Array GenState}{t':Nat}{d':Drawn}{ch:List Addr}(I:Inv X pins σ H s)(u:Un (frs X.stack) ch H H' s.heap h')(hok:HOk X.prog X.w H' h')(hg:AllBare g')
  (hch:∀b∈ch,(b∈X.ex\/X.s₀.heap.objs.size<=b)/\b≠X.env.locals/\(∀x c,X.env.cells.lookup x=some c->c≠b)/\∀p∈X.pn++pins,p.1≠b) :
  Inv X pins σ H' { s with heap:=h',gens:=g',drawn:=d',toks:=t' }:=by
 obtain⟨m,⟨o,es,ep,ho,r⟩,_⟩:=id I.loc;obtain⟨sl,hL⟩:=u.any ho I.free fun z=>(hch _ z).2.1 rfl;exact I.step (ch:=ch) hch (fun b o hL hb hc e n=>u.keep b o e n (fun z=>(List.mem_cons.mp (I.stkSub b z)).elim hL hb) hc) (fun b o _ _ hc e n=>u.any e n hc) (fun b o hc e n=>u.free b o e n hc) (fun b o hc e=>u.there b o e hc) u.tups u.frzs u.tbls (fun m' hm=>by
  obtain⟨o',es',ep',ho',r'⟩:=hm;rw[ho]at ho';cases ho';exact⟨_,es',ep',hL,r'⟩) hok hg
theorem Inv.turned {t':Nat}{it:Addr}(I:Inv X pins σ H s)(k:∀b o,b≠it->s.heap.get? b=some o->h'.get? b=some o)(hn:H it=none)(hL:it≠X.env.locals)
  (h1:it∈X.ex\/X.s₀.heap.objs.size<=it) (h2:∀x c,X.env.cells.lookup x=some c->c≠it) (h3:∀p∈X.pn++pins,p.1≠it):Inv X pins σ H { s with heap:=h',toks:=t' }:=by
 have nit:∀b u,H b=some u->b≠it:=fun b u e z=>by rw[z,hn]at e;cases e
 refine I.step (g':=s.gens) (d':=s.drawn) (ch:=[it]) (fun b hb=>?_) (fun b o _ _ hc e _=>k b o (fun z=>hc (by simp[z])) e) (fun b o _ _ hc e _=>⟨o.slots,k b o (fun z=>hc (by simp[z])) e⟩) (fun _ _ _ _ n=>n)
  (fun b o hc e=>⟨o,k b o (fun z=>hc (by simp[z])) e⟩) (fun _ _ e=>e) (fun _ _ _ e=>e) (fun b ps e=>⟨#[],by rw[e];simp⟩) (fun m hm=>?_) (fun b u e=>?_) I.bare
 ·have e:b=it:=by simpa using hb
  subst e;exact⟨h1,hL,h2,h3⟩
 ·obtain⟨o,es,ep,ho,r⟩:=hm;exact⟨o,es,ep,k _ o (Ne.symm hL) ho,r⟩
 ·refine(I.hok b u e).stay (fun c v hc q=>k c v ?_ q) (fun _ q=>q) fun _ _ q=>q;rcases hc with z | z
  ·rw[z];exact nit b u e
  ·exact nit c _ z
theorem Inv.tok (I:Inv X pins σ H s)(t:Nat):Inv X pins σ H { s with toks:=t }:=I.un (h':=s.heap) (t':=t) Un.refl I.hok
theorem Inv.kept {t':Nat}(I:Inv X pins σ H s)(k:∀b u,s.heap.get? b=some u->h'.get? b=some u):Inv X pins σ H { s with heap:=h',toks:=t' }:=I.un (Un.kept k) (I.hok.kept k)
theorem Inv.laid {a:Addr}{o:HO}{t':Nat}(I:Inv X pins σ H s)(k:∀b u,s.heap.get? b=some u->h'.get? b=some u)(hp:s.heap.objs.size<=a)(new:ObjOk X.prog X.w (upd H a o) h' a o) :
  Inv X pins σ (upd H a o) { s with heap:=h',toks:=t' }:=I.un (Un.laid k hp (I.hok.fresh hp)) (I.hok.laid k hp new)
theorem Inv.write {x e:Addr}{o:HO}{t':Nat}(I:Inv X pins σ H s)(mu:Mut (H x))(he:e=x\/H e=some (.own x))(k:∀b u,b≠e->s.heap.get? b=some u->h'.get? b=some u)(heo:∃u,h'.get? e=some u)
  (new:ObjOk X.prog X.w (upd H x o) h' x o):Inv X pins σ (upd H x o) { s with heap:=h',toks:=t' }:=I.un (Un.write mu he k heo) (I.hok.write mu he k heo new)
theorem Inv.pins_of {pins':List (Addr×Obj)}(I:Inv X pins σ H s)(h:∀p∈pins',s.heap.get? p.1=some p.2/\H p.1=none/\p.1≠X.env.locals/\p.1 ∉ X.fs/\∀v,p.2.data≠.cell v):Inv X pins' σ H s:=
 ⟨I.ok,I.os,I.bare,I.base,I.loc,I.cell,I.free,I.freeC,fun p hp=>(List.mem_append.mp hp).elim (fun z=>I.pin p (jrN _ z)) (h p),I.hok,I.len⟩
theorem jcw {N:List Str}(hN:N.Nodup){i j:Nat}{x:Str}(a:N[i]?=some x)(b:N[j]?=some x):i=j:=by
 obtain⟨h1,e1⟩:=List.getElem?_eq_some_iff.mp a;obtain⟨h2,e2⟩:=List.getElem?_eq_some_iff.mp b;exact(List.getElem_inj hN).mp (e1.trans e2.symm)
theorem jhk {M:Model}{A:Around}{E:Value->Shared->Prop}{i:Nat}{x:Str}{v:V}{u:Value}{Q:Unit->Shared->Prop}(I:Inv X pins σ H s)(hN:X.N.Nodup)(hi:X.N[i]?=some x)(hx:Loc X.env.scope x)(r:RelV v u)
  (h:∀s',Inv X pins (σ.set i (some v)) H s'->(∃a,Heap.SameBut a s.heap s'.heap/\(a=X.env.locals\/X.env.cells.lookup x=some a))->Q () s') (hf:X.fn x=true\/X.env.scope.names.lookup x=some .local:=by first | exact .inl rfl | exact .inr rfl | assumption):wpAny M A (storeName X.env x u) Q E s:=by
 obtain⟨m,hn,hl⟩:=id I.loc;have hcls:(X.env.scope.kind == .class || (X.env.scope.kind == .module && X.env.locals != X.env.globals))=false:=by rw[I.ok.kind];rfl
 have hiσ:i < σ.length:=by rw[I.len];exact(List.getElem?_eq_some_iff.mp hi).1
 have cne:=I.cne;have tracked:∀{a:Addr}{h':Heap},(∃o,s.heap.get? a=some o/\H a=none)->Heap.SameBut a s.heap h'->HOk X.prog X.w H h':=fun {a h'} ha hs b ob e=>by
  obtain⟨_,_,hfree⟩:=ha;refine(I.hok b ob e).stay (fun c w' hc q=>(hs.2 c ?_).trans q) (fun _ q=>q) fun _ _ q=>q;rintro rfl;rcases hc with rfl | hc
  ·rw[hfree]at e;cases e
  ·rw[hfree]at hc;cases hc
 rcases hx with hk | hk
 ·refine wpAny_storeName_local hk hn (fun h' hn' hs=>?_) hcls;obtain⟨oL,_,_,hoL,_⟩:=id hn;refine h _ ⟨I.ok,I.os,I.bare,⟨fun b o e n hb hx=>?_,fun b o e n hb hx=>?_,I.base.free,fun b o e hx=>?_,I.base.tups,I.base.frzs,I.base.tbls⟩,⟨_,hn',fun j y v' e1 e2 e3=>?_⟩,fun y c e=>?_,I.free,I.freeC,fun p hp=>?_,tracked ⟨oL,hoL,I.free⟩ hs,by simpa using I.len⟩ ⟨_,hs,.inl rfl⟩
  ·exact(hs.2 b (jr3 (jr2 (jrY e) I.ok.above))).trans (I.base.keep b o e n hb hx)
  ·obtain⟨sl,e1⟩:=I.base.slot b o e n hb hx;exact⟨sl,(hs.2 b (jr3 (jr2 (jrY e) I.ok.above))).trans e1⟩
  ·obtain⟨o',e1⟩:=I.base.there b o e hx;exact⟨o',(hs.2 b (jr3 (jr2 (jrY e) I.ok.above))).trans e1⟩
  ·by_cases hj:j=i
   ·subst hj;rw[hi]at e1;cases e1;rw[List.getElem?_set_self hiσ]at e2;cases e2;exact⟨u,r,.inl ⟨hk,by simp⟩⟩
   ·rw[jrJ (Ne.symm hj)]at e2;obtain⟨u',r',q⟩:=hl j y v' e1 e2 e3;refine⟨u',r',?_⟩;rcases q with ⟨k,e⟩ | ⟨k,c,e,z⟩
    ·refine .inl ⟨k,?_⟩;have:y≠x:=fun e=>hj (jcw hN e1 (e ▸ hi));simp[this,e]
    ·exact .inr ⟨k,c,e,z.sameBut hs (cne y c e)⟩
  ·obtain⟨w',z⟩:=I.cell y c e;exact⟨w',z.sameBut hs (cne y c e)⟩
  ·obtain⟨e,n,ne,nf,d⟩:=I.pin p hp;exact⟨(hs.2 p.1 ne).trans e,n,ne,nf,d⟩
 ·have hfn:X.fn x=true:=by
   rcases hf with z | z
   ·exact z
   ·rw[z]at hk;cases hk
  obtain⟨c,hc⟩:=I.ok.has x (.inl hk);obtain⟨w',z⟩:=I.cell x c hc;refine wpAny_storeName_cell I.ok.kind hk hc z (fun h' hc' hs=>?_);obtain⟨oc,hoc,hocd⟩:=id z;refine h { s with heap:=h' } ⟨I.ok,I.os,I.bare,⟨fun b o e n hb hx=>?_,fun b o e n hb hx=>?_,I.base.free,fun b o e hx=>?_,I.base.tups,I.base.frzs,I.base.tbls⟩,⟨m,hn.sameBut hs (Ne.symm (cne x c hc)),fun j y v' e1 e2 e3=>?_⟩,fun y c' e=>?_,I.free,I.freeC,fun p hp=>?_,tracked ⟨oc,hoc,I.freeC x c hc⟩ hs,by simpa using I.len⟩ ⟨c,hs,.inr hc⟩
  ·exact(hs.2 b (jr3 (jr2 (jrY e) (I.ok.cab x c hfn hc)))).trans (I.base.keep b o e n hb hx)
  ·obtain⟨sl,e1⟩:=I.base.slot b o e n hb hx;exact⟨sl,(hs.2 b (jr3 (jr2 (jrY e) (I.ok.cab x c hfn hc)))).trans e1⟩
  ·obtain⟨o',e1⟩:=I.base.there b o e hx;exact⟨o',(hs.2 b (jr3 (jr2 (jrY e) (I.ok.cab x c hfn hc)))).trans e1⟩
  ·by_cases hj:j=i
   ·subst hj;rw[hi]at e1;cases e1;rw[List.getElem?_set_self hiσ]at e2;cases e2;exact⟨u,r,.inr ⟨.inl hk,c,hc,hc'⟩⟩
   ·rw[jrJ (Ne.symm hj)]at e2;obtain⟨u',r',q⟩:=hl j y v' e1 e2 e3;refine⟨u',r',?_⟩;rcases q with q | ⟨k,c',e,z'⟩
    ·exact .inl q
    ·refine .inr ⟨k,c',e,z'.sameBut hs ?_⟩;rintro rfl;exact hj (jcw hN e1 (I.ok.inj _ _ _ e hc ▸ hi))
  ·by_cases hcc:c'=c
   ·subst hcc;exact⟨_,hc'⟩
   ·obtain⟨w2,z2⟩:=I.cell y c' e;exact⟨w2,z2.sameBut hs hcc⟩
  ·obtain⟨e,n,ne,nf,d⟩:=I.pin p hp;refine⟨(hs.2 p.1 ?_).trans e,n,ne,nf,d⟩;intro q;rw[q,hoc]at e;have q':oc=p.2:=Option.some.inj e;exact d w' (by rw[<-q'];exact hocd)
theorem jcx {M:Model}{A:Around}{E:Value->Shared->Prop}{i:Nat}{x:Str}{v:V}{u:Value}{Q:Unit->Shared->Prop}(I:Inv X pins σ H s)(hN:X.N.Nodup)(hi:X.N[i]?=some x)(hx:Loc X.env.scope x)(r:RelV v u)
  (h:∀s',Inv X pins (σ.set i (some v)) H s'->Q () s') (hf:X.fn x=true\/X.env.scope.names.lookup x=some .local:=by first | exact .inl rfl | exact .inr rfl | assumption):wpAny M A (storeName X.env x u) Q E s:=
 jhk I hN hi hx r (fun s' I' _=>h s' I') hf
theorem Inv.call' {s':Shared}{ch:List Addr}(I:Inv X pins σ H s)(ho:s'.os=s.os)(u:Un (frs X.stack) ch H H' s.heap s'.heap)(hok:HOk X.prog X.w H' s'.heap)(hg:AllBare s'.gens)
  (hch:∀b∈ch,(b∈X.ex\/X.s₀.heap.objs.size<=b)/\b≠X.env.locals/\(∀x c,X.env.cells.lookup x=some c->c≠b)/\∀p∈X.pn++pins,p.1≠b):Inv X pins σ H' s':=by
 obtain⟨h',g',d',t',o'⟩:=s';have e:o'=s.os:=ho;subst e;exact I.call (g':=g') (t':=t') (d':=d') u hok hg hch
end
noncomputable abbrev XK:=Value->Option Addr->Hp->Prop
noncomputable abbrev St:=List (Option V)
noncomputable abbrev VK:=V->Hp->Prop
noncomputable abbrev TE:=St->Hp->VK->Prop
noncomputable abbrev TT:=St->Hp->(Bool->Hp->Prop)->Prop
noncomputable abbrev TA:=St->Hp->(List V->Hp->Prop)->Prop
structure Ends where
 nx:St->Hp->Prop
 rt:VK
 bk:St->Hp->Prop:=fun _ _=>False
 ct:St->Hp->Prop:=fun _ _=>False
noncomputable abbrev TS:=Ends->St->Hp->Prop
inductive EP (X:Cx) (pins:List (Addr×Obj)) (σ:St) (Q:VK) (u:Value) (s':Shared):Prop
 |mk (v:_) (H':_):(Inv X pins σ H' s')->(RelV v u)->(Q v H')->EP X pins σ Q u s'
noncomputable def TP (X:Cx)(pins:List (Addr×Obj))(σ:St)(Q:Bool->Hp->Prop)(b:Bool)(s':Shared):Prop:=∃H',Inv X pins σ H' s'/\Q b H'
inductive AP (X:Cx) (pins:List (Addr×Obj)) (σ:St) (Q:List V->Hp->Prop) (us:List Value) (s':Shared):Prop
 |mk (vs:_) (H':_):(Inv X pins σ H' s')->(Vals vs us)->(Q vs H')->AP X pins σ Q us s'
noncomputable def SP (X:Cx)(pins:List (Addr×Obj))(D:Ends)(f:Flow)(s':Shared):Prop:=
 match f with
 |.next=>∃σ' H',Inv X pins σ' H' s'/\D.nx σ' H'
 |.brk=>∃σ' H',Inv X pins σ' H' s'/\D.bk σ' H'
 |.cont=>∃σ' H',Inv X pins σ' H' s'/\D.ct σ' H'
 |.ret u=>∃v σ' H',Inv X pins σ' H' s'/\RelV v u/\D.rt v H'
noncomputable def PE (X:Cx)(e:Expr)(t:TE):Prop:=
 ∀(pins:List (Addr×Obj)) (s:Shared) (σ:St) (H:Hp) (Q:VK),Inv X pins σ H s->t σ H Q->wpAny (model X.prog X.w) X.A (eval e X.env) (EP X pins σ Q) X.xe s
noncomputable def PT (X:Cx)(e:Expr)(t:TT):Prop:=
 ∀(pins:List (Addr×Obj)) (s:Shared) (σ:St) (H:Hp) (Q:Bool->Hp->Prop),Inv X pins σ H s->t σ H Q->wpAny (model X.prog X.w) X.A (isTrue e X.env (eval e X.env)) (TP X pins σ Q) X.xe s
noncomputable def PW (X:Cx)(e:Expr)(t:TT):Prop:=
 ∀(whole:Sem Value) (pins:List (Addr×Obj)) (s:Shared) (σ:St) (H:Hp) (Q:Bool->Hp->Prop),Inv X pins σ H s->t σ H Q->wpAny (model X.prog X.w) X.A (isTrue e X.env whole) (TP X pins σ Q) X.xe s
theorem PW.pt {X:Cx}{e:Expr}{t:TT}(h:PW X e t):PT X e t:=h _
noncomputable def PA (X:Cx)(es:List Expr)(t:TA):Prop:=
 ∀(pos:Pos) (pins:List (Addr×Obj)) (s:Shared) (σ:St) (H:Hp) (Q:List V->Hp->Prop),Inv X pins σ H s->t σ H Q->wpAny (model X.prog X.w) X.A (spliced (backTo pos (starEach es X.env))) (AP X pins σ Q) X.xe s
noncomputable def PS (X:Cx)(st:Stmt)(t:TS):Prop:=
 ∀(pins:List (Addr×Obj)) (s:Shared) (σ:St) (H:Hp) (D:Ends),Inv X pins σ H s->t D σ H->wpAny (model X.prog X.w) X.A (exec st X.env) (SP X pins D) X.xe s
noncomputable def PSs (X:Cx)(st:List Stmt)(t:TS):Prop:=
 ∀(pins:List (Addr×Obj)) (s:Shared) (σ:St) (H:Hp) (D:Ends),Inv X pins σ H s->t D σ H->wpAny (model X.prog X.w) X.A (execs st X.env) (SP X pins D) X.xe s
theorem thn {α:Type}{t:Sem α}{Q Q':α->Shared->Prop}{M:Model}{A:Around}{E:Value->Shared->Prop}{s:Shared}(h:wpAny M A t Q E s)(hQ:∀a s,Q a s->Q' a s):wpAny M A t Q' E s:=jrW h hQ fun _ _ x=>x
end L2
namespace L2
open PySem PySem.Spec PyProof.Rows
section
variable {X:Cx}
noncomputable def jnr (i:Nat):TE:=fun σ H Q=>∃v,σ[i]?=some (some v)/\Q v H
noncomputable def tC (v:V):TE:=fun _ H Q=>Q v H
theorem jfH {i:Nat}{x:Str}{pos:Pos}(hN:X.N[i]?=some x)(hv:Vis X.env.scope x)(hd:(x == ("__debug__":Str))=false:=by decide)(hcd:(x == ("__classdict__":Str))=false:=by decide):PE X (.Name x pos) (jnr i):=by
 intro pins s σ H Q I h;obtain⟨v,e,h⟩:=h;obtain⟨m,hn,hl⟩:=I.loc;obtain⟨u,r,l⟩:=hl i x v hN e hv;have fin:EP X pins σ Q u s:=⟨v,H,I,r,h⟩;rcases l with ⟨hk,hm⟩ | ⟨hk,c,hc,hcell⟩
 ·exact wpAny_Name (wpAny_loadName_local I.ok.kind hk hn hm fin) hd
 ·rcases hk with hk | hk
  ·exact wpAny_Name (wpAny_loadName_cell I.ok.kind hk hc hcell fin) hd
  ·exact wpAny_Name (wpAny_loadName_free I.ok.kind hk hc hcell fin hcd) hd
theorem jnD {i j pos}:PE X (.Constant (.int i) j pos) (tC (.int i)):=fun _ _ _ H _ I h=>wpAny_Constant_int ⟨.int i,H,I.tok _,⟨_,rfl⟩,h⟩
theorem jpm {b j pos}:PE X (.Constant (.bool b) j pos) (tC (.bl b)):=fun _ _ _ H _ I h=>Constant_bool ⟨.bl b,H,I,rfl,h⟩
theorem jnE {j pos}:PE X (.Constant .none j pos) (tC .non):=fun _ _ _ H _ I h=>Constant_none ⟨.non,H,I,rfl,h⟩
theorem jnF {x j pos}:PE X (.Constant (.str x) j pos) (tC (.str x)):=fun _ _ _ H _ I h=>Calls.Constant_str ⟨.str x,H,I.tok _,⟨_,rfl⟩,h⟩
noncomputable def Gl (X:Cx)(x:Str):Prop:=X.env.kindOf x=some .globalImplicit
theorem jcF {E:Value->Shared->Prop}{pins:List (Addr×Obj)}{s:Shared}{σ:St}{H:Hp}{x:Str}{u:Value}{pos:Pos}{Q:Value->Shared->Prop}(I:Inv X pins σ H s)(hg:Gl X x)(hm:X.mg x=some u)(h:Q u s)
  (hd:(x == ("__debug__":Str))=false:=by decide):wpAny (model X.prog X.w) X.A (eval (.Name x pos) X.env) Q E s:=
 Calls.Name_function_global I.ok.kind hg (Calls.loadGlobal_global (by rw[I.ok.glob];exact I.mod.glob.keeps I.bk) hm h) hd
theorem jfI {E:Value->Shared->Prop}{pins:List (Addr×Obj)}{s:Shared}{σ:St}{H:Hp}{x:Str}{u:Value}{pos:Pos}{Q:Value->Shared->Prop}(I:Inv X pins σ H s)(hg:Gl X x)(hm:X.mg x=none)(hv:bootBuiltins x=some u)(h:Q u s)
  (hn:x≠"__name__":=by decide) (hd:(x == ("__debug__":Str))=false:=by decide):wpAny (model X.prog X.w) X.A (eval (.Name x pos) X.env) Q E s:=by
 obtain⟨mb,h1,h2⟩:=I.mod.blt;exact Calls.Name_function_global I.ok.kind hg (Calls.loadGlobal_builtin (by rw[I.ok.glob];exact I.mod.glob.keeps I.bk) hm (by rw[I.ok.blt];exact h1.keeps I.bk) ((h2 x hn).trans hv) h) hd
theorem jhl {x:Str}{v:V}{u:Value}{pos:Pos}(hg:Gl X x)(hm:X.mg x=some u)(r:RelV v u)(hd:(x == ("__debug__":Str))=false:=by decide):PE X (.Name x pos) (tC v):=
 fun _ _ _ H _ I h=>jcF I hg hm ⟨v,H,I,r,h⟩ hd
theorem jlB {x:Str}{v:V}{u:Value}{pos:Pos}(hg:Gl X x)(hm:X.mg x=none)(hv:bootBuiltins x=some u)(r:RelV v u)(hn:x≠"__name__":=by decide)(hd:(x == ("__debug__":Str))=false:=by decide):PE X (.Name x pos) (tC v):=
 fun _ _ _ H _ I h=>jfI I hg hm hv ⟨v,H,I,r,h⟩ hn hd
variable {a b:Expr}{ta tb:TE}{pos:Pos}
variable {tA tB':TT}{rest:List Expr}
noncomputable def jqw (t u:TT):TT:=fun σ H Q=>t σ H fun c H1=>if c=true then u σ H1 Q else Q false H1
noncomputable def tOr (t u:TT):TT:=fun σ H Q=>t σ H fun c H1=>if c=true then Q true H1 else u σ H1 Q
noncomputable def jqx (t:TT):TT:=fun σ H Q=>t σ H fun c H1=>Q (!c) H1
theorem jlC (ha:PT X a tA):PW X (.BoolOp .And [a] pos) tA:=by
 intro wh pins s σ H Q I h;refine isTrue_and (thn (ha pins s σ H Q I h) fun c s1 e=>?_);cases c with
 |true=>exact isTrue_and_nil e
 |false=>exact e
theorem jnG (ha:PT X a tA):PW X (.BoolOp .Or [a] pos) tA:=by
 intro wh pins s σ H Q I h;refine isTrue_or (thn (ha pins s σ H Q I h) fun c s1 e=>?_);cases c with
 |false=>exact isTrue_or_nil e
 |true=>exact e
theorem jnH (ha:PT X a tA)(hb:PW X (.BoolOp .And (b::rest) pos) tB'):PW X (.BoolOp .And (a::b::rest) pos) (jqw tA tB'):=by
 intro wh pins s σ H Q I h;refine isTrue_and (thn (ha pins s σ H _ I h) fun c s1 hzz=>?_);obtain⟨H1,I1,q1⟩:=hzz;cases c with
 |true=>exact hb wh pins s1 σ H1 Q I1 q1
 |false=>exact⟨H1,I1,q1⟩
theorem jpn (ha:PT X a tA)(hb:PW X (.BoolOp .Or (b::rest) pos) tB'):PW X (.BoolOp .Or (a::b::rest) pos) (tOr tA tB'):=by
 intro wh pins s σ H Q I h;refine isTrue_or (thn (ha pins s σ H _ I h) fun c s1 hzz=>?_);obtain⟨H1,I1,q1⟩:=hzz;cases c with
 |true=>exact⟨H1,I1,q1⟩
 |false=>exact hb wh pins s1 σ H1 Q I1 q1
theorem jnI (ha:PT X a tA):PT X (.UnaryOp .Not a pos) (jqx tA):=by
 intro pins s σ H Q I h;exact isTrue_not (ha pins s σ H (fun c H1=>Q (!c) H1) I h)
noncomputable def jnJ (ta tb:TE):TE:=fun σ H Q=>ta σ H fun x H1=>∃c,x=.bl c/\if c=true then tb σ H1 Q else Q (.bl false) H1
noncomputable def jqy (ta tb:TE):TE:=fun σ H Q=>ta σ H fun x H1=>∃c,x=.bl c/\if c=true then Q (.bl true) H1 else tb σ H1 Q
noncomputable def jnK (ta:TE):TE:=fun σ H Q=>ta σ H fun x H1=>∃c,x=.bl c/\Q (.bl (!c)) H1
theorem jkY {op}{t:TE}(h:PE X a t):PE X (.BoolOp op [a] pos) t:=fun pins s σ H Q I hw=>BoolOp_one (h pins s σ H Q I hw)
theorem jnL (ha:PE X a ta)(hb:PE X (.BoolOp .And (b::rest) pos) tb):PE X (.BoolOp .And (a::b::rest) pos) (jnJ ta tb):=by
 intro pins s σ H Q I h;refine BoolOp_and (thn (ha pins s σ H _ I h) fun v s1 hzz=>?_);obtain⟨x,H1,I1,r1,q1⟩:=hzz;obtain⟨c,rfl,q1⟩:=q1;cases r1;refine wpAny_truthy_bool ?_;cases c with
 |true=>exact hb pins s1 σ H1 Q I1 q1
 |false=>exact⟨.bl false,H1,I1,rfl,q1⟩
theorem jpo (ha:PE X a ta)(hb:PE X (.BoolOp .Or (b::rest) pos) tb):PE X (.BoolOp .Or (a::b::rest) pos) (jqy ta tb):=by
 intro pins s σ H Q I h;refine BoolOp_or (thn (ha pins s σ H _ I h) fun v s1 hzz=>?_);obtain⟨x,H1,I1,r1,q1⟩:=hzz;obtain⟨c,rfl,q1⟩:=q1;cases r1;refine wpAny_truthy_bool ?_;cases c with
 |false=>exact hb pins s1 σ H1 Q I1 q1
 |true=>exact⟨.bl true,H1,I1,rfl,q1⟩
theorem jnM (ha:PE X a ta):PE X (.UnaryOp .Not a pos) (jnK ta):=by
 intro pins s σ H Q I h;refine UnaryOp_ (thn (ha pins s σ H _ I h) fun v s1 hzz=>?_);obtain⟨x,H1,I1,r1,q1⟩:=hzz;obtain⟨c,rfl,q1⟩:=q1;cases r1;exact not_of (wpAny_truthy_bool ⟨.bl (!c),H1,I1,rfl,q1⟩)
noncomputable def tIf (t:TT)(ta tb:TE):TE:=fun σ H Q=>t σ H fun c H1=>if c=true then ta σ H1 Q else tb σ H1 Q
theorem jjp {c:Expr}(hc:PT X c tA)(ha:PE X a ta)(hb:PE X b tb):PE X (.IfExp c a b pos) (tIf tA ta tb):=by
 intro pins s σ H Q I h;refine wpAny_IfExp (thn (hc pins s σ H _ I h) fun d s1 hzz=>?_);obtain⟨H1,I1,q1⟩:=hzz;cases d with
 |true=>exact ha pins s1 σ H1 Q I1 q1
 |false=>exact hb pins s1 σ H1 Q I1 q1
end
end L2
namespace L2
open PySem PySem.Spec PyProof.Rows
noncomputable def SqL (K:PySem.W.Frag)(H:Hp)(a:Addr)(xs:List V):Prop:=
 Rd H a (.lst xs) \/
  ∃(o:Obj) (its:Array Value) (n:Nat),K.lookup a=some o/\o.cls=.type "list"/\o.dict=none/\o.data=.seq its n/\its.size<=sizeLine/\Vals xs its.toList
noncomputable def SqT (K:PySem.W.Frag)(H:Hp)(a:Addr)(xs:List V):Prop:=
 Rd H a (.tup xs) \/
  ∃(o:Obj) (its:Array Value) (n:Nat),K.lookup a=some o/\o.cls=.type "tuple"/\o.data=.seq its n/\its.size<=sizeLine/\Vals xs its.toList
noncomputable def jqW:Value->Option V
 |.none=>some .non
 |.bool b=>some (.bl b)
 |.int i _=>some (.int i)
 |.str x _=>some (.str x)
 |.bytes b _=>some (.byt b)
 |.float b _=>some (.flt b)
 |.ref a=>some (.ref a)
 |.type n=>some (.ty n)
 |_=>none
theorem RelV.abs {x:V}{u:Value}(r:RelV x u):jqW u=some x:=by
 cases x with
 |non=>cases r;rfl
 |bl _=>cases r;rfl
 |int _=>obtain⟨t,rfl⟩:=r;rfl
 |str _=>obtain⟨t,rfl⟩:=r;rfl
 |byt _=>obtain⟨t,rfl⟩:=r;rfl
 |flt _=>obtain⟨t,rfl⟩:=r;rfl
 |ref _=>cases r;rfl
 |ty _=>cases r;rfl
theorem RelV.inj {x y:V}{u:Value}(r:RelV x u)(q:RelV y u):x=y:=Option.some.inj (r.abs.symm.trans q.abs)
theorem Vals.inj {xs ys:List V}{us:List Value}(h:Vals xs us)(h':Vals ys us):xs=ys:=by
 induction h generalizing ys with
 |nil=>cases h';rfl
 |cons r t ih=>
  cases h' with
  |cons r' t'=>rw[r.inj r',ih t']
section
variable {X:Cx}{pins:List (Addr×Obj)}{σ:St}{H:Hp}{s:Shared}{a:Addr}{xs ys:List V}
theorem SqL.of {K:PySem.W.Frag}(h:H a=some (.lst xs)):SqL K H a xs:=.inl (.inl h)
theorem Inv.list (I:Inv X pins σ H s)(h:SqL X.K H a xs):∃its:List Value,Vals xs its/\PlainL s.heap a its.toArray/\xs.length<=sizeLine:=by
 rcases h with h | ⟨o,its,n,hk,hc,hd,hs,hz,r⟩
 ·obtain⟨z,its,n,r,e⟩:=h.ok I.hok;exact⟨its,r,⟨_,n,e,rfl,rfl,rfl⟩,z⟩
 ·refine⟨its.toList,r,⟨o,n,I.kIn a o hk,hc,hd,by simpa using hs⟩,?_⟩
  have e:=r.length;simp only[Array.length_toList]at e;omega
theorem Inv.tuple (I:Inv X pins σ H s)(h:SqT X.K H a xs):∃its:List Value,Vals xs its/\IsTup s.heap a its.toArray/\xs.length<=sizeLine:=by
 rcases h with h | ⟨o,its,n,hk,hc,hs,hz,r⟩
 ·obtain⟨z,its,r,p⟩:=h.ok I.hok;exact⟨its,r,p,z⟩
 ·refine⟨its.toList,r,⟨o,I.kIn a o hk,hc,n,by simpa using hs⟩,?_⟩
  have e:=r.length;simp only[Array.length_toList]at e;omega
theorem Inv.list_inj (I:Inv X pins σ H s)(h:SqL X.K H a xs)(h':SqL X.K H a ys):xs=ys:=by
 obtain⟨its,r,⟨o,n,e,_,_,d⟩,_⟩:=I.list h;obtain⟨its',r',⟨o',n',e',_,_,d'⟩,_⟩:=I.list h';rw[e]at e';cases e';rw[d]at d';injection d' with d1 _
 have:its=its':=by simpa using congrArg Array.toList d1
 subst this;exact r.inj r'
theorem Inv.tuple_inj (I:Inv X pins σ H s)(h:SqT X.K H a xs)(h':SqT X.K H a ys):xs=ys:=by
 obtain⟨its,r,⟨o,e,_,n,d⟩,_⟩:=I.tuple h;obtain⟨its',r',⟨o',e',_,n',d'⟩,_⟩:=I.tuple h';rw[e]at e';cases e';rw[d]at d';injection d' with d1 _
 have:its=its':=by simpa using congrArg Array.toList d1
 subst this;exact r.inj r'
end
section
variable {X:Cx}{pins:List (Addr×Obj)}{σ:St}{H:Hp}{s:Shared}{E:Value->Shared->Prop}
end
section
variable {X:Cx}{st:Stmt}{rest:List Stmt}{t u:TS}{e:Expr}{te:TE}{pos:Pos}
noncomputable def jnN:TS:=fun D σ H=>D.nx σ H
noncomputable def jqX (t u:TS):TS:=fun D σ H=>t { D with nx:=u D } σ H
theorem jhm:PSs X [] jnN:=fun _ _ σ H _ I h=>wpAny_execs_nil ⟨σ,H,I,h⟩
theorem jfJ (h1:PS X st t)(h2:PSs X rest u):PSs X (st::rest) (jqX t u):=by
 intro pins s σ H D I h;refine wpAny_execs_cons (thn (h1 pins s σ H { D with nx:=u D } I h) fun f s1 q=>?_)
 cases f with
 |next=>
  obtain⟨σ',H',I',q⟩:=q;exact h2 pins s1 σ' H' D I' q
 |ret v=>exact q
 |brk=>exact q
 |cont=>exact q
noncomputable def jnO:TS:=fun D σ H=>D.bk σ H
noncomputable def jpp:TS:=fun D σ H=>D.ct σ H
theorem jlD:PS X (.Pass pos) jnN:=fun _ _ σ H _ I h=>wpAny_Pass ⟨σ,H,I,h⟩
theorem jjq:PS X (.Break pos) jnO:=fun _ _ σ H _ I h=>wpAny_Break ⟨σ,H,I,h⟩
theorem jeS:PS X (.Continue pos) jpp:=fun _ _ σ H _ I h=>wpAny_Continue ⟨σ,H,I,h⟩
theorem Inv.quiet {pins:List (Addr×Obj)}{σ:St}{H:Hp}{s:Shared}(I:Inv X pins σ H s):interactive X.env=false:=by simp[interactive,I.ok.kind]
noncomputable def jpq (te:TE):TS:=fun D σ H=>te σ H fun _ H1=>D.nx σ H1
theorem jeT (he:PE X e te)(hs:swapsWith e none pos.line X.env=pure false:=by rfl):PS X (.Expr e pos) (jpq te):=by
 intro pins s σ H D I h;exact wpAny_Expr_any (thn (he pins s σ H _ I h) fun v s1 ⟨x,H1,I1,r1,q1⟩=>⟨σ,H1,I1,q1⟩) I.quiet hs
noncomputable def jqY (te:TE):TS:=fun D σ H=>te σ H D.rt
theorem jnP (he:PE X e te):PS X (.Return (some e) pos) (jqY te):=by
 intro pins s σ H D I h;exact wpAny_Return_some (thn (he pins s σ H _ I h) fun v s1 ⟨x,H1,I1,r1,q1⟩=>⟨x,σ,H1,I1,r1,q1⟩)
noncomputable def jpr:TS:=fun D _ H=>D.rt .non H
theorem jlE:PS X (.Return none pos) jpr:=fun _ _ σ H _ I h=>wpAny_Return_none ⟨.non,σ,H,I,rfl,h⟩
noncomputable def jqZ (c:TT)(t u:TS):TS:=fun D σ H=>c σ H fun b H1=>if b=true then t D σ H1 else u D σ H1
theorem jps {c:Expr}{a b:List Stmt}{tc:TT}(hc:PT X c tc)(ha:PSs X a t)(hb:PSs X b u):PS X (.If c a b pos) (jqZ tc t u):=by
 intro pins s σ H D I h;refine wpAny_If (thn (hc pins s σ H _ I h) fun d s1 hzz=>?_);obtain⟨H1,I1,q1⟩:=hzz;cases d with
 |true=>exact ha pins s1 σ H1 D I1 q1
 |false=>exact hb pins s1 σ H1 D I1 q1
end
noncomputable abbrev TG:=V->St->Hp->(St->Hp->Prop)->Prop
noncomputable abbrev TGs:=List V->St->Hp->(St->Hp->Prop)->Prop
noncomputable def PG (X:Cx)(target:Expr)(t:TG):Prop:=
 ∀(pins:List (Addr×Obj)) (s:Shared) (σ:St) (H:Hp) (v:V) (u:Value) (Q:St->Hp->Prop),Inv X pins σ H s->RelV v u->t v σ H Q ->
  wpAny (model X.prog X.w) X.A (assign target X.env u) (fun _ s'=>∃σ' H',Inv X pins σ' H' s'/\Q σ' H') X.xe s
noncomputable def PGs (X:Cx)(ts:List Expr)(t:TGs):Prop:=
 ∀(pins:List (Addr×Obj)) (s:Shared) (σ:St) (H:Hp) (vs:List V) (us:List Value) (Q:St->Hp->Prop),Inv X pins σ H s->Vals vs us->t vs σ H Q ->
  wpAny (model X.prog X.w) X.A (assignInOrder ((assignEach ts X.env).map (·.2)) us) (fun _ s'=>∃σ' H',Inv X pins σ' H' s'/\Q σ' H') X.xe s
noncomputable abbrev jpt:=V->V->V->Hp->(Hp->Prop)->Prop
noncomputable def jqz (X:Cx)(t:jpt):Prop:=
 ∀(pins:List (Addr×Obj)) (s:Shared) (σ:St) (H:Hp) (o i v:V) (ov iv u:Value) (Q:Hp->Prop),Inv X pins σ H s->RelV o ov->RelV i iv->RelV v u->t o i v H Q ->
  wpAny (model X.prog X.w) X.A (setItem ov iv u) (fun _ s'=>∃H',Inv X pins σ H' s'/\Q H') X.xe s
section
variable {X:Cx}{pos:Pos}
noncomputable def jlF (i:Nat):TG:=fun v σ H Q=>Q (σ.set i (some v)) H
theorem jhn {i:Nat}{x:Str}(hN:X.N.Nodup)(hi:X.N[i]?=some x)(hx:Loc X.env.scope x)(hf:X.fn x=true\/X.env.scope.names.lookup x=some .local:=by first | exact .inl rfl | exact .inr rfl | assumption):PG X (.Name x pos) (jlF i):=by
 intro pins s σ H v u Q I r h;exact wpAny_assign_Name (jcx I hN hi hx r (fun s' I'=>⟨_,H,I',h⟩) hf)
noncomputable def jqA:TGs:=fun vs σ H Q=>vs=[]/\Q σ H
noncomputable def jnQ (t:TG)(u:TGs):TGs:=fun vs σ H Q=>∃v r,vs=v::r/\t v σ H fun σ' H'=>u r σ' H' Q
theorem jlG:PGs X [] jqA:=by
 intro pins s σ H vs us Q I r h;obtain⟨e,h⟩:=h;subst e;cases r;exact assignInOrder_nil ⟨σ,H,I,h⟩
theorem jjr {e:Expr}{es:List Expr}{t:TG}{u:TGs}(h1:PG X e t)(h2:PGs X es u)
  (hs:(assignEach (e::es) X.env).map (·.2)=assign e X.env::(assignEach es X.env).map (·.2):=by rfl):PGs X (e::es) (jnQ t u):=by
 intro pins s σ H vs us Q I r h;obtain⟨v,vr,e1,h⟩:=h;subst e1;cases r with
 |cons r rr=>
  rw[hs];refine assignInOrder_cons (thn (h1 pins s σ H _ _ _ I r h) fun _ s1 hzz=>?_);obtain⟨σ1,H1,I1,q1⟩:=hzz;exact h2 pins s1 σ1 H1 _ _ Q I1 rr q1
noncomputable def jq0 (K:PySem.W.Frag)(n:Nat)(t:TGs):TG:=fun v σ H Q=>∃a xs,v=.ref a/\SqT K H a xs/\xs.length=n/\t xs σ H Q
theorem jkZ {es:List Expr}{k:Nat}{t:TGs}{n:Nat}(hc:X.calm=true)(h:PGs X es t)
  (hn:(assignEach es X.env).length=n:=by rfl) (hst:(assignEach es X.env).findIdx? (·.1)=none:=by rfl):PG X (.Tuple es k pos) (jq0 X.K n t):=by
 intro pins s σ H v u Q I r hw;obtain⟨a,xs,e1,hq,hl,hw⟩:=hw;subst e1;cases r;obtain⟨its,rv,ht,hz⟩:=I.tuple hq;refine assign_Tuple_tuple (I.ok.hd hc) ht (by simp[hn,<-hl,rv.length]) hst fun h' hx=>?_
 have I1:Inv X pins σ H { s with heap:=h' }:=I.kept (t':=s.toks) fun b o e=>hx b o (jr3 (jrY e)) e
 exact h pins _ σ H xs _ Q I1 (by simpa using rv) hw
noncomputable def jq1 (to ti:TE)(t:jpt):TG:=fun v σ H Q=>to σ H fun o H1=>ti σ H1 fun i H2=>t o i v H2 fun H3=>Q σ H3
theorem jnR {o i:Expr}{to ti:TE}{t:jpt}(ho:PE X o to)(hi:PE X i ti)(hs:jqz X t)
  (ha:∀v,assign (.Subscript o i pos) X.env v=(do
   let ov <-holding [v] (eval o X.env)
   let iv <-holding [v,ov] (eval i X.env)
   standAt pos
   holding [v,ov,iv] (setItem ov iv v)
   release [v,ov,iv] []):=by intro _;rfl):PG X (.Subscript o i pos) (jq1 to ti t):=by
 intro pins s σ H v u Q I r h;rw[ha];refine jrR (jrU (thn (ho pins s σ H _ I h) fun ov s1 hzz=>?_));obtain⟨x,H1,I1,r1,q1⟩:=hzz;refine jrR (jrU (thn (hi pins s1 σ H1 _ I1 q1) fun iv s2 hzz=>?_));obtain⟨y,H2,I2,r2,q2⟩:=hzz;refine jrR (wpAny_standAt (jrR (jrU (thn (hs pins s2 σ H2 x y v ov iv u _ I2 r1 r2 r q2) fun _ s3 hzz=>?_))));obtain⟨H3,I3,q3⟩:=hzz;exact wpAny_release ⟨σ,H3,I3,q3⟩
noncomputable def jqB (te:TE)(g:TG):TS:=fun D σ H=>te σ H fun x H1=>g x σ H1 D.nx
theorem jk0 {tg e:Expr}{te:TE}{g:TG}(he:PE X e te)(hg:PG X tg g)(hs:swapsWithSole [tg] e pos.line X.env=pure false:=by rfl)(hw:swappedStores [tg] e X.env=pure none:=by rfl)
  (h1:(assignEach [tg] X.env).map (·.2)=[assign tg X.env]:=by rfl):PS X (.Assign [tg] e pos) (jqB te g):=by
 intro pins s σ H D I h;refine wpAny_Assign_stores (thn (he pins s σ H _ I h) fun v s1 hzz=>?_) hs hw;obtain⟨x,H1,I1,r1,q1⟩:=hzz;rw[h1];exact thn (hg pins s1 σ H1 x v _ I1 r1 q1) fun _ s2 q=>q
theorem jnS {i:Nat}{x:Str}{e:Expr}{te:TE}{pos':Pos}(hN:X.N.Nodup)(hi:X.N[i]?=some x)(hx:Loc X.env.scope x)(he:PE X e te)(hs:swapsWith e (some (.Name x pos')) pos.line X.env=pure false:=by rfl)(hf:X.fn x=true\/X.env.scope.names.lookup x=some .local:=by first | exact .inl rfl | exact .inr rfl | assumption) :
  PS X (.Assign [.Name x pos'] e pos) (jqB te (jlF i)):=by
 intro pins s σ H D I h;refine wpAny_Assign_Name (thn (he pins s σ H _ I h) fun v s1 hzz=>?_) hs;obtain⟨y,H1,I1,r1,q1⟩:=hzz;exact jcx I1 hN hi hx r1 (fun s2 I2=>⟨_,H1,I2,q1⟩) hf
end
section
variable {X:Cx}{pos:Pos}
noncomputable def jnT (c:TT)(tb:TS):TS:=fun D σ H=>∃W:Nat->St->Hp->Prop,(∃m,W m σ H)/\∀m σ H,W m σ H ->
 c σ H fun b H1=>if b=true then ∃N:St->Hp->Prop,(∀σ' H',N σ' H'->∃m',m' < m/\W m' σ' H')/\tb { D with nx:=N,ct:=N,bk:=D.nx } σ H1 else D.nx σ H1
theorem jjs {c:Expr}{body:List Stmt}{tc:TT}{tb:TS}(hp:PassesOwn (model X.prog X.w) X.A X.env X.xe)(hc:PT X c tc)(hb:PSs X body tb):PS X (.While c body [] pos) (jnT tc tb):=by
 intro pins s σ H D I h;obtain⟨W,⟨m0,w0⟩,turn⟩:=h;refine wpAny_While (codeAny_whileLoop (fun n s'=>∃σ' H',Inv X pins σ' H' s'/\W n σ' H') ?_ m0 ⟨σ,H,I,w0⟩);rintro n s1 ⟨σ1,H1,I1,w1⟩;refine wpAny_passesOwn hp (thn (hc pins s1 σ1 H1 _ I1 (turn n σ1 H1 w1)) fun b s2 hzz=>?_);obtain⟨H2,I2,q2⟩:=hzz;cases b with
 |true=>
  obtain⟨N,hN,q2⟩:=q2;rw[if_pos rfl];refine wpAny_passesOwn hp (thn (hb pins s2 σ1 H2 _ I2 q2) fun f s3 q3=>?_);cases f with
  |next=>
   obtain⟨σ3,H3,I3,n3⟩:=q3;obtain⟨m',hm,w3⟩:=hN σ3 H3 n3;exact⟨m',hm,σ3,H3,I3,w3⟩
  |cont=>
   obtain⟨σ3,H3,I3,n3⟩:=q3;obtain⟨m',hm,w3⟩:=hN σ3 H3 n3;exact⟨m',hm,σ3,H3,I3,w3⟩
  |brk=>exact q3
  |ret v=>exact q3
 |false=>
  rw[if_neg jr8];exact wpAny_execs_nil ⟨σ1,H2,I2,q2⟩
end
structure It where
 go:Nat->Hp->Prop
 yld:Nat->Hp->V->Hp->Prop
 stop:Nat->Hp->Prop
noncomputable def FpOk (X:Cx)(pins:List (Addr×Obj))(H:Hp)(b:Addr):Prop:=
 H b=none/\b≠X.env.locals/\b ∉ X.fs/\(b∈X.ex\/X.s₀.heap.objs.size<=b)/\(∀x c,X.env.cells.lookup x=some c->c≠b)/\∀p∈X.pn++pins,p.1≠b
theorem Inv.fpOk {X:Cx}{pins:List (Addr×Obj)}{σ:St}{H H':Hp}{s:Shared}{b:Addr}(I:Inv X pins σ H s)(hb:s.heap.objs.size<=b)(hn:H' b=none):FpOk X pins H' b:=by
 refine⟨hn,Nat.ne_of_gt (jr2 I.lt hb),I.nofs hb,.inr (jr4 I.sz hb),fun x c e z=>?_,fun p hp z=>?_⟩
 ·obtain⟨v,q⟩:=I.cell x c e;exact absurd (jr2 q.lt (by rw[z];exact hb)) (jr5 _)
 ·exact absurd (jr2 (jrY (I.pin p hp).1) (by rw[z];exact hb)) (jr5 _)
structure Turn (P:Program)(w:World)(K:PySem.W.Frag)(tg:Expr)(J:It)(fp:List Addr)(it:Addr)(tn:Nat->Heap->Prop):Prop where
 mem:it∈fp
 obj:∀i h,tn i h->∀b∈fp,∃o,h.get? b=some o/\∀v,o.data≠.cell v
 keep:∀i h h',tn i h->(∀b∈fp,∀o,h.get? b=some o->h'.get? b=some o)->tn i h'
 item:∀(X:Cx),X.prog=P->X.w=w->X.K=K->X.calm=true->∀(i:Nat) (pins:List (Addr×Obj)) (s:Shared) (σ:St) (H:Hp) (E:Value->Shared->Prop),Inv X pins σ H s->(∀b∈fp,FpOk X pins H b)->tn i s.heap->J.go i H ->
  wpAny (model P w) X.A (pyNext (.ref it)) (fun r s1=>∃u,r=some u /\
   wpAny (model P w) X.A (letOwnedTupleGo tg (.ref it) u) (fun _ s2=>∃x H',Inv X pins σ H' s2/\RelV x u/\J.yld i H x H'/\tn (i + 1) s2.heap/\∀b∈fp,H' b=none) E s1) E s
 done:∀(X:Cx),X.prog=P->X.w=w->X.K=K->X.calm=true->∀(i:Nat) (pins:List (Addr×Obj)) (s:Shared) (σ:St) (H:Hp) (E:Value->Shared->Prop),Inv X pins σ H s->(∀b∈fp,FpOk X pins H b)->tn i s.heap->J.stop i H ->
  wpAny (model P w) X.A (pyNext (.ref it)) (fun r s1=>r=none/\Inv X pins σ H s1) E s
 self:∀(A:Around) (i:Nat) (s:Shared) (Q:Value->Shared->Prop) (E:Value->Shared->Prop),tn i s.heap->Q (.ref it) s->wpAny (model P w) A (pyIter (.ref it)) Q E s
noncomputable abbrev TI:=St->Hp->(It->Hp->Prop)->Prop
inductive PIE (X:Cx) (pins:List (Addr×Obj)) (σ:St) (tg:Expr) (R:It->Hp->Prop) (itv:Value) (s2:Shared):Prop
 |mk (it:Addr) (fp:List Addr) (tn:Nat->Heap->Prop) (J:It) (H':Hp):(itv=.ref it)->(Inv X pins σ H' s2)->(Turn X.prog X.w X.K tg J fp it tn)->(tn 0 s2.heap)->((∀b∈fp,FpOk X pins H' b))->(R J H')->PIE X pins σ tg R itv s2
noncomputable def PI (X:Cx)(tg iter:Expr)(wi:TI):Prop:=
 ∀(pins:List (Addr×Obj)) (s:Shared) (σ:St) (H:Hp) (R:It->Hp->Prop),Inv X pins σ H s->wi σ H R ->
  wpAny (model X.prog X.w) X.A (eval iter X.env) (fun v s1=>wpAny (model X.prog X.w) X.A (pyIter v) (PIE X pins σ tg R) X.xe s1) X.xe s
theorem jjt {M:Model}{A:Around}{E:Value->Shared->Prop}{s:Shared}{tg:Expr}{it:Addr}{u:Value}{o:Obj}{n:String}{vs:Array Value}{Q:Unit->Shared->Prop}(ho:s.heap.get? it=some o)(hc:o.cls=.type n)(hd:o.data=.fields vs)
  (hn:["enumerate","zip","dict_itemiterator","dict_reverseitemiterator","odict_iterator","itertools.zip_longest","itertools.pairwise"].contains n=false) (hQ:Q () s):wpAny M A (letOwnedTupleGo tg (.ref it) u) Q E s:=by
 unfold letOwnedTupleGo;cases tg <;> first
  |exact jrS hQ
  |(cases u <;> first
    |exact jrS hQ
    |(refine jrR (wpAny_load ho ?_)
      rw[hc,hd];show wpAny M A (if (["enumerate","zip","dict_itemiterator","dict_reverseitemiterator","odict_iterator","itertools.zip_longest","itertools.pairwise"].contains n && vs[0]? == some (rawInt _))=true then _ else _) Q E s;rw[if_neg (by intro h;rw[hn,Bool.false_and]at h;cases h)]
      exact jrS hQ))
noncomputable def Itl (K:PySem.W.Frag)(a:Addr):It:=
 ⟨fun i H=>∃xs x,SqL K H a xs/\xs[i]?=some x,fun i H x H'=>H'=H/\∀xs,SqL K H a xs->xs[i]?=some x,fun i H=>∃xs,SqL K H a xs/\xs.length<=i⟩
noncomputable def Itt (K:PySem.W.Frag)(a:Addr):It:=
 ⟨fun i H=>∃xs x,SqT K H a xs/\xs[i]?=some x,fun i H x H'=>H'=H/\∀xs,SqT K H a xs->xs[i]?=some x,fun i H=>∃xs,SqT K H a xs/\xs.length<=i⟩
noncomputable def Itr (lo:Int)(n:Nat):It:=⟨fun i _=>i < n,fun i H x H'=>H'=H/\x=.int (lo + i),fun i _=>n<=i⟩
theorem jho {P:Program}{w:World}{K:PySem.W.Frag}{tg:Expr}(a it:Addr):Turn P w K tg (Itl K a) [it] it (fun i h=>h.IsListIter it a i) where
 mem:=by simp
 obj:=fun i h st b hb=>by
  have e:b=it:=by simpa using hb
  subst e;obtain⟨o,e,c,d⟩:=st;exact⟨o,e,fun v z=>by rw[d]at z;cases z⟩
 keep:=fun i h h' st k=>st.at fun o e=>k it (by simp) o e
 item:=by
  intro X hP hw hK hc i pins s σ H E I hf st hg;subst hP hw hK;obtain⟨xs,x,hq,hx⟩:=hg;obtain⟨its,rv,p,hz⟩:=I.list hq;obtain⟨u,hu,ru⟩:=rv.get hx;obtain⟨f0,f1,f2,f3,f4,f5⟩:=hf it (by simp)
  refine wpAny_pyNext_list_item st p.isList (x:=u) (by simpa using hu) fun h' st' sb=>?_
  have I1:Inv X pins σ H { s with heap:=h' }:=I.turned (t':=s.toks) (fun b o hb e=>(sb.2 b hb).trans e) f0 f1 f3 f4 f5
  obtain⟨o,e,c,d⟩:=id st';exact⟨u,rfl,jjt (s:={ s with heap:=h' }) e c d (by decide) ⟨x,H,I1,ru,⟨rfl,fun ys hy=>by rw[I.list_inj hy hq];exact hx⟩,st',fun b hb=>(hf b hb).1⟩⟩
 done:=by
  intro X hP hw hK hc i pins s σ H E I hf st hg;subst hP hw hK;obtain⟨xs,hq,hx⟩:=hg;obtain⟨its,rv,p,hz⟩:=I.list hq;obtain⟨f0,f1,f2,f3,f4,f5⟩:=hf it (by simp)
  have hl:=rv.length;exact wpAny_pyNext_list_end (I.ok.hd hc) st p.isList (by simp;omega) fun h' eb=>⟨rfl,I.turned (t':=s.toks) (fun b o hb e=>eb b o hb e) f0 f1 f3 f4 f5⟩
 self:=fun _ _ _ _ _ st h=>wpAny_pyIter_listiter st h
theorem jgq {P:Program}{w:World}{K:PySem.W.Frag}{tg:Expr}(a it:Addr):Turn P w K tg (Itt K a) [it] it (fun i h=>h.IsTupleIter it a i) where
 mem:=by simp
 obj:=fun i h st b hb=>by
  have e:b=it:=by simpa using hb
  subst e;obtain⟨o,e,c,d⟩:=st;exact⟨o,e,fun v z=>by rw[d]at z;cases z⟩
 keep:=fun i h h' st k=>st.at fun o e=>k it (by simp) o e
 item:=by
  intro X hP hw hK hc i pins s σ H E I hf st hg;subst hP hw hK;obtain⟨xs,x,hq,hx⟩:=hg;obtain⟨its,rv,p,hz⟩:=I.tuple hq;obtain⟨u,hu,ru⟩:=rv.get hx;obtain⟨f0,f1,f2,f3,f4,f5⟩:=hf it (by simp)
  refine wpAny_pyNext_tuple_item st (show s.heap.IsTuple a its.toArray from p) (x:=u) (by simpa using hu) fun h' st' sb=>?_
  have I1:Inv X pins σ H { s with heap:=h' }:=I.turned (t':=s.toks) (fun b o hb e=>(sb.2 b hb).trans e) f0 f1 f3 f4 f5
  obtain⟨o,e,c,d⟩:=id st';exact⟨u,rfl,jjt (s:={ s with heap:=h' }) e c d (by decide) ⟨x,H,I1,ru,⟨rfl,fun ys hy=>by rw[I.tuple_inj hy hq];exact hx⟩,st',fun b hb=>(hf b hb).1⟩⟩
 done:=by
  intro X hP hw hK hc i pins s σ H E I hf st hg;subst hP hw hK;obtain⟨xs,hq,hx⟩:=hg;obtain⟨its,rv,p,hz⟩:=I.tuple hq;obtain⟨f0,f1,f2,f3,f4,f5⟩:=hf it (by simp)
  have hl:=rv.length;exact wpAny_pyNext_tuple_end (I.ok.hd hc) st (show s.heap.IsTuple a its.toArray from p) (by simp;omega) fun h' eb=>⟨rfl,I.turned (t':=s.toks) (fun b o hb e=>eb b o hb e) f0 f1 f3 f4 f5⟩
 self:=fun _ _ _ _ _ st h=>wpAny_pyIter_tupleiter st h
theorem jgr {P:Program}{w:World}{K:PySem.W.Frag}{tg:Expr}(it:Addr)(lo:Int)(n:Nat):Turn P w K tg (Itr lo n) [it] it (fun i h=>IsRangeIter h it (lo + (i:Nat) * 1) ((n:Int) - (i:Nat)) 1) where
 mem:=by simp
 obj:=fun i h st b hb=>by
  have e:b=it:=by simpa using hb
  subst e;exact⟨_,st,fun v z=>by
   have z':Data.fields _=Data.cell v:=z;cases z'⟩
 keep:=fun i h h' st k=>k it (by simp) _ st
 item:=by
  intro X hP hw hK hc i pins s σ H E I hf st hg;subst hP hw hK;obtain⟨f0,f1,f2,f3,f4,f5⟩:=hf it (by simp)
  have W:=Walks.range (prog:=X.prog) (w:=X.w) (I.ok.hd hc) it lo 1 n;refine W.item i s _ _ hg st fun v h' tk hv st' kk=>?_;obtain⟨t,rfl⟩:=hv;have I1:Inv X pins σ H { s with heap:=h',toks:=tk }:=I.turned (fun b o hb e=>kk b o (by simpa using hb) e) f0 f1 f3 f4 f5
  refine⟨_,rfl,jjt (s:={ s with heap:=h',toks:=tk }) (n:="range_iterator") st' rfl rfl (by decide) ⟨.int (lo + i),H,I1,⟨t,?_⟩,⟨rfl,rfl⟩,st',fun b hb=>(hf b hb).1⟩⟩
  rw[Int.mul_one]
 done:=by
  intro X hP hw hK hc i pins s σ H E I hf st hg;subst hP hw hK;obtain⟨f0,f1,f2,f3,f4,f5⟩:=hf it (by simp)
  exact wpAny_pyNext_range_end (I.ok.hd hc) st (by have:n<=i:=hg;omega) fun h' eb=>⟨rfl,I.turned (t':=s.toks) (fun b o hb e=>eb b o hb e) f0 f1 f3 f4 f5⟩
 self:=fun _ _ _ _ _ st h=>wpAny_pyIter_rangeiter st h
end L2
namespace L2
open PySem PySem.Spec PyProof.Rows
section
variable {X:Cx}{tg:Expr}
theorem jju {pins:List (Addr×Obj)}{σ:St}{H:Hp}{s:Shared}{R:It->Hp->Prop}{E:Value->Shared->Prop}{lo hi:Int}{t u v:Tok}{tk:Nat}(I:Inv X pins σ H s)(h1:-(2 ^ 62)<=lo)(h2:lo < 2 ^ 62)(h3:-(2 ^ 62)<=hi)(h4:hi < 2 ^ 62)
  (q:R (Itr lo (hi - lo).toNat) H):wpAny (model X.prog X.w) X.A (pyIter (.ref s.heap.objs.size)) (PIE X pins σ tg R) E { s with heap:=s.heap.push { cls:=.type "range",data:=.fields #[.int lo t,.int hi u,.int 1 v] },toks:=tk }:=by
 refine wpAny_pyIter_range (IsRange.new ..) (small_one h1 h2 h3 h4) ?_;have I1:Inv X pins σ H { s with heap:=s.heap.push { cls:=.type "range",data:=.fields #[.int lo t,.int hi u,.int 1 v] },toks:=tk }:=I.kept fun b o e=>jrX _ e
 refine⟨(s.heap.push { cls:=.type "range",data:=.fields #[.int lo t,.int hi u,.int 1 v] }).objs.size,[(s.heap.push { cls:=.type "range",data:=.fields #[.int lo t,.int hi u,.int 1 v] }).objs.size],_,_,H,rfl,
  I1.kept (t':=tk) fun b o e=>jrX _ e,jgr _ lo (hi - lo).toNat,?_,fun b hb=>?_,q⟩
 ·have e1:lo + ((0:Nat):Int) * 1=lo:=by simp
  have e2:(((hi - lo).toNat:Nat):Int) - ((0:Nat):Int)=Builtin.Range.rangeSize lo hi 1:=by rw[rangeSize_one];split <;> omega
  show IsRangeIter _ _ (lo + ((0:Nat):Int) * 1) ((((hi - lo).toNat:Nat):Int) - ((0:Nat):Int)) 1;rw[e1,e2];exact jrZ _ rfl
 ·have e:b=(s.heap.push { cls:=.type "range",data:=.fields #[.int lo t,.int hi u,.int 1 v] }).objs.size:=by simpa using hb
  subst e;exact I1.fpOk (jr1 _) (I1.hok.fresh (jr1 _))
noncomputable def jpu (ta:TA):TI:=fun σ H R=>ta σ H fun vs H1=>∃j:Int,vs=[.int j]/\-(2 ^ 62)<=j/\j < 2 ^ 62/\R (Itr 0 j.toNat) H1
theorem jhp {a:Expr}{ta:TA}{p pos:Pos}(hg:Gl X "range")(hm:X.mg "range"=none)(ha:PA X [a] ta)(hs:starEach [a] X.env=[(false,eval a X.env)]:=by rfl):PI X tg (.Call (.Name "range" p) [a] [] pos) (jpu ta):=by
 intro pins s σ H R I h;refine Call_ (jfI I hg hm boot_range (PyProof.Rows.callWith_type1 (thn (ha pos pins s σ H _ I h) fun us s1 hzz=>?_) hs rfl));obtain⟨vs,H1,I1,r1,q1⟩:=hzz;obtain⟨j,e,q1,q2,q⟩:=q1;subst e;cases r1 with
 |cons r rr=>
  cases rr;obtain⟨t,rfl⟩:=r;exact call_range_1 (jju I1 (by omega) (by omega) q1 q2 (by simpa using q))
noncomputable def jbO (fp:List Addr)(h:Heap):List (Addr×Obj):=fp.filterMap fun b=>(h.get? b).map fun o=>(b,o)
theorem jbj {fp:List Addr}{h:Heap}{b:Addr}{o:Obj}(hb:b∈fp)(e:h.get? b=some o):(b,o)∈jbO fp h:=List.mem_filterMap.mpr ⟨b,hb,by rw[e];rfl⟩
theorem jhq {fp:List Addr}{h:Heap}{p:Addr×Obj}(hp:p∈jbO fp h):p.1∈fp/\h.get? p.1=some p.2:=by
 obtain⟨b,hb,e⟩:=List.mem_filterMap.mp hp;cases q:h.get? b with
 |none=>rw[q]at e;cases e
 |some o=>
  rw[q]at e;have e':(b,o)=p:=Option.some.inj e;subst e';exact⟨hb,q⟩
theorem Inv.pinned {pins:List (Addr×Obj)}{σ:St}{H:Hp}{s:Shared}{fp:List Addr}(I:Inv X pins σ H s)(hf:∀b∈fp,FpOk X pins H b)(ho:∀b∈fp,∃o,s.heap.get? b=some o/\∀v,o.data≠.cell v):Inv X (pins++jbO fp s.heap) σ H s:=
 I.pins_of fun p hp=>(List.mem_append.mp hp).elim (fun z=>I.pin p (jrB _ z)) fun z=>by
  obtain⟨hb,e⟩:=jhq z;obtain⟨f0,f1,f2,_⟩:=hf p.1 hb;obtain⟨o,e',d⟩:=ho p.1 hb;rw[e]at e';cases e';exact⟨e,f0,f1,f2,d⟩
theorem Inv.unpinned {pins pl:List (Addr×Obj)}{σ:St}{H:Hp}{s:Shared}(I:Inv X (pins++pl) σ H s):Inv X pins σ H s:=I.pins_of fun p hp=>I.pin p (jrB _ (jrN _ hp))
end
end L2
namespace L2
open PySem PySem.Spec PyProof.Rows
noncomputable abbrev R2:=V->V->Hp->VK->Prop
noncomputable def OpR (X:Cx)(f:Value->Value->Sem Value)(r:R2):Prop:=
 ∀(pins:List (Addr×Obj)) (s:Shared) (σ:St) (H:Hp) (x y:V) (v u:Value) (Q:VK),Inv X pins σ H s->RelV x v->RelV y u->r x y H Q ->
  wpAny (model X.prog X.w) X.A (f v u) (EP X pins σ Q) X.xe s
noncomputable def CallR (X:Cx)(f:Value)(r:List V->Hp->VK->Prop):Prop:=
 ∀(pins:List (Addr×Obj)) (s:Shared) (σ:St) (H:Hp) (xs:List V) (us:List Value) (Q:VK),Inv X pins σ H s->Vals xs us->r xs H Q ->
  wpAny (model X.prog X.w) X.A (call f us) (EP X pins σ Q) X.xe s
noncomputable def jq2 (X:Cx)(r:V->Hp->(Bool->Hp->Prop)->Prop):Prop:=
 ∀(pins:List (Addr×Obj)) (s:Shared) (σ:St) (H:Hp) (x:V) (v:Value) (Q:Bool->Hp->Prop),Inv X pins σ H s->RelV x v->r x H Q ->
  wpAny (model X.prog X.w) X.A (truthy v) (TP X pins σ Q) X.xe s
noncomputable def tOp (r:R2)(ta tb:TE):TE:=fun σ H Q=>ta σ H fun x H1=>tb σ H1 fun y H2=>r x y H2 Q
noncomputable def tUn (r:V->Hp->VK->Prop)(ta:TE):TE:=fun σ H Q=>ta σ H fun x H1=>r x H1 Q
noncomputable def rI (C:Int->Int->Prop)(g:Int->Int->V):R2:=fun x y H Q=>∃i j,x=.int i/\y=.int j/\C i j/\Q (g i j) H
noncomputable def rI0 (g:Int->Int->V):R2:=fun x y H Q=>∃i j,x=.int i/\y=.int j/\Q (g i j) H
section
variable {X:Cx}{a b c:Expr}{ta tb tc:TE}{pos:Pos}
theorem jpv (ha:PE X a ta)(hb:PE X b tb){pins:List (Addr×Obj)}{s:Shared}{σ:St}{H:Hp}{R:V->V->Hp->Prop}(I:Inv X pins σ H s)
  (h:ta σ H fun x H1=>tb σ H1 fun y H2=>R x y H2) {Q:Value->Shared->Prop}{f:Value->Value->Sem Value}
  (hf:∀v u s2 x y H2,Inv X pins σ H2 s2->RelV x v->RelV y u->R x y H2->wpAny (model X.prog X.w) X.A (f v u) Q X.xe s2) :
  wpAny (model X.prog X.w) X.A (eval a X.env) (fun v s₁=>wpAny (model X.prog X.w) X.A (eval b X.env) (fun u s₂=>wpAny (model X.prog X.w) X.A (f v u) Q X.xe s₂) X.xe s₁) X.xe s:=by
 refine thn (ha pins s σ H _ I h) fun v s1 hzz=>?_;obtain⟨x,H1,I1,r1,q1⟩:=hzz;refine thn (hb pins s1 σ H1 _ I1 q1) fun u s2 hzz=>?_;obtain⟨y,H2,I2,r2,q2⟩:=hzz;exact hf v u s2 x y H2 I2 r1 r2 q2
theorem jpw {op:Operator}{r:R2}(ho:OpR X (binaryOp op) r)(ha:PE X a ta)(hb:PE X b tb):PE X (.BinOp a op b pos) (tOp r ta tb):=by
 intro pins s σ H Q I h;exact wpAny_BinOp (jpv ha hb I h fun v u s2 x y H2 I2 rx ry q=>ho pins s2 σ H2 x y v u Q I2 rx ry q)
theorem opI {f:Value->Value->Sem Value}{C:Int->Int->Prop}{g:Int->Int->Int}
  (rule:∀(i j:Int) (t u:Tok) (s:Shared) (Q:Value->Shared->Prop) (E:Value->Shared->Prop),C i j->Q (.int (g i j) s.toks) { s with toks:=s.toks + 1 }->wpAny (model X.prog X.w) X.A (f (.int i t) (.int j u)) Q E s) :
  OpR X f (rI C fun i j=>.int (g i j)):=by
 intro pins s σ H x y v u Q I rx ry h;obtain⟨i,j,rfl,rfl,hc,q⟩:=h;obtain⟨t,rfl⟩:=rx;obtain⟨t',rfl⟩:=ry;exact rule i j t t' s _ _ hc ⟨.int (g i j),H,I.tok _,⟨_,rfl⟩,q⟩
theorem jqC {f:Value->Value->Sem Value}{g:Int->Int->Int}
  (rule:∀(i j:Int) (t u:Tok) (s:Shared) (Q:Value->Shared->Prop) (E:Value->Shared->Prop),Q (.int (g i j) s.toks) { s with toks:=s.toks + 1 }->wpAny (model X.prog X.w) X.A (f (.int i t) (.int j u)) Q E s) :
  OpR X f (rI0 fun i j=>.int (g i j)):=by
 intro pins s σ H x y v u Q I rx ry h;obtain⟨i,j,rfl,rfl,q⟩:=h;obtain⟨t,rfl⟩:=rx;obtain⟨t',rfl⟩:=ry;exact rule i j t t' s _ _ ⟨.int (g i j),H,I.tok _,⟨_,rfl⟩,q⟩
theorem jpg {f:Value->Value->Sem Value}{g:Int->Int->Bool}
  (rule:∀(i j:Int) (t u:Tok) (s:Shared) (Q:Value->Shared->Prop) (E:Value->Shared->Prop),Q (.bool (g i j)) s->wpAny (model X.prog X.w) X.A (f (.int i t) (.int j u)) Q E s) :
  OpR X f (rI0 fun i j=>.bl (g i j)):=by
 intro pins s σ H x y v u Q I rx ry h;obtain⟨i,j,rfl,rfl,q⟩:=h;obtain⟨t,rfl⟩:=rx;obtain⟨t',rfl⟩:=ry;exact rule i j t t' s _ _ ⟨.bl (g i j),H,I,rfl,q⟩
noncomputable def jq3 (i j:Int):Prop:=0<=j/\j<=1000000/\i.natAbs < 2 ^ 64
noncomputable def CMul (i j:Int):Prop:=(-(2 ^ 64) < i/\i < 2 ^ 64)\/(-(2 ^ 64) < j/\j < 2 ^ 64)
theorem CMul.ok {i j:Int}(h:CMul i j):IntMulOk i j:=by
 rcases h with ⟨h1,h2⟩ | ⟨h1,h2⟩
 ·exact .of_left (intBits_le_64 h1 h2)
 ·exact .of_right (intBits_le_64 h1 h2)
theorem jnU:OpR X (binaryOp .Add) (rI0 fun i j=>.int (i + j)):=jqC fun _ _ _ _ _ _ _ q=>add_int q
theorem jnV:OpR X (binaryOp .Sub) (rI0 fun i j=>.int (i - j)):=jqC fun _ _ _ _ _ _ _ q=>sub_int q
theorem jnW:OpR X (binaryOp .Mult) (rI CMul fun i j=>.int (i * j)):=opI fun _ _ _ _ _ _ _ hc q=>mul_int q hc.ok
theorem jnX:OpR X (binaryOp .Mod) (rI (fun _ j=>0 < j) fun i j=>.int (i % j)):=opI fun i j _ _ _ _ _ hc q=>by
 have h1:(0:Int) < j:=hc;exact mod_int' (by omega) (by rw[Int.fmod_eq_emod_of_nonneg i (by omega)];exact q)
theorem jnY:OpR X (binaryOp .Pow) (rI jq3 fun i j=>.int (i ^ j.toNat)):=opI fun _ _ _ _ _ _ _ hc q=>pow_int_small hc.1 hc.2.1 hc.2.2 q
end
section
variable {X:Cx}{a b c:Expr}{ta tb tc:TE}{pos:Pos}
theorem jk1 {pins:List (Addr×Obj)}{σ:St}{H:Hp}{s:Shared}{Q:VK}{k k':Bool}(I:Inv X pins σ H s)(q:Q (.bl k) H)(e:k=k'):EP X pins σ Q (.bool k') s:=by
 subst e;exact⟨.bl k,H,I,rfl,q⟩
theorem jpx:OpR X (compareOp .Lt) (rI0 fun i j=>.bl (decide (i < j))):=jpg fun _ _ _ _ _ _ _ q=>lt_int q
theorem jpy:OpR X (compareOp .LtE) (rI0 fun i j=>.bl (decide (i<=j))):=jpg fun _ _ _ _ _ _ _ q=>le_int q
theorem jpz:OpR X (compareOp .Gt) (rI0 fun i j=>.bl (decide (j < i))):=jpg fun _ _ _ _ _ _ _ q=>gt_int q
theorem jpA:OpR X (compareOp .GtE) (rI0 fun i j=>.bl (decide (j<=i))):=jpg fun _ _ _ _ _ _ _ q=>ge_int q
theorem jnZ:OpR X (compareOp .Is) (fun x y H Q=>y=.non/\Q (.bl (decide (x=.non))) H):=by
 intro pins s σ H x y v u Q I rx ry h;obtain⟨rfl,q⟩:=h;cases ry;refine is_none_gen (jk1 I q ?_);cases x <;> first
  |(cases rx;rfl)
  |(obtain⟨t,rfl⟩:=rx;rfl)
theorem jlH:OpR X (compareOp .IsNot) (fun x y H Q=>y=.non/\Q (.bl (!decide (x=.non))) H):=by
 intro pins s σ H x y v u Q I rx ry h;obtain⟨rfl,q⟩:=h;cases ry;refine isnot_none_gen (jk1 I q ?_);cases x <;> first
  |(cases rx;rfl)
  |(obtain⟨t,rfl⟩:=rx;rfl)
theorem jlI {op:CmpOp}{r:R2}(ho:OpR X (compareOp op) r)(ha:PE X a ta)(hb:PE X b tb)(hm:behindInMarks op b=false):PE X (.Compare a [op] [b] pos) (tOp r ta tb):=by
 intro pins s σ H Q I h;exact wpAny_Compare1 (jpv ha hb I h fun v u s2 x y H2 I2 rx ry q=>ho pins s2 σ H2 x y v u Q I2 rx ry q) hm
noncomputable def jpB (t:TE):TT:=fun σ H Q=>t σ H fun x H'=>∃k,x=.bl k/\Q k H'
theorem jlJ {op:CmpOp}{r:R2}(ho:OpR X (compareOp op) r)(ha:PE X a ta)(hb:PE X b tb)(hm:behindInMarks op b=false):PT X (.Compare a [op] [b] pos) (jpB (tOp r ta tb)):=by
 intro pins s σ H Q I h;refine wpAny_isTrue_Compare1 (thn (ha pins s σ H _ I h) fun v s1 ⟨x,H1,I1,r1,q1⟩=>thn (hb pins s1 σ H1 _ I1 q1) fun u s2 ⟨y,H2,I2,r2,q2⟩=>
  thn (ho pins s2 σ H2 x y v u _ I2 r1 r2 q2) fun c s3 ⟨z,H3,I3,r3,k,e,q3⟩=>?_) hm
 subst e;cases r3;exact wpAny_truthy_bool ⟨H3,I3,q3⟩
noncomputable def jpC (K:PySem.W.Frag)(x:V)(H:Hp)(k:Bool):Prop:=
 match x with
 |.non=>k=false
 |.bl b=>k=b
 |.int i=>k=(i != 0)
 |.str y=>y.length<=sizeLine/\k=((y.length:Int) != 0)
 |.byt y=>y.size<=sizeLine/\k=((y.size:Int) != 0)
 |.ref p=>(∃xs,SqL K H p xs/\k=!xs.isEmpty)\/(∃xs,SqT K H p xs/\k=!xs.isEmpty)\/∃kvs,H p=some (.dK kvs)/\k=!kvs.isEmpty
 |_=>False
theorem jgs {κ:Type}{kvs:List (κ×V)}{vs:List (κ×Value)}(r:KV kvs vs):(!vs.isEmpty)=!kvs.isEmpty:=by
 cases r <;> rfl
theorem jdo {xs:List V}{its:List Value}(r:Vals xs its):(!its.toArray.isEmpty)=!xs.isEmpty:=by
 cases r <;> simp
theorem jcG:(sizeLine:Nat) < 2 ^ 63:=by rw[sizeLine_eq];decide
theorem jn0:jq2 X (fun x H Q=>∃k,jpC X.K x H k/\Q k H):=by
 intro pins s σ H x v Q I rx h;obtain⟨k,e,q⟩:=h;have hl:=jcG;have hs:sizeLine=16777216:=sizeLine_eq;cases x with
 |non=>
  cases rx;have e':k=false:=e;subst e';exact truthy_none ⟨H,I,q⟩
 |bl b=>
  cases rx;have e':k=b:=e;subst e';exact wpAny_truthy_bool ⟨H,I,q⟩
 |int i=>
  obtain⟨t,rfl⟩:=rx;have e':k=(i != 0):=e;subst e';exact PySem.P.truthy_int ⟨H,I,q⟩
 |str y=>
  obtain⟨t,rfl⟩:=rx;obtain⟨hy,e'⟩:y.length<=sizeLine/\k=((y.length:Int) != 0):=e;subst e';exact PySem.P.truthy_str (by omega) ⟨H,I.tok _,q⟩
 |byt y=>
  obtain⟨t,rfl⟩:=rx;obtain⟨hy,e'⟩:y.size<=sizeLine/\k=((y.size:Int) != 0):=e;subst e';exact PySem.W.truthy_bytes (by omega) ⟨H,I.tok _,q⟩
 |ref p=>
  cases rx;have e':(∃xs,SqL X.K H p xs/\k=!xs.isEmpty)\/(∃xs,SqT X.K H p xs/\k=!xs.isEmpty)\/∃kvs,H p=some (.dK kvs)/\k=!kvs.isEmpty:=e;rcases e' with ⟨xs,hx,e'⟩ | ⟨xs,hx,e'⟩ | ⟨kvs,hx,e'⟩
  ·subst e';obtain⟨its,r,pl,hz⟩:=I.list hx;have hlen:=r.length;exact wpAny_truthy_list pl.isList (by simp only[jru];omega) ⟨H,I.tok _,by rw[jdo r];exact q⟩
  ·subst e';obtain⟨its,r,pl,hz⟩:=I.tuple hx;have hlen:=r.length;exact truthy_tuple pl (by simp only[jru];omega) ⟨H,I.tok _,by rw[jdo r];exact q⟩
  ·subst e';obtain⟨hz,hS,vs,r,m⟩:kvs.length<=sizeLine/\(p == sysModules)=false/\∃vs,KV kvs vs/\s.heap.DictOf (jeR X.prog X.w) p vs:=I.hok p _ hx;have hlen:kvs.length=vs.length:=Paired.length r;exact wpAny_truthy_dict hS m (by omega) ⟨H,I.tok _,by rw[jgs r];exact q⟩
 |_=>exact(show False from e).elim
theorem jjv (ha:PE X a ta)(he:∀whole,isTrue a X.env whole=(do let v <-whole;standAt a.pos;holding [v] (truthy v))) :
  PT X a (fun σ H Q=>ta σ H fun x H'=>∃k,jpC X.K x H' k/\Q k H'):=by
 intro pins s σ H Q I h;exact isTrue_plain (thn (ha pins s σ H _ I h) fun v s1 ⟨x,H1,I1,r1,q1⟩=>jn0 pins s1 σ H1 x v Q I1 r1 q1) (he _)
theorem jgt:OpR X (binaryOp .Add) (fun x y H Q=>∃i j,x=.str i/\y=.str j/\i.length + j.length<=sizeLine/\Q (.str (i++j)) H):=by
 intro pins s σ H x y v u Q I rx ry h;obtain⟨i,j,rfl,rfl,hz,q⟩:=h;obtain⟨t,rfl⟩:=rx;obtain⟨t',rfl⟩:=ry;exact add_str (fun t' tk=>⟨.str (i++j),H,I.tok _,⟨_,rfl⟩,q⟩) hz
theorem jcd {x:V}{us:List Value}(r:Vals [x] us):∃u,us=[u]/\RelV x u:=by
 cases r with
 |cons r1 r2=>cases r2;exact⟨_,rfl,r1⟩
theorem jn1 {x y:V}{us:List Value}(r:Vals [x,y] us):∃u w',us=[u,w']/\RelV x u/\RelV y w':=by
 cases r with
 |cons r1 r2=>
  cases r2 with
  |cons r3 r4=>cases r4;exact⟨_,_,rfl,r1,r3⟩
theorem jhr (hc:X.calm=true):CallR X (.builtin "min") (fun xs H Q=>∃i j,xs=[.int i,.int j]/\Q (.int (if j < i then j else i)) H):=by
 intro pins s σ H xs us Q I r h;obtain⟨i,j,rfl,q⟩:=h;obtain⟨u,w',rfl,⟨t,rfl⟩,⟨t',rfl⟩⟩:=jn1 r;refine min_two_ints (I.ok.hd hc) fun h' tk k=>⟨_,H,I.kept k,?_,q⟩;by_cases hj:j < i
 ·rw[if_pos hj,if_pos hj];exact⟨_,rfl⟩
 ·rw[if_neg hj,if_neg hj];exact⟨_,rfl⟩
theorem call_int1:CallR X (.type "int") (fun xs H Q=>(∃i,xs=[.int i]/\Q (.int i) H)\/∃k,xs=[.bl k]/\Q (.int (if k then 1 else 0)) H):=by
 intro pins s σ H xs us Q I r h;rcases h with ⟨i,rfl,q⟩ | ⟨k,rfl,q⟩
 ·obtain⟨u,rfl,t,rfl⟩:=jcd r;exact call_int_int ⟨.int i,H,I,⟨_,rfl⟩,q⟩
 ·obtain⟨u,rfl,r1⟩:=jcd r;cases r1;exact call_int_bool ⟨.int (if k then 1 else 0),H,I.tok _,⟨_,rfl⟩,q⟩
end
end L2
namespace L2
open PySem PySem.Spec PyProof.Rows
section
variable {prog:Program}{w:World}{A:Around}{E:Value->Shared->Prop}{s:Shared}{K:PySem.W.Frag}{x dx C f:Addr}{mA:Str->Option Value}{name:Str}{v:Value}
end
section
variable {P:Program}{w:World}{H H':Hp}{h h':Heap}{a C dx:Addr}{fs fs':List (Str×V)}
end
section
variable {X:Cx}{pins:List (Addr×Obj)}{σ:St}{H:Hp}{s:Shared}{a C dx:Addr}{fs:List (Str×V)}{f:Str}{v:V}{A:Around}{E:Value->Shared->Prop}
end
section
variable {X:Cx}{o e value:Expr}{f:Str}{pos pos' tpos:Pos}{ta tv:TE}
end
section
variable {X:Cx}{pins:List (Addr×Obj)}{σ:St}{H:Hp}{s:Shared}{A:Around}{E:Value->Shared->Prop}{Q:Value->Shared->Prop}{c:Value}{b:Bool}
end
end L2
namespace L2
open PySem PySem.Spec PyProof.Rows
structure Room (k:Nat)(A:Around):Prop where
 hd:A.handled=none
 dp:A.depth + 3 * k + 5 < recursionLimit
 un:A.units + 16 * k + 200 < cLine
theorem Room.deeper {k:Nat}{A:Around}(r:Room (k + 1) A)(env:Env):Room k (A.deeper env):=
 ⟨r.hd,by have:=r.dp;show A.depth + 1 + 3 * k + 5 < _;omega,by have:=r.un;show A.units + 3 + 16 * k + 200 < _;omega⟩
theorem Room.depth {k:Nat}{A:Around}(r:Room k A):A.depth < recursionLimit:=by have:=r.dp;omega
theorem Room.units {k:Nat}{A:Around}(r:Room k A):A.units + 64 < cLine:=by have:=r.un;omega
noncomputable def jlK:TA:=fun _ H Q=>Q [] H
noncomputable def jeU (ta:TE)(tr:TA):TA:=fun σ H Q=>ta σ H fun x H1=>tr σ H1 fun xs H2=>Q (x::xs) H2
section
variable {X:Cx}{e:Expr}{es:List Expr}{te:TE}{t:TA}{pos:Pos}
theorem jbu:PA X [] jlK:=fun _ _ _ _ H Q I h=>Calls.spliced_nil ⟨[],H,I,.nil,h⟩
theorem jaJ (ha:PE X e te)(hr:PA X es t)(hs:starEach (e::es) X.env=(false,eval e X.env)::starEach es X.env:=by rfl):PA X (e::es) (jeU te t):=by
 intro pos pins s σ H Q I h;rw[hs];show wpAny _ _ (spliced ((false,eval e X.env)::backTo pos (starEach es X.env))) _ _ s;refine Calls.spliced_cons (thn (ha pins s σ H _ I h) fun u s1 hzz=>?_);obtain⟨x,H1,I1,r1,q1⟩:=hzz;exact thn (hr pos pins s1 σ H1 _ I1 q1) fun us s2 ⟨xs,H2,I2,r2,q2⟩=>⟨x::xs,H2,I2,.cons r1 r2,q2⟩
noncomputable def jq4 (t:TA):TE:=fun σ H Q=>t σ H fun xs H1=>xs.length<=sizeLine/\∀p,H1 p=none->Q (.ref p) (upd H1 p (.tup xs))
noncomputable def jq5 (t:TA):TE:=fun σ H Q=>t σ H fun xs H1=>xs.length<=sizeLine/\∀p,H1 p=none->Q (.ref p) (upd H1 p (.lst xs))
theorem jk2 {x1}(h:PA X es t):PE X (.Tuple es x1 pos) (jq4 t):=by
 intro pins s σ H Q I hq;refine wpAny_Tuple_spliced (thn (h pos pins s σ H _ I hq) fun us s1 ⟨xs,H1,I1,r,z,q⟩=>⟨by rw[<-r.length];exact z,?_⟩)
 have hf:H1 s1.heap.objs.size=none:=I1.hok.fresh (jr1 _);refine⟨.ref s1.heap.objs.size,upd H1 s1.heap.objs.size (.tup xs),I1.laid (t':=s1.toks) (fun b u e=>jrX _ e) (jr1 _) ?_,rfl,q _ hf⟩;exact⟨z,us,r,⟨_,jrZ _ rfl,rfl,_,rfl⟩⟩
theorem jn2 (h:PA X es t):PE X (.List es pos) (jq5 t):=by
 intro pins s σ H Q I hq;refine wpAny_List_spliced (thn (h pos pins s σ H _ I hq) fun us s1 ⟨xs,H1,I1,r,z,q⟩=>⟨by rw[<-r.length];exact z,?_⟩)
 have hf:H1 s1.heap.objs.size=none:=I1.hok.fresh (jr1 _);refine⟨.ref s1.heap.objs.size,upd H1 s1.heap.objs.size (.lst xs),I1.laid (t':=s1.toks) (fun b u e=>jrX _ e) (jr1 _) ?_,rfl,q _ hf⟩;exact⟨z,us,0,r,jrZ _ rfl⟩
end
noncomputable abbrev Sp:=List V->Hp->VK->XK->Prop
noncomputable abbrev CXT:=List Env->Hp->Shared->XK->Value->Shared->Prop
structure Env0 (P:Program)(w:World)(K:PySem.W.Frag)(mg:Str->Option Value)(base:Heap)(A:Around)(outer:List Env)(s:Shared)(H:Hp):Prop where
 frames:A.frames=some outer
 mod:Mod K mg base
 bs:∀b o,base.get? b=some o->s.heap.get? b=some o/\H b=none
 bsz:base.objs.size<=s.heap.objs.size
 funs:s.heap.FunFrames base outer
 frf:∀b∈frs outer,H b=none
 hok:HOk P w H s.heap
 bare:AllBare s.gens
inductive CE (outer:List Env) (P:Program) (w:World) (H:Hp) (s:Shared) (Q:VK) (u:Value) (s':Shared):Prop
 |mk (v:_) (H':_):(s'.os=s.os)->(AllBare s'.gens)->(Un (frs outer) [] H H' s.heap s'.heap)->(HOk P w H' s'.heap)->(RelV v u)->(Q v H')->CE outer P w H s Q u s'
noncomputable def CR (CX:CXT)(outer:List Env)(P:Program)(w:World)(H:Hp)(s:Shared)(Q:VK)(E:XK)(r:Result)(s':Shared):Prop:=
 match r with
 |.ok (.ret u)=>CE outer P w H s Q u s'
 |.ok _=>False
 |.error e=>CX outer H s E e s'
structure FnOk (P:Program)(w:World)(K:PySem.W.Frag)(mg:Str->Option Value)(base:Heap)(CX:CXT)(k:Nat)(f:Addr)(fd:FuncData)(ps:List Str)(sp:Sp):Prop where
 len:∀vs H Q E,sp vs H Q E->vs.length=ps.length
 run:∀(A:Around) (outer:List Env) (s:Shared) (H:Hp) (args:Args) (us:List Value) (vs:List V) (Q:VK) (E:XK),Room k A->Env0 P w K mg base A outer s H->BindsTo s fd args (ps.zip us)->Vals vs us->sp vs H Q E ->
  codeAny (model P w) A (.call (.ref f) args) (CR CX outer P w H s Q E) s
section
variable {X:Cx}{pins:List (Addr×Obj)}{σ:St}{H:Hp}{s s':Shared}
theorem Inv.env0 (I:Inv X pins σ H s):Env0 X.prog X.w X.K X.mg X.base X.A X.stack s H:=
 ⟨I.ok.frames,I.ok.mod,I.bs,jr4 I.ok.bsz I.sz,I.stack,I.stkFree,I.hok,I.bare⟩
theorem Inv.after {Q:VK}{u:Value}(I:Inv X pins σ H s)(h:CE X.stack X.prog X.w H s Q u s'):EP X pins σ Q u s':=by
 obtain⟨v,H',os,bare,un,hok,r,q⟩:=h;obtain⟨hh,g,d,t,os'⟩:=s';obtain rfl:os'=s.os:=os;exact⟨v,H',I.call (h':=hh) (g':=g) (d':=d) (t':=t) (ch:=[]) un hok bare (fun b z=>absurd z (by simp)),r,q⟩
end
noncomputable def Binds (K:PySem.W.Frag)(fd:FuncData)(ps:List Str)(ds:List Value):Prop:=
 ∀(s:Shared) (us:List Value),K.In s.heap->(us++ds).length=ps.length->BindsTo s fd ⟨us,[]⟩ (ps.zip (us++ds))
theorem Binds.all {K:PySem.W.Frag}{fd:FuncData}{ps:List Str}(h:∀us:List Value,us.length=ps.length->bindArgs fd ⟨us,[]⟩=pure (ps.zip us)):Binds K fd ps []:=fun s us _ hl=>by
 rw[jrP]at hl ⊢;exact .of_eq (h us hl)
section
variable {X:Cx}{CX:CXT}{k:Nat}{f C:Addr}{fd:FuncData}{ps:List Str}{sp:Sp}{dvs:List V}{ds:List Value}{E:XK}{x m:Str}{p pos apos:Pos}{e o:Expr}{es:List Expr}{ta:TE}{t:TA}
end
section
variable {X:Cx}{CX:CXT}{k:Nat}{f C:Addr}{fd:FuncData}{ps ks:List Str}{sp:Sp}{E:XK}{x m:Str}{p pos apos kpos:Pos}{e o:Expr}{es:List Expr}{kws:List Keyword}{te ta:TE}{t tk:TA}{nm:Option Str}
variable {g:List Value->List Value->List Value}{gV:List V->List V->List V}
end
structure FnScope (N P:List Str)(sc:Scope):Prop where
 kind:sc.kind=.function
 co:sc.isCoroutine=false
 gen:sc.isGenerator=false
 nd:N.Nodup
 pre:N.take P.length=P
 par:∀x∈P,sc.names.lookup x=some .local\/sc.names.lookup x=some .cell
 nofree:∀y∈sc.names,y.2≠.free
theorem jd7 {kindOf:Str->Option NameKind}{x:Str}:∀{binds:List (Str×Value)}{m:Str->Option Value},(∀v,(x,v) ∉ binds)->bindL kindOf binds m x=m x
 |[],_,_=>rfl
 |(n,v)::r,m,h=>by
  unfold bindL;rw[jd7 fun w hw=>h w (jrr _ hw)];split
  ·have:x≠n:=by rintro rfl;exact h v jrs
   simp[this]
  ·rfl
theorem jd8 {kindOf:Str->Option NameKind}{x:Str}:∀{binds:List (Str×Value)}{m:Str->Option Value},(∀v,(x,v) ∉ binds)->bindC kindOf binds m x=m x
 |[],_,_=>rfl
 |(n,v)::r,m,h=>by
  unfold bindC;rw[jd8 fun w hw=>h w (jrr _ hw)];split
  ·rfl
  ·have:x≠n:=by rintro rfl;exact h v jrs
   simp[this]
theorem jd9 {kindOf:Str->Option NameKind}{x:Str}{v:Value}:∀{P:List Str}{vs:List Value}{i:Nat}{m:Str->Option Value},P.Nodup->P[i]?=some x->vs[i]?=some v->kindOf x=some .local ->
  bindL kindOf (P.zip vs) m x=some v
 |[],_,_,_,_,h,_,_=>by simp at h
 |_::_,[],_,_,_,_,h,_=>by simp at h
 |p::P,w::vs,0,m,nd,h1,h2,hk=>by
  simp at h1 h2;subst h1;subst h2;show bindL kindOf ((p,w)::P.zip vs) m p=_;unfold bindL;rw[jd7 fun v hv=>(List.nodup_cons.mp nd).1 (List.of_mem_zip hv).1,if_pos hk];simp
 |p::P,w::vs,i + 1,m,nd,h1,h2,hk=>by
  show bindL kindOf ((p,w)::P.zip vs) m x=_;unfold bindL;exact jd9 (i:=i) (List.nodup_cons.mp nd).2 (by simpa using h1) (by simpa using h2) hk
theorem jea {kindOf:Str->Option NameKind}{x:Str}{v:Value}:∀{P:List Str}{vs:List Value}{i:Nat}{m:Str->Option Value},P.Nodup->P[i]?=some x->vs[i]?=some v->kindOf x≠some .local ->
  bindC kindOf (P.zip vs) m x=some v
 |[],_,_,_,_,h,_,_=>by simp at h
 |_::_,[],_,_,_,_,h,_=>by simp at h
 |p::P,w::vs,0,m,nd,h1,h2,hk=>by
  simp at h1 h2;subst h1;subst h2;show bindC kindOf ((p,w)::P.zip vs) m p=_;unfold bindC;rw[jd8 fun v hv=>(List.nodup_cons.mp nd).1 (List.of_mem_zip hv).1,if_neg hk];simp
 |p::P,w::vs,i + 1,m,nd,h1,h2,hk=>by
  show bindC kindOf ((p,w)::P.zip vs) m x=_;unfold bindC;exact jea (i:=i) (List.nodup_cons.mp nd).2 (by simpa using h1) (by simpa using h2) hk
noncomputable def start (N:List Str)(vs:List V):St:=vs.map some++List.replicate (N.length - vs.length) none
noncomputable def jgu (CX:CXT)(P:Program)(w:World)(K:PySem.W.Frag)(mg:Str->Option Value)(base:Heap)(N:List Str)(qual:Str)(scope:Scope)(f:Addr)(cd:Value)(A:Around)(outer:List Env)(s:Shared)(H:Hp)(E:XK):Cx where
 prog:=P
 w:=w
 K:=K
 mg:=mg
 base:=base
 A:=A.deeper (envOfC qual scope s.heap.objs.size f cd)
 N:=N
 s₀:=s
 H₀:=H
 env:=envOfC qual scope s.heap.objs.size f cd
 outer:=outer
 stack:=envOfC qual scope s.heap.objs.size f cd::outer
 ex:=[]
 calm:=true
 fn:=fun _=>true
 pn:=[]
 xe:=fun e s'=>wpAny (model P w) (A.deeper (envOfC qual scope s.heap.objs.size f cd)) (leaving (envOfC qual scope s.heap.objs.size f cd) e) (fun _ s''=>CX outer H s E e s'') (fun e' s''=>CX outer H s E e' s'') s'
theorem jfK {sc:Scope}{n:Nat}{x:Str}(h:sc.names.lookup x=some .cell):∃c,(cellsFrom n sc.names []).lookup x=some c:=by
 have q:=PySem.W.cellsFrom_some sc.names n [] (.inl h);exact Option.isSome_iff_exists.mp q
theorem jhs {CX:CXT}{P:Program}{w:World}{K:PySem.W.Frag}{mg:Str->Option Value}{base:Heap}{N ps:List Str}{qual:Str}{scope:Scope}{f:Addr}{cd:Value}{A:Around}{outer:List Env}{s s1:Shared}{H:Hp}{E:XK}{us:List Value}{vs:List V}
  (S:FnScope N ps scope) (hd:A.handled=none) (e0:Env0 P w K mg base A outer s H) (hl:vs.length=ps.length) (r:Vals vs us)
  (x:InCallC s s.heap.objs.size (bindL (envOfC qual scope s.heap.objs.size f cd).kindOf (ps.zip us) fun _=>none) (cellsFrom (s.heap.objs.size + 1) scope.names []) (bindC (envOfC qual scope s.heap.objs.size f cd).kindOf (ps.zip us) fun _=>none) s1) :
  Inv (jgu CX P w K mg base N qual scope f cd A outer s H E) [] (start N vs) H s1:=by
 have hpl:ps.length<=N.length:=by have:=congrArg List.length S.pre;rw[List.length_take]at this;omega
 obtain⟨h1,tk,rfl,hk⟩:=x.done;have noA:∀b:Addr,b ∉ (jgu CX P w K mg base N qual scope f cd A outer s H E).ex:=fun b z=>absurd (show b∈([]:List Addr)from z) (by simp)
 refine⟨⟨e0.mod,S.kind,rfl,rfl,jr1 _,fun y z c h1 h2=>?_,fun y hy=>?_,fun y c _ h=>?_,fun _=>hd,Around.frames_deeper e0.frames,.inr ⟨rfl,rfl⟩,fun b z=>absurd z (noA b),e0.bs,e0.bsz,fun b _ _=>noA b,fun b z=>absurd z (noA b),e0.funs,e0.frf⟩,
  rfl,e0.bare,Un.kept hk,⟨_,x.toInCall.ns,fun i y v h1 h2 h3=>?_⟩,fun y c h=>⟨_,x.cell y c h⟩,e0.hok.fresh (jr1 _),fun y c h=>?_,fun p hp=>absurd (show p∈([]:List (Addr×Obj))from hp) (by simp),e0.hok.kept hk,?_⟩
 ·exact name_of_addr x.apart (PySem.mem_of_lookup h1) (PySem.mem_of_lookup h2)
 ·have hy:scope.names.lookup y=some .cell\/scope.names.lookup y=some .free:=hy;rcases hy with hy | hy
  ·exact jfK hy
  ·exact absurd rfl (S.nofree _ (PySem.mem_of_lookup hy))
 ·exact Nat.le_of_lt (x.above y c (PySem.mem_of_lookup h))
 ·have hi:i < vs.length:=by
   unfold start at h2;by_cases hi:i < vs.length
   ·exact hi
   ·rw[jrE (by simpa using hi)]at h2
    rw[List.getElem?_replicate]at h2;split at h2 <;> cases h2
  have ha:vs[i]?=some v:=by
   unfold start at h2;rw[jrI (by simpa using hi),jrw]at h2
   cases e:vs[i]? with
   |none=>rw[e]at h2;cases h2
   |some a=>rw[e]at h2;cases h2;rfl
  obtain⟨u,hu,rv⟩:=r.get ha;have hp:ps[i]?=some y:=by
   rw[<-S.pre,List.getElem?_take_of_lt (by omega)];exact h1
  have ndP:ps.Nodup:=by rw[<-S.pre];exact S.nd.sublist (List.take_sublist _ _)
  refine⟨u,rv,?_⟩;rcases S.par y (jrD hp)with k | k
  ·exact .inl ⟨k,jd9 ndP hp hu k⟩
  ·obtain⟨c,e⟩:=jfK (n:=s.heap.objs.size + 1) k;refine .inr ⟨.inl k,c,e,?_⟩;have q:=x.cell y c e;rw[jea ndP hp hu (by show scope.names.lookup y≠_;rw[k];decide)]at q
   exact q
 ·exact e0.hok.fresh (Nat.le_of_lt (x.above y c (PySem.mem_of_lookup h)))
 ·unfold start;show _=N.length;rw[jrF,jrz,List.length_replicate];omega
theorem jpD {CX:CXT}{P:Program}{w:World}{K:PySem.W.Frag}{mg:Str->Option Value}{base:Heap}{k:Nat}{f:Addr}{name qual:Str}{params:Arguments}{body:List Stmt}{scope:Scope}{dV kV doc pm cdv ct oc:Value}{an od:Option Addr}
  {osl:Array (Option Value)}{N ps:List Str}{sp:Sp} (lk:K.lookup f=some ⟨oc,od,.func (PySem.W.fnOf name qual params body scope dV kV doc pm an cdv ct),osl⟩) (hcd:PySem.W.codeIn K cdv qual=true) (S:FnScope N ps scope)
  (len:∀vs H Q E,sp vs H Q E->vs.length=ps.length)
  (hbody:∀(A:Around) (outer:List Env) (s:Shared) (H:Hp) (vs:List V) (Q:VK) (E:XK),Room k (A.deeper (envOfC qual scope s.heap.objs.size f cdv))->sp vs H Q E ->
   ∃t,PSs (jgu CX P w K mg base N qual scope f cdv A outer s H E) body t/\t { nx:=fun _ H'=>Q .non H',rt:=Q } (start N vs) H) :
  FnOk P w K mg base CX (k + 1) f (PySem.W.fnOf name qual params body scope dV kV doc pm an cdv ct) ps sp:=by
 refine⟨len,fun A outer s H args us vs Q E hr e0 hb r hsp=>?_⟩;have hl:=len _ _ _ _ hsp;have KX:K.In s.heap:=e0.mod.kin.keeps fun b o e=>(e0.bs b o e).1;have lim:s.heap.NoLimit:=e0.mod.nolimit.keeps fun b o e=>(e0.bs b o e).1;have hkind:∀y∈ps.zip us,scope.names.lookup y.1=some .local\/(scope.names.lookup y.1=some .cell/\((cellsFrom (s.heap.objs.size + 1) scope.names []).lookup y.1).isSome=true):=fun ⟨n,v⟩ hy=>by
  rcases S.par n (List.of_mem_zip hy).1 with q | q
  ·exact .inl q
  ·exact .inr ⟨q,PySem.W.cellsFrom_some _ _ _ (.inl q)⟩
 refine codeAny_call_function hr.depth (KX _ _ lk) rfl S.co S.gen rfl (PySem.W.codeRec_of KX hcd) (hb _ _ _ _ ?_);refine wpAny_newFunctionEnv_cells S.kind hkind fun env he s1 x=>?_;subst he;refine⟨lim.keeps x.toInCall.keep,codeAny_func ?_⟩;obtain⟨t,ht,hq⟩:=hbody A outer s H vs Q E (hr.deeper _) hsp;have I:Inv (jgu CX P w K mg base N qual scope f cdv A outer s H E) [] (start N vs) H s1:=jhs S hr.hd e0 hl r x;refine jrW (ht [] s1 (start N vs) H _ I hq) (fun fl s' hs=>?_) fun e s' hs=>hs;have fin:∀{σ':St}{H':Hp}{v:V}{u:Value},Inv (jgu CX P w K mg base N qual scope f cdv A outer s H E) [] σ' H' s'->RelV v u->Q v H'->CE outer P w H s Q u s':=
  fun {σ' H' v u} J rv q=>⟨v,H',J.os,J.bare,J.base,J.hok,rv,q⟩
 cases fl with
 |ret u=>
  obtain⟨v,σ',H',J,rv,q⟩:=hs;exact fin J rv q
 |next=>
  obtain⟨σ',H',J,q⟩:=hs;exact fin (v:=V.non) (u:=Value.none) J rfl q
 |brk=>
  obtain⟨_,_,_,q⟩:=hs;exact False.elim q
 |cont=>
  obtain⟨_,_,_,q⟩:=hs;exact False.elim q
end L2
namespace L2
open PySem PySem.Spec PyProof.Rows
section
variable {X:Cx}{x:Str}{p pos:Pos}{e:Expr}{es:List Expr}{t:TA}{id T:String}{r:List V->Hp->VK->Prop}
noncomputable def tCB (r:List V->Hp->VK->Prop)(t:TA):TE:=fun σ H Q=>t σ H fun vs H1=>r vs H1 Q
theorem jcy (hc:CallR X (.builtin id) r)(hg:Gl X x)(hm:X.mg x=none)(hv:bootBuiltins x=some (.builtin id))(ha:PA X (e::es) t)(hn:x≠"__name__":=by decide)(hdb:(x == ("__debug__":Str))=false:=by decide)
  (he:starEach (e::es) X.env=(false,eval e X.env)::starEach es X.env:=by rfl) (hpl:(backTo pos (starEach es X.env)).any (·.1)=false:=by rfl):PE X (.Call (.Name x p) (e::es) [] pos) (tCB r t):=by
 intro pins s σ H Q I h;refine wpAny_Call_Name_kw (jfI I hg hm hv ?_ hn hdb);exact PyProof.Rows.callWith_builtin1 (thn (ha pos pins s σ H _ I h) fun us s1 ⟨vs,H1,I1,r1,q1⟩=>hc pins s1 σ H1 vs us Q I1 r1 q1) he hpl
theorem jbA (hc:CallR X (.type T) r)(hg:Gl X x)(hm:X.mg x=none)(hv:bootBuiltins x=some (.type T))(ha:PA X (e::es) t)(hn:x≠"__name__":=by decide)(hdb:(x == ("__debug__":Str))=false:=by decide)
  (he:starEach (e::es) X.env=(false,eval e X.env)::starEach es X.env:=by rfl) (hpl:(backTo pos (starEach es X.env)).any (·.1)=false:=by rfl):PE X (.Call (.Name x p) (e::es) [] pos) (tCB r t):=by
 intro pins s σ H Q I h;refine wpAny_Call_Name_kw (jfI I hg hm hv ?_ hn hdb);exact PyProof.Rows.callWith_type1 (thn (ha pos pins s σ H _ I h) fun us s1 ⟨vs,H1,I1,r1,q1⟩=>hc pins s1 σ H1 vs us Q I1 r1 q1) he hpl
end
end L2
namespace HT
open PySem PyProof.Rows
noncomputable def lexLt:List Int->List Int->Bool
 |[],[]=>false
 |[],_::_=>true
 |_::_,[]=>false
 |x::xs,y::ys=>if x=y then lexLt xs ys else decide (x < y)
theorem jdp (x y:Int)(xs ys:List Int):lexLt (x::xs) (y::ys)=if x=y then lexLt xs ys else decide (x < y):=rfl
theorem jdD:lexLt [] []=false:=rfl
theorem jdb (y:Int)(ys:List Int):lexLt [] (y::ys)=true:=rfl
theorem jdc (x:Int)(xs:List Int):lexLt (x::xs) []=false:=rfl
theorem jjw (A:Around)(s:Shared)(a:Int)(t:Tok)(c:Int)(u:Tok):∃e,SeqAt.EqAt A s (.int a t) (.int c u) e/\(e=true↔a=c):=
 ⟨(a == c),SeqAt.EqAt.int_int a t c u,by simp⟩
theorem jjx (A:Around)(s:Shared)(a:Int)(t:Tok)(c:Int)(u:Tok)(prog:Program)(w:World)(E:Value->Shared->Prop)(Q:Value->Shared->Prop)(h:Q (.bool (decide (a < c))) s) :
  wpAny (model prog w) A (richCompare .Lt (.int a t) (.int c u)) Q E s:=
 (PyProof.Rows.lt_int h:wpAny (model prog w) A (compareOp .Lt (.int a t) (.int c u)) Q E s)
section
open PySem.SeqAt
open PySem.AutoSeq1 (wpAny_loadPart')
open PySem.MeetsSeq PySem.MeetsSeq2 PySem.MeetsSeq3
theorem jdE (l b:Addr)(items items2:Array Value)(n n2:Nat)(dd dd2:Option Addr)(sl sl2:Array (Option Value))(ns ms:List Int)(hi:IntsAre items.toList ns)(hj:IntsAre items2.toList ms) :
  Meets (Builtin.«tuple.__lt__» ⟨[.ref l,.ref b],[]⟩)
   (fun _ R s=>s.heap.get? l=some { cls:=.type "tuple",dict:=dd,data:=.seq items n,slots:=sl }/\s.heap.get? b=some { cls:=.type "tuple",dict:=dd2,data:=.seq items2 n2,slots:=sl2 } /\
    R (.ok (.ret (.bool (lexLt ns ms)))) s):=
 .of_wp fun prog w A R s h=>by
  obtain⟨hp,g,d,tk,os⟩:=s;obtain⟨hl,hb,h⟩:=h;have f2:=AutoSeq1.sub_tuple_tuple;have z1:items.size=ns.length:=by rw[<-hi.length];simp
  have z2:items2.size=ms.length:=by rw[<-hj.length];simp
  wp_walk using wpAny_loadPart' hl,wpAny_loadPart' hb,wpAny_forIn_list _ (fun rest b s'=>b.1=none/\s'=⟨hp,g,d,tk,os⟩/\∃(vs ws:List Value) (ns' ms':List Int),rest=vs.zip ws /\
   IntsAre vs ns'/\IntsAre ws ms'/\ns'.length + items2.size=ms'.length + items.size/\R (.ok (.ret (.bool (lexLt ns' ms')))) ⟨hp,g,d,tk,os⟩) _
  case turn=>
   rintro⟨y,x⟩ rest b s' ⟨hb',rfl,vs,ws,ns',ms',hz,hvi,hwi,hlen,hR⟩;cases hvi with
   |nil=>rw[List.zip_nil_left]at hz;cases hz
   |cons a t hvi'=>
    cases hwi with
    |nil=>rw[List.zip_nil_right]at hz;cases hz
    |cons c u hwi'=>
     rw[List.zip_cons_cons]at hz;injection hz with hyx hrest
     injection hyx with hy hx
     subst hy hx;rw[jdp]at hR;simp only[jrA]at hlen;obtain⟨e,he,hiff⟩:=jjw A.in1 ⟨hp,g,d,tk,os⟩ a t c u;refine jrR (he prog w _ _ ?_);cases e with
     |true=>
      rw[if_pos (hiff.mp rfl)]at hR;wp_walk;exact⟨rfl,rfl,_,_,_,_,hrest,hvi',hwi',by omega,hR⟩
     |false=>
      rw[if_neg (fun q=>absurd (hiff.mpr q) jr8)]at hR;have hri:=jjx A.in1 ⟨hp,g,d,tk,os⟩ a t c u prog w;wp_walk using hri;exact⟨_,rfl,by simpa using hR⟩
  case fin=>
   rintro⟨b1,b2⟩ s' ⟨hb',rfl,vs,ws,ns',ms',hz,hvi,hwi,hlen,hR⟩;simp only at hb';subst hb';have hv:lexLt ns' ms'=decide (items.size < items2.size):=by
    cases hvi with
    |nil=>
     cases hwi with
     |nil=>
      simp only[jrM]at hlen;rw[jdD];exact(decide_eq_false (by omega)).symm
     |cons c u hw=>
      simp only[jrM,jrA]at hlen;rw[jdb];exact(decide_eq_true (by omega)).symm
    |cons a t hv=>
     cases hwi with
     |nil=>
      simp only[jrM,jrA]at hlen;rw[jdc];exact(decide_eq_false (by omega)).symm
     |cons c u hw=>
      rw[List.zip_cons_cons]at hz;cases hz
   rw[hv]at hR;wp_walk;exact⟨_,rfl,by simpa[Builtin.Tuple.tupleCompareSizes] using hR⟩
  case h=>
   exact⟨rfl,rfl,items.toList,items2.toList,ns,ms,rfl,hi,hj,by omega,h⟩
end
section
variable {prog:Program}{w:World}{A:Around}{E:Value->Shared->Prop}{s:Shared}
theorem jgv {l b:Addr}{items items2:Array Value}{ns ms:List Int}{Q:Value->Shared->Prop}(hl:IsTup s.heap l items)(hb:IsTup s.heap b items2)(hi:IntsAre items.toList ns)(hj:IntsAre items2.toList ms)
  (hu:A.units < cLine) (h:Q (.bool (lexLt ns ms)) s):wpAny (model prog w) A (compareOp .Lt (.ref l) (.ref b)) Q E s:=by
 obtain⟨⟨cls,dd,data,sl⟩,ho,hc,n,hd⟩:=id hl;obtain⟨⟨cls2,dd2,data2,sl2⟩,ho2,hc2,n2,hd2⟩:=id hb;simp only at hc hd hc2 hd2;subst hc hd hc2 hd2;exact richCompare_meets_room (op:=.Lt) ⟨_,ho,rfl⟩ ⟨_,ho2,rfl⟩ PySem.F.slot_tuple_lt PySem.F.entry_tuple_lt (PySem.F.args_tuple_lt_2 _ _) (jdE l b items items2 n n2 dd dd2 sl sl2 ns ms hi hj)
  ⟨ho,ho2,show Value.bool (lexLt ns ms)≠Value.notImplemented/\Q (.bool (lexLt ns ms)) s from⟨(fun x=>nomatch x),h⟩⟩ hu
theorem jlL {t b:Addr}{vs ws:List Value}{Q:Value->Shared->Prop}(ht:IsTup s.heap t vs.toArray)(hb:IsTup s.heap b ws.toArray)(hv:vs≠[])
  (h1:ws=[]->Q (.ref t) s) (h2:ws≠[]->Q (.ref s.heap.objs.size) { s with heap:=s.heap.push { cls:=.type "tuple",data:=.seq (vs++ws).toArray } })
  (hsz:vs.length + ws.length<=sizeLine):wpAny (model prog w) A (binaryOp .Add (.ref t) (.ref b)) Q E s:=by
 obtain⟨⟨cls,dd,data,sl⟩,ho,hc,n,hd⟩:=id ht;obtain⟨⟨cls2,dd2,data2,sl2⟩,ho2,hc2,n2,hd2⟩:=id hb;simp only at hc hd hc2 hd2;subst hc hd hc2 hd2;have e:vs.toArray++ws.toArray=(vs++ws).toArray:=by simp
 by_cases hw:ws=[]
 ·exact concat_meets ⟨_,ho,rfl⟩ ⟨_,ho2,rfl⟩ noFill_tuple_add seq_tuple_add PySem.F.slot_tuple_add PySem.F.entry_tuple_add (PySem.F.args_tuple_add_2 _ _)
   (tuple_addW1 t b vs.toArray ws.toArray n n2 dd dd2 sl sl2 (by simpa using hv) (by simp[hw])) ⟨ho,ho2,h1 hw⟩
 ·refine concat_meets ⟨_,ho,rfl⟩ ⟨_,ho2,rfl⟩ noFill_tuple_add seq_tuple_add PySem.F.slot_tuple_add PySem.F.entry_tuple_add (PySem.F.args_tuple_add_2 _ _)
   (tuple_addW2 t b vs.toArray ws.toArray n n2 dd dd2 sl sl2 (by simpa using hv) (by simpa using hw) (by rw[jru,jru];exact hsz)) ⟨ho,ho2,?_⟩
  rw[e];exact h2 hw
noncomputable def sIx (n d:Nat):Option Int->Nat
 |none=>d
 |some v=>if v < 0 then (v + (n:Int)).toNat else min v.toNat n
theorem jn3 (n d:Nat)(hd:d<=n)(o:Option Int):sIx n d o<=n:=by
 cases o with
 |none=>exact hd
 |some v=>
  show (if v < 0 then (v + (n:Int)).toNat else min v.toNat n)<=n;by_cases hv:v < 0
  ·rw[if_pos hv];omega
  ·rw[if_neg hv];exact Nat.min_le_right _ _
theorem jht (v:Int)(n d:Nat):(if v < 0 then max (v + (n:Int)) 0 else min v (n:Int))=((sIx n d (some v):Nat):Int):=by
 show (if v < 0 then max (v + (n:Int)) 0 else min v (n:Int))=(((if v < 0 then (v + (n:Int)).toNat else min v.toNat n):Nat):Int);by_cases hv:v < 0
 ·simp only[if_pos hv];omega
 ·simp only[if_neg hv];omega
theorem jgw (lo hi:Option Int)(n:Nat):Builtin.Slice.sliceAdjust lo hi 1 (n:Int)=(((sIx n 0 lo:Nat):Int),((sIx n n hi:Nat):Int)):=by
 have h1:¬ ((1:Int) < 0):=by omega
 unfold Builtin.Slice.sliceAdjust;simp only[h1,if_false];refine Prod.ext ?_ ?_
 ·cases lo with
  |none=>rfl
  |some v=>exact jht v n 0
 ·cases hi with
  |none=>rfl
  |some v=>exact jht v n n
theorem jgx (i j:Nat):Builtin.Slice.slicePlaces (i:Int) (j:Int) 1=j - i:=by
 unfold Builtin.Slice.slicePlaces;have h1:(1:Int) > 0:=by omega
 simp only[h1,if_true,Int.ediv_one];split <;> omega
theorem jdq {v:Value}{o:Option Int}{Q:Option Int->Shared->Prop}(p:IsPart v o)(h:Q o s):wpAny (model prog w) A (Builtin.Slice.slicePartIndex v) Q E s:=by
 cases p with
 |none=>exact slicePart_none h
 |int i t=>exact slicePart_int h
theorem jbv {sl:Addr}{vl vu:Value}{lo hi:Option Int}{n:Nat}{Q:Int×Int×Nat->Shared->Prop}(hs:s.heap.IsSliceOf sl vl vu .none)(pl:IsPart vl lo)(pu:IsPart vu hi)
  (h:Q (((sIx n 0 lo:Nat):Int),1,sIx n n hi - sIx n 0 lo) s):wpAny (model prog w) A (Builtin.Slice.sliceApplied (.ref sl) (pure (n:Int))) Q E s:=by
 obtain⟨os,hos,hcs,hds⟩:=id hs;unfold Builtin.Slice.sliceApplied Builtin.Slice.sliceFields;refine jrR (jrR (jrV hos hds (x:=vl) rfl (jrR (jrV hos hds (x:=vu) rfl (jrR (jrV hos hds (x:=.none) rfl (jrS ?_)))))));refine jrR (slicePart_none ?_);show wpAny _ _ (if ((1:Int) == 0)=true then _ else _) _ _ s;rw[if_neg (by decide)]
 refine jrR (jdq pl (jrR (jdq pu (jrR (jrS ?_)))));show wpAny _ _ (match Builtin.Slice.sliceAdjust lo hi 1 (n:Int)with | (lo,hi)=>pure (lo,(1:Int),Builtin.Slice.slicePlaces lo hi 1)) _ _ s
 rw[jgw lo hi n];show wpAny _ _ (pure (((sIx n 0 lo:Nat):Int),(1:Int),Builtin.Slice.slicePlaces ((sIx n 0 lo:Nat):Int) ((sIx n n hi:Nat):Int) 1)) _ _ s;rw[jgx];exact jrS h
theorem jjy (xs:Array Value)(i k:Nat):((List.range k).filterMap fun (m:Nat)=>xs[((i:Int) + (m:Int) * 1).toNat]?).toArray=((xs.toList.drop i).take k).toArray:=by
 have e:(fun (m:Nat)=>xs[((i:Int) + (m:Int) * 1).toNat]?)=fun m=>xs[i + m]?:=by
  funext m
  have:((i:Int) + (m:Int) * 1).toNat=i + m:=by omega
  rw[this]
 rw[e];have:=pick_run xs i k;rw[List.filterMap_map]at this;have e2:((fun x=>xs[x]?) ∘ fun x=>i + x)=fun m=>xs[i + m]?:=rfl;rw[e2]at this;rw[this]
theorem jce {t sl:Addr}{items:Array Value}{vl vu:Value}{lo hi:Option Int}{Q:Value->Shared->Prop}(ht:IsTup s.heap t items)(hs:s.heap.IsSliceOf sl vl vu .none)(pl:IsPart vl lo)(pu:IsPart vu hi)
  (hw:¬ (sIx items.size 0 lo=0/\sIx items.size items.size hi=items.size))
  (h:Q (.ref s.heap.objs.size) { s with heap:=s.heap.push { cls:=.type "tuple",data:=.seq ((items.toList.drop (sIx items.size 0 lo)).take (sIx items.size items.size hi - sIx items.size 0 lo)).toArray } })
  (hsz:items.size<=sizeLine):wpAny (model prog w) A (getItem (.ref t) (.ref sl)) Q E s:=by
 have htake:sizeOk (.seq ((items.toList.drop (sIx items.size 0 lo)).take (sIx items.size items.size hi - sIx items.size 0 lo)).toArray):=by
  show ((items.toList.drop (sIx items.size 0 lo)).take (sIx items.size items.size hi - sIx items.size 0 lo)).toArray.size<=sizeLine;rw[jru,List.length_take,List.length_drop,Array.length_toList];exact jr4 (Nat.min_le_right _ _) (jr4 (Nat.sub_le _ _) hsz)
 have hj:sIx items.size items.size hi<=items.size:=jn3 _ _ (jr1 _) hi;obtain⟨os,hos,hcs,hds⟩:=id hs;have hTs:s.TypeIs (.ref sl) "slice":=⟨os,hos,hcs⟩;unfold getItem;try with_reducible refine jrU ?_
 first | refine jrR (jrS ?_) | skip
 refine jrR (wpAny_sequenceKey ht.typeIs (by decide) ?_)
 refine jrR (wpAny_callSpecial?_slot (name:=Str.ofString "__getitem__") ht.typeIs PyProof.Rows.slot_tuple_getitem
  (wpAny_call_entry PyProof.Rows.slot_tuple_getitem ht.typeIs entry_tuple_getitem ?_ (args_tuple_getitem _ _)))
 show wpAny _ _ (Builtin.Tuple.tupleItemsOf (.ref t) >>= _) _ _ s;refine jrR (tupleItemsOf_ ht ?_);refine jrR (wpAny_typeOf hTs ?_);rw[if_pos (by decide)]
 refine jrR (jbv hs pl pu ?_);have hno:¬ ((((sIx items.size 0 lo:Nat):Int) == 0 && (1:Int) == 1 && (sIx items.size items.size hi - sIx items.size 0 lo) == items.size)=true):=by
  intro q;rw[jr6,jr6]at q;have q1:((sIx items.size 0 lo:Nat):Int)=0:=eq_of_beq q.1.1;have q2:sIx items.size items.size hi - sIx items.size 0 lo=items.size:=eq_of_beq q.2;exact hw ⟨by omega,by omega⟩
 show wpAny _ _ (if (((sIx items.size 0 lo:Nat):Int) == 0 && (1:Int) == 1 && (sIx items.size items.size hi - sIx items.size 0 lo) == items.size)=true then _ else _) _ _ s;rw[if_neg hno,jjy];first
  |exact jrR (m:=Builtin.Tuple.tupleExact _) (jrT (jrS ⟨_,rfl,jrS h⟩) htake)
  |exact jrR (m:=Builtin.Tuple.tupleExact _) (jrT (jrR (jrS (jrS ⟨_,rfl,jrS h⟩))) htake)
  |exact jrR (jrR (m:=Builtin.Tuple.tupleExact _) (jrT (jrS (jrS ⟨_,rfl,jrS h⟩)) htake))
  |exact jrR (jrR (m:=Builtin.Tuple.tupleExact _) (jrT (jrS ⟨_,rfl,jrS h⟩) htake))
end
end HT
namespace L2
open PySem PySem.Spec PyProof.Rows
noncomputable abbrev TO:=St->Hp->(Option Int->Hp->Prop)->Prop
noncomputable def PO (X:Cx)(e:Option Expr)(t:TO):Prop:=
 ∀(pins:List (Addr×Obj)) (s:Shared) (σ:St) (H:Hp) (Q:Option Int->Hp->Prop),Inv X pins σ H s->t σ H Q ->
  wpAny (model X.prog X.w) X.A (evalPart e X.env) (fun u s'=>∃o H',Inv X pins σ H' s'/\IsPart u o/\Q o H') X.xe s
noncomputable def jlM:TO:=fun _ H Q=>Q none H
noncomputable def jpE (t:TE):TO:=fun σ H Q=>t σ H fun x H1=>∃i,x=.int i/\Q (some i) H1
theorem jdr {ns:List Int}:∀{us:List Value},Vals (ns.map V.int) us->IntsAre us ns:=by
 induction ns with
 |nil=>intro us r;rw[List.map_nil]at r;cases r;exact .nil
 |cons n ns ih=>
  intro us r;rw[jrx]at r;cases r with
  |cons r1 r2=>
   obtain⟨t,e⟩:=r1;subst e;exact .cons n t (ih r2)
section
variable {X:Cx}{e:Expr}{te:TE}{lo hi:Option Expr}{tl th:TO}{pos p2:Pos}
theorem jlN:PO X none jlM:=by
 intro pins s σ H Q I h;rw[evalPart_none];exact jrS ⟨none,H,I,.none,h⟩
theorem jlO (h:PE X e te):PO X (some e) (jpE te):=by
 intro pins s σ H Q I hw;rw[evalPart_some];refine thn (h pins s σ H _ I hw) fun u s1 hzz=>?_;obtain⟨x,H1,I1,r1,q1⟩:=hzz;obtain⟨i,rfl,q⟩:=q1;obtain⟨t,rfl⟩:=r1;exact⟨some i,H1,I1,.int i t,q⟩
noncomputable def SlR (X:Cx)(r:V->Option Int->Option Int->Hp->VK->Prop):Prop:=
 ∀(pins:List (Addr×Obj)) (s:Shared) (σ:St) (H:Hp) (x:V) (v vl vu:Value) (lo hi:Option Int) (sl:Addr) (Q:VK),Inv X pins σ H s->RelV x v->s.heap.IsSliceOf sl vl vu .none->IsPart vl lo->IsPart vu hi->r x lo hi H Q ->
  ∃T id,typeLookup (.type T) "__getitem__"=pure (some (.builtin id))/\s.TypeIs v T/\wpAny (model X.prog X.w) X.A (getItem v (.ref sl)) (EP X pins σ Q) X.xe s
theorem SlR.or {r r':V->Option Int->Option Int->Hp->VK->Prop}(h:SlR X r)(h':SlR X r'):SlR X (fun x lo hi H Q=>r x lo hi H Q\/r' x lo hi H Q):=by
 intro pins s σ H x v vl vu lo hi sl Q I rx hs pl pu q;rcases q with q | q
 ·exact h pins s σ H x v vl vu lo hi sl Q I rx hs pl pu q
 ·exact h' pins s σ H x v vl vu lo hi sl Q I rx hs pl pu q
noncomputable def tSl (r:V->Option Int->Option Int->Hp->VK->Prop)(te:TE)(tl th:TO):TE:=fun σ H Q=>te σ H fun x H1=>tl σ H1 fun l H2=>th σ H2 fun u H3=>r x l u H3 Q
theorem jjz {r:V->Option Int->Option Int->Hp->VK->Prop}(hr:SlR X r)(he:PE X e te)(hl:PO X lo tl)(hu:PO X hi th):PE X (.Subscript e (.Slice lo hi none p2) pos) (tSl r te tl th):=by
 intro pins s σ H Q I h;refine Subscript_ (thn (he pins s σ H _ I h) fun v s1 hzz=>?_);obtain⟨x,H1,I1,r1,q1⟩:=hzz;refine wpAny_Slice (thn (hl pins s1 σ H1 _ I1 q1) fun vl s2 ⟨l,H2,I2,pl,q2⟩=>thn (hu pins s2 σ H2 _ I2 q2) fun vu s3 hzz=>?_);obtain⟨u,H3,I3,pu,q3⟩:=hzz;rw[evalPart_none];refine jrS ?_;have I4:Inv X pins σ H3 { s3 with heap:=s3.heap.push { cls:=.type "slice",data:=.fields #[vl,vu,.none] } }:=I3.kept (t':=s3.toks) fun b ob q=>jrX _ q
 obtain⟨T,id,hT,ht,hg⟩:=hr pins { s3 with heap:=s3.heap.push { cls:=.type "slice",data:=.fields #[vl,vu,.none] } } σ H3 x v vl vu l u s3.heap.objs.size Q I4 r1 (Heap.IsSliceOf.new ..) pl pu q3
 show wpAny (model X.prog X.w) X.A (subscriptTail e (.Slice lo hi none p2) v (.ref s3.heap.objs.size)) (EP X pins σ Q) X.xe { s3 with heap:=s3.heap.push { cls:=.type "slice",data:=.fields #[vl,vu,.none] } }
 exact tail_any (ops:=[.ref s3.heap.objs.size,v]) ht hT hg (by with_unfolding_all rfl)
noncomputable def jk3 (xs:List V)(lo hi:Option Int):List V:=(xs.drop (HT.sIx xs.length 0 lo)).take (HT.sIx xs.length xs.length hi - HT.sIx xs.length 0 lo)
theorem jcH (xs:List V)(lo hi:Option Int):(jk3 xs lo hi).length<=xs.length:=by
 unfold jk3;rw[List.length_take,List.length_drop];exact jr4 (Nat.min_le_right _ _) (Nat.sub_le _ _)
noncomputable def jq6 (K:PySem.W.Frag):V->Option Int->Option Int->Hp->VK->Prop:=fun x lo hi H Q=>∃a xs,x=.ref a/\SqT K H a xs /\
 ¬ (HT.sIx xs.length 0 lo=0/\HT.sIx xs.length xs.length hi=xs.length)/\∀p,H p=none->Q (.ref p) (upd H p (.tup (jk3 xs lo hi)))
theorem sl_tup:SlR X (jq6 X.K):=by
 intro pins s σ H x v vl vu lo hi sl Q I rx hs pl pu h;obtain⟨a,xs,rfl,hx,hw,q⟩:=h;cases rx;obtain⟨its,r,ht,hz⟩:=I.tuple hx;have hlen:its.toArray.size=xs.length:=by rw[jru];exact r.length.symm
 refine⟨"tuple",_,PyProof.Rows.slot_tuple_getitem.lookup,ht.typeIs,?_⟩;refine HT.jce ht hs pl pu (by rw[hlen];exact hw) ?_ (by rw[hlen];exact hz)
 rw[hlen];refine⟨.ref s.heap.objs.size,_,I.laid (t':=s.toks) (o:=.tup (jk3 xs lo hi)) (fun b ob q=>jrX _ q) (jr1 _) ?_,rfl,q _ (I.hok.fresh (jr1 _))⟩;exact⟨jr4 (jcH xs lo hi) hz,_,(r.drop (HT.sIx xs.length 0 lo)).take (HT.sIx xs.length xs.length hi - HT.sIx xs.length 0 lo),IsTup.new _ _⟩
noncomputable def jq7 (K:PySem.W.Frag):R2:=fun x y H Q=>∃a b ns ms,x=.ref a/\y=.ref b/\SqT K H a (ns.map V.int)/\SqT K H b (ms.map V.int)/\Q (.bl (HT.lexLt ns ms)) H
theorem jn4 (hu:X.A.units < cLine):OpR X (compareOp .Lt) (jq7 X.K):=by
 intro pins s σ H x y v u Q I rx ry h;obtain⟨a,b,ns,ms,rfl,rfl,ha,hb,q⟩:=h;cases rx;cases ry;obtain⟨its,r1,p1,_⟩:=I.tuple ha;obtain⟨its2,r2,p2,_⟩:=I.tuple hb;have i1:IntsAre its.toArray.toList ns:=jdr r1;have i2:IntsAre its2.toArray.toList ms:=jdr r2;exact HT.jgv p1 p2 i1 i2 hu ⟨.bl (HT.lexLt ns ms),H,I,rfl,q⟩
noncomputable def jpF (K:PySem.W.Frag):R2:=fun x y H Q=>∃a b xs ys,x=.ref a/\y=.ref b/\SqT K H a xs/\SqT K H b ys/\xs≠[]/\xs.length + ys.length<=sizeLine /\
 (ys=[]->Q (.ref a) H)/\(ys≠[]->∀p,H p=none->Q (.ref p) (upd H p (.tup (xs++ys))))
theorem Vals.nil_iff {xs:List V}{us:List Value}(r:Vals xs us):us=[]↔xs=[]:=by
 cases r with
 |nil=>simp
 |cons _ _=>simp
theorem jlP:OpR X (binaryOp .Add) (jpF X.K):=by
 intro pins s σ H x y v u Q I rx ry h;obtain⟨a,b,xs,ys,rfl,rfl,ha,hb,hx,hz,q1,q2⟩:=h;cases rx;cases ry;obtain⟨its,r1,p1,_⟩:=I.tuple ha;obtain⟨its2,r2,p2,_⟩:=I.tuple hb;refine HT.jlL p1 p2 (fun z=>hx (r1.nil_iff.mp z)) (fun z=>⟨.ref a,H,I,rfl,q1 (r2.nil_iff.mp z)⟩) (fun z=>?_) (by rw[<-r1.length,<-r2.length];exact hz)
 refine⟨.ref s.heap.objs.size,_,I.laid (t':=s.toks) (o:=.tup (xs++ys)) (fun b ob q=>jrX _ q) (jr1 _) ?_,rfl,q2 (fun w=>z (r2.nil_iff.mpr w)) _ (I.hok.fresh (jr1 _))⟩;exact⟨by rw[jrF];exact hz,_,r1.append r2,IsTup.new _ _⟩
end
end L2
namespace L2
open PySem PySem.Spec PyProof.Rows
noncomputable def ixN (n:Nat)(i:Int):Option Nat:=if 0<=i then (if i < n then some i.toNat else none)else if -(n:Int)<=i then some (i + n).toNat else none
noncomputable def atI {α:Type}(xs:List α)(i:Int):Option α:=(ixN xs.length i).bind fun j=>xs[j]?
theorem jhu {n:Nat}{i:Int}{j:Nat}(h:ixN n i=some j):seqIndex? i n=some j/\j < n/\-(n:Int)<=i/\i < n:=by
 unfold ixN at h;by_cases h0:0<=i
 ·rw[if_pos h0]at h;by_cases h1:i < n
  ·rw[if_pos h1]at h;have e:i.toNat=j:=Option.some.inj h;exact⟨by rw[seqIndex_of h0 h1,e],by omega,by omega,h1⟩
  ·rw[if_neg h1]at h;cases h
 ·rw[if_neg h0]at h;by_cases h1:-(n:Int)<=i
  ·rw[if_pos h1]at h;have e:(i + n).toNat=j:=Option.some.inj h;exact⟨by rw[seqIndex_neg (by omega) h1,e],by omega,h1,by omega⟩
  ·rw[if_neg h1]at h;cases h
theorem jeV {α:Type}{xs:List α}{i:Int}{v:α}(h:atI xs i=some v):∃j,seqIndex? i xs.length=some j/\xs[j]?=some v/\j < xs.length/\-(xs.length:Int)<=i/\i < xs.length:=by
 unfold atI at h;cases e:ixN xs.length i with
 |none=>rw[e]at h;cases h
 |some j=>
  rw[e]at h;obtain⟨h1,h2,h3,h4⟩:=jhu e;exact⟨j,h1,h,h2,h3,h4⟩
noncomputable def jhv (b:Expr):Prop:=∀o i,subscripted b false o i=operate [o,i] (getItem o i)
noncomputable def IxR (X:Cx)(r:R2):Prop:=
 ∀(value slice:Expr) (pins:List (Addr×Obj)) (s:Shared) (σ:St) (H:Hp) (x y:V) (v u:Value) (Q:VK),Inv X pins σ H s->RelV x v->RelV y u->r x y H Q ->
  subscripted slice false v u=operate [v,u] (getItem v u)->wpAny (model X.prog X.w) X.A (subscriptTail value slice v u) (EP X pins σ Q) X.xe s
noncomputable def MtR (X:Cx)(id:String)(r:V->List V->Hp->VK->Prop):Prop:=
 ∀(pins:List (Addr×Obj)) (s:Shared) (σ:St) (H:Hp) (x:V) (xs:List V) (v:Value) (us:List Value) (Q:VK),Inv X pins σ H s->RelV x v->Vals xs us->r x xs H Q ->
  wpAny (model X.prog X.w) X.A (call (.builtin id) (v::us)) (EP X pins σ Q) X.xe s
section
variable {X:Cx}{a b:Expr}{ta tb:TE}{pos:Pos}
theorem IxR.or {r r':R2}(h:IxR X r)(h':IxR X r'):IxR X (fun x y H Q=>r x y H Q\/r' x y H Q):=by
 intro value slice pins s σ H x y v u Q I rx ry q hs;rcases q with q | q
 ·exact h value slice pins s σ H x y v u Q I rx ry q hs
 ·exact h' value slice pins s σ H x y v u Q I rx ry q hs
theorem jpG {r:R2}(hr:IxR X r)(ha:PE X a ta)(hb:PE X b tb)(hs:jhv b):PE X (.Subscript a b pos) (tOp r ta tb):=by
 intro pins s σ H Q I h;exact Subscript_ (jpv ha hb I h fun v u s2 x y H2 I2 rx ry q=>hr a b pins s2 σ H2 x y v u Q I2 rx ry q (hs _ _))
noncomputable def jqD (K:PySem.W.Frag):R2:=fun x y H Q=>∃p xs i v,x=.ref p/\y=.int i/\SqL K H p xs/\atI xs i=some v/\Q v H
noncomputable def jqE (K:PySem.W.Frag):R2:=fun x y H Q=>∃p xs i v,x=.ref p/\y=.int i/\SqT K H p xs/\atI xs i=some v/\Q v H
noncomputable def jqF:R2:=fun x y H Q=>∃z i c,x=.str z/\y=.int i/\z.length<=sizeLine/\atI z.cps.toList i=some c/\Q (.str ⟨#[c]⟩) H
theorem ix_list:IxR X (jqD X.K):=by
 intro value slice pins s σ H x y v u Q I rx ry h hs;obtain⟨p,xs,i,z,rfl,rfl,hq,he,q⟩:=h;cases rx;obtain⟨t,rfl⟩:=ry;obtain⟨its,r,pl,hz⟩:=I.list hq;obtain⟨j,h1,h2,h3,h4,h5⟩:=jeV he;obtain⟨w,ew,rw'⟩:=r.get h2;have hl:=r.length;have hn:=jcG;have fin:EP X pins σ Q w s:=⟨z,H,I,rw',q⟩;by_cases h0:0<=i
 ·have hj:i.toNat=j:=by
   rw[seqIndex_of h0 h5]at h1;exact Option.some.inj h1
  exact item_listR pl.isList h0 (by omega) (by rw[hj];simpa using ew) fin hs
 ·have hj:(i + (its.toArray.size:Int)).toNat=j:=by
   rw[seqIndex_neg (by omega) h4]at h1
   rw[jru,<-hl];exact Option.some.inj h1
  exact subscriptTail_builtinR (x:=w) pl.isList.typeIs slot_list_getitem.lookup
   (wpAny_getItem_list_neg (Q:=fun r s'=>r=w/\EP X pins σ Q r s') pl.isList (by omega) (by rw[jru] <;> omega) (by omega) (by rw[hj];simpa using ew) ⟨rfl,fin⟩) hs
theorem ix_tup:IxR X (jqE X.K):=by
 intro value slice pins s σ H x y v u Q I rx ry h hs;obtain⟨p,xs,i,z,rfl,rfl,hq,he,q⟩:=h;cases rx;obtain⟨t,rfl⟩:=ry;obtain⟨its,r,pl,hz⟩:=I.tuple hq;obtain⟨j,h1,h2,h3,h4,h5⟩:=jeV he;obtain⟨w,ew,rw'⟩:=r.get h2;have hl:=r.length;have hn:=jcG;have fin:EP X pins σ Q w s:=⟨z,H,I,rw',q⟩;exact subscriptTail_builtinR (x:=w) pl.typeIs slot_tuple_getitem.lookup
  (getItem_tuple (j:=j) (Q:=fun r s'=>r=w/\EP X pins σ Q r s') pl (by omega) (by omega) (by rw[jru,<-hl];exact h1) (by simpa using ew) ⟨rfl,fin⟩) hs
theorem jn5:IxR X jqF:=by
 intro value slice pins s σ H x y v u Q I rx ry h hs;obtain⟨z,i,c,rfl,rfl,hz,he,q⟩:=h;obtain⟨t,rfl⟩:=rx;obtain⟨t',rfl⟩:=ry;obtain⟨j,h1,h2,h3,h4,h5⟩:=jeV he;have hl:z.cps.toList.length=z.length:=by simp[Str.length]
 rw[hl]at h1 h4 h5;have hn:=jcG;exact tail_any (typeIs_str s z t) slot_str_getitem.lookup (getItem_str (c:=c) (by
  have e1:decide (i < -(2 ^ 63:Int))=false:=decide_eq_false (by omega)
  have e2:decide (i>=2 ^ 63)=false:=decide_eq_false (by omega)
  rw[e1,e2,Bool.or_false]) (by rw[h1];simpa using h2) ⟨.str ⟨#[c]⟩,H,I.tok _,⟨_,rfl⟩,q⟩) hs
noncomputable def rIx (K:PySem.W.Frag):R2:=fun x y H Q=>jqD K x y H Q\/jqE K x y H Q\/jqF x y H Q
theorem jn6:IxR X (rIx X.K):=ix_list.or (ix_tup.or jn5)
theorem jgy (its:List Value)(n j:Nat)(u:Value):Obj.mapSeq (·.setIfInBounds j u) { cls:=.type "list",data:=.seq its.toArray n }={ cls:=.type "list",data:=.seq (its.set j u).toArray n }:=by
 simp[Obj.mapSeq]
theorem Inv.lst {pins:List (Addr×Obj)}{σ:St}{H:Hp}{s:Shared}{p:Addr}{xs:List V}(I:Inv X pins σ H s)(h:H p=some (.lst xs)) :
  ∃(its:List Value) (n:Nat),Vals xs its/\s.heap.get? p=some { cls:=.type "list",data:=.seq its.toArray n }/\xs.length<=sizeLine:=by
 obtain⟨z,its,n,r,e⟩:=I.hok p _ h;exact⟨its,n,r,e,z⟩
theorem Inv.lstUpd {pins:List (Addr×Obj)}{σ:St}{H:Hp}{s:Shared}{p:Addr}{xs ys:List V}{its its':List Value}{n n':Nat}{f:Obj->Obj}(I:Inv X pins σ H s)(h:H p=some (.lst xs))
  (ho:s.heap.get? p=some { cls:=.type "list",data:=.seq its.toArray n }) (hf:f { cls:=.type "list",data:=.seq its.toArray n }={ cls:=.type "list",data:=.seq its'.toArray n' }) (r:Vals ys its') (hz:ys.length<=sizeLine) (t:Nat) :
  Inv X pins σ (upd H p (.lst ys)) { s with heap:=s.heap.update p f,toks:=t }:=by
 have e:(s.heap.update p f).get? p=some { cls:=.type "list",data:=.seq its'.toArray n' }:=by
  rw[Heap.get?_update_self f ho (by rw[hf] <;> rfl),hf]
 refine I.write (x:=p) (e:=p) (by rw[h];trivial) (.inl rfl) (fun b u hb q=>(jr0 _ _ (Ne.symm hb)).trans q) ⟨_,e⟩ ?_
 exact⟨hz,its',n',r,e⟩
noncomputable def jpH:V->V->V->Hp->(Hp->Prop)->Prop:=fun o i v H Q=>∃p xs k j,o=.ref p/\i=.int k/\H p=some (.lst xs)/\ixN xs.length k=some j/\Q (upd H p (.lst (xs.set j v)))
theorem jjA:jqz X jpH:=by
 intro pins s σ H o i v ov iv u Q I ro ri rv h;obtain⟨p,xs,k,j,rfl,rfl,hp,hj,q⟩:=h;cases ro;obtain⟨t,rfl⟩:=ri;obtain⟨its,n,r,ho,hz⟩:=I.lst hp;obtain⟨h1,h2,h3,h4⟩:=jhu hj;have hl:=r.length;have hn:=jcG;have I':Inv X pins σ (upd H p (.lst (xs.set j v))) { s with heap:=s.heap.update p (Obj.mapSeq (·.setIfInBounds j u)) }:=
  I.lstUpd hp ho (jgy its n j u) (r.set rv j) (by rw[jrO];exact hz) s.toks
 by_cases h0:0<=k
 ·have hk:k.toNat=j:=by
   rw[seqIndex_of h0 h4]at h1;exact Option.some.inj h1
  exact PySem.W.ki_setAt ho h0 (by omega) (by rw[jru,<-hl];exact h4) (by rw[hk];exact⟨_,I',q⟩)
 ·have hk:(k + (its.toArray.size:Int)).toNat=j:=by
   rw[seqIndex_neg (by omega) h3]at h1
   rw[jru,<-hl];exact Option.some.inj h1
  exact PySem.W.ki_setBack ho (by omega) (by rw[jru,<-hl];exact h3) (by omega) (by rw[hk];exact⟨_,I',q⟩)
theorem jeb (lo hi:Option Int)(n:Nat):(sliceBounds lo hi none n).1=((HT.sIx n 0 lo:Nat):Int)/\(sliceBounds lo hi none n).2.1=((HT.sIx n n hi:Nat):Int)/\(sliceBounds lo hi none n).2.2=1:=by
 refine⟨?_,?_,rfl⟩
 ·cases lo with
  |none=>simp[sliceBounds,HT.sIx]
  |some i=>
   simp only[sliceBounds,HT.sIx,Option.getD_none,show (1:Int) > 0 by decide,if_true]
   by_cases h:i < 0
   ·simp only[h,if_true] <;> omega
   ·simp only[h,if_false] <;> omega
 ·cases hi with
  |none=>simp[sliceBounds,HT.sIx]
  |some i=>
   simp only[sliceBounds,HT.sIx,Option.getD_none,show (1:Int) > 0 by decide,if_true]
   by_cases h:i < 0
   ·simp only[h,if_true] <;> omega
   ·simp only[h,if_false] <;> omega
theorem jdF (its:List Value)(lo hi:Option Int):slicePick its.toArray lo hi none=((its.drop (HT.sIx its.length 0 lo)).take (HT.sIx its.length its.length hi - HT.sIx its.length 0 lo)).toArray:=by
 obtain⟨h1,h2,h3⟩:=jeb lo hi its.toArray.size;unfold slicePick;rw[h1,h2,h3];simp only[sliceRange_one,pick_run,jru] <;> rfl
noncomputable def jq8 (K:PySem.W.Frag):V->Option Int->Option Int->Hp->VK->Prop:=fun x lo hi H Q=>∃a xs,x=.ref a/\SqL K H a xs/\∀p,H p=none->Q (.ref p) (upd H p (.lst (jk3 xs lo hi)))
theorem jlQ:SlR X (jq8 X.K):=by
 intro pins s σ H x v vl vu lo hi sl Q I rx hs pl pu h;obtain⟨a,xs,rfl,hx,q⟩:=h;cases rx;obtain⟨its,r,ht,hz⟩:=I.list hx;have hlen:=r.length;refine⟨"list",_,slot_list_getitem.lookup,ht.isList.typeIs,?_⟩;refine wpAny_getItem_list_slice ht.isList hs pl pu .none (by simp) ?_ (by rw[jru] <;> omega)
 rw[jdF,<-hlen];refine⟨.ref s.heap.objs.size,_,I.laid (t':=s.toks) (o:=.lst (jk3 xs lo hi)) (fun b ob q=>jrX _ q) (jr1 _) ?_,rfl,q _ (I.hok.fresh (jr1 _))⟩;exact⟨jr4 (jcH xs lo hi) hz,_,0,(r.drop (HT.sIx xs.length 0 lo)).take (HT.sIx xs.length xs.length hi - HT.sIx xs.length 0 lo),jrZ _ rfl⟩
theorem call_len_seq:CallR X (.builtin "len") (fun xs H Q=>∃p ys,xs=[.ref p]/\(SqL X.K H p ys\/SqT X.K H p ys)/\Q (.int ys.length) H):=by
 intro pins s σ H xs us Q I r h;obtain⟨p,ys,rfl,hq,q⟩:=h;obtain⟨u,rfl,rx⟩:=jcd r;cases rx;have hn:=jcG;rcases hq with hq | hq
 ·obtain⟨its,r',pl,hz⟩:=I.list hq;have hlen:=r'.length;exact Calls.call_len_list pl.isList (by simp only[jru] <;> omega) ⟨.int ys.length,H,I.tok _,⟨s.toks + 1,by rw[jru,hlen]⟩,q⟩
 ·obtain⟨its,r',pl,hz⟩:=I.tuple hq;have hlen:=r'.length;exact len_tuple pl (by simp only[jru] <;> omega) ⟨.int ys.length,H,I.tok _,⟨s.toks + 1,by rw[jru,hlen]⟩,q⟩
theorem jec:CallR X (.builtin "len") (fun xs H Q=>∃z,xs=[.str z]/\z.length<=sizeLine/\Q (.int z.length) H):=by
 intro pins s σ H xs us Q I r h;obtain⟨z,rfl,hz,q⟩:=h;obtain⟨u,rfl,t,rfl⟩:=jcd r;have hn:=jcG;exact len_str (by omega) ⟨.int z.length,H,I.tok _,⟨_,rfl⟩,q⟩
theorem CallR.or {f:Value}{r r':List V->Hp->VK->Prop}(h:CallR X f r)(h':CallR X f r'):CallR X f (fun xs H Q=>r xs H Q\/r' xs H Q):=by
 intro pins s σ H xs us Q I rs q;rcases q with q | q
 ·exact h pins s σ H xs us Q I rs q
 ·exact h' pins s σ H xs us Q I rs q
theorem jdG:CallR X (.type "tuple") (fun xs H Q=>∃p ys,xs=[.ref p]/\((SqL X.K H p ys/\∀l,H l=none->Q (.ref l) (upd H l (.tup ys)))\/(SqT X.K H p ys/\Q (.ref p) H))):=by
 intro pins s σ H xs us Q I r h;obtain⟨p,ys,rfl,h⟩:=h;obtain⟨u,rfl,rx⟩:=jcd r;cases rx;rcases h with ⟨hq,q⟩ | ⟨hq,q⟩
 ·obtain⟨its,r',pl,hz⟩:=I.list hq;have hlen:=r'.length;refine call_tuple_list pl.isList (fun h' kp=>?_) (by simp only[jru] <;> omega)
  have I1:Inv X pins σ H { s with heap:=h' }:=I.kept (t':=s.toks) kp
  have I2:Inv X pins σ (upd H h'.objs.size (.tup ys)) { s with heap:=h'.push { cls:=.type "tuple",data:=.seq its.toArray } }:=
   I1.laid (t':=s.toks) (fun b o e=>jrX _ e) (jr1 _) (show ObjOk X.prog X.w _ _ _ (.tup ys)from⟨hz,its,r',IsTup.new _ _⟩)
  exact⟨.ref h'.objs.size,_,I2,rfl,q _ (I1.hok.fresh (jr1 _))⟩
 ·obtain⟨its,r',pl,hz⟩:=I.tuple hq;exact call_tuple_same pl ⟨.ref p,H,I,rfl,q⟩
noncomputable def tyV (K:PySem.W.Frag)(T:String)(x:V)(H:Hp):Prop:=match x with
 |.str _=>T="str"
 |.int _=>T="int"
 |.ref p=>(T="list"/\∃xs,SqL K H p xs)\/(T="tuple"/\∃o,K.lookup p=some o/\o.cls=.type "tuple"/\o.dict=none) \/
   (T="dict"/\((∃kvs,H p=some (.dK kvs))\/∃kvs,H p=some (.dT kvs)))\/(T="set"/\∃S n,H p=some (.set S n))
 |_=>False
theorem jk4 {pins:List (Addr×Obj)}{σ:St}{H:Hp}{s:Shared}{T:String}{x:V}{v:Value}(I:Inv X pins σ H s)(r:RelV x v)(ty:tyV X.K T x H) :
  s.TypeIs v T/\∀a,v=.ref a->∃ob,s.heap.get? a=some ob/\ob.dict=none:=by
 cases x with
 |str z=>
  obtain⟨t,rfl⟩:=r;cases (show T="str" from ty);exact⟨typeIs_str s z t,fun _ e=>nomatch e⟩
 |int i=>
  obtain⟨t,rfl⟩:=r;cases (show T="int" from ty);exact⟨typeIs_int s i t,fun _ e=>nomatch e⟩
 |ref p=>
  cases r;rcases ty with ⟨rfl,xs,hq⟩ | ⟨rfl,o,hk,hc,hd⟩ | ⟨rfl,hk⟩ | ⟨rfl,S,n,hk⟩
  ·obtain⟨its,_,pl,_⟩:=I.list hq;refine⟨pl.isList.typeIs,fun a e=>?_⟩;cases e;obtain⟨o,n,e,c,hd,_⟩:=pl;exact⟨o,e,hd⟩
  ·refine⟨⟨o,I.kIn p o hk,hc⟩,fun a e=>?_⟩;cases e;exact⟨o,I.kIn _ o hk,hd⟩
  ·have z:∃o,s.heap.get? p=some o/\o.ExactDict:=by
    rcases hk with ⟨kvs,hk⟩ | ⟨kvs,hk⟩
    ·obtain⟨_,_,_,_,o,_,_,e,ex,_⟩:=I.hok p _ hk;exact⟨o,e,ex⟩
    ·obtain⟨_,_,_,_,o,_,_,e,ex,_⟩:=I.hok p _ hk;exact⟨o,e,ex⟩
   obtain⟨o,e,ex⟩:=z;refine⟨⟨o,e,ex.1⟩,fun a e2=>?_⟩;cases e2;exact⟨o,e,ex.2.1⟩
  ·obtain⟨o,_,_,_,e,ex,_⟩:=I.hok p _ hk;refine⟨⟨o,e,ex.1⟩,fun a e2=>?_⟩;cases e2;exact⟨o,e,ex.2.1⟩
 |_=>exact False.elim ty
noncomputable def jq9 (K:PySem.W.Frag)(T:String)(r:V->List V->Hp->VK->Prop)(to:TE):TE:=fun σ H Q=>to σ H fun x H1=>tyV K T x H1/\r x [] H1 Q
noncomputable def tBM (K:PySem.W.Frag)(T:String)(r:V->List V->Hp->VK->Prop)(to:TE)(t:TA):TE:=fun σ H Q=>to σ H fun x H1=>tyV K T x H1/\t σ H1 fun xs H2=>r x xs H2 Q
variable {o e:Expr}{es:List Expr}{to:TE}{t:TA}{name:Str}{apos cpos:Pos}{T id:String}{r:V->List V->Hp->VK->Prop}
theorem jhw (pa:PlainAttrs T)(slot:Slot T name id)(hty:typeOf (.builtin id)=pure (.type "method_descriptor"))(hm:MtR X id r)(ho:PE X o to)
  (hbase:attributeBase o name X.env (eval o X.env)=eval o X.env:=by rfl) (hline:(apos.endLine == cpos.line)=true:=by rfl):PE X (.Call (.Attribute o name apos) [] [] cpos) (jq9 X.K T r to):=by
 intro pins s σ H Q I h;refine wpAny_Call_method0_late hbase hline (thn (ho pins s σ H _ I h) fun v s1 hzz=>?_);obtain⟨x,H1,I1,r1,ty,q1⟩:=hzz;obtain⟨h1,h2⟩:=jk4 I1 r1 ty;exact⟨T,id,pa,slot,hty,h1,h2,Calls.callWith_builtin rfl (PySem.evalArgs_none (hm pins s1 σ H1 x [] v [] Q I1 r1 .nil q1))⟩
theorem jn7 (pa:PlainAttrs T)(slot:Slot T name id)(hty:typeOf (.builtin id)=pure (.type "method_descriptor"))(hm:MtR X id r)(ho:PE X o to)(ha:PA X (e::es) t)
  (hbase:attributeBase o name X.env (eval o X.env)=eval o X.env:=by rfl)
  (hfew:((backTo cpos (starEach (e::es) X.env)).all (fun x=>!x.1) && (backToKw cpos (keywordEach [] X.env)).all (fun x=>x.1.isSome)
   && decide ((e::es).length + ([]:List Keyword).length + (if ([]:List Keyword).isEmpty then 0 else 1) < 30))=true:=by rfl)
  (hline:(apos.endLine == cpos.line)=true:=by rfl) (hs:starEach (e::es) X.env=(false,eval e X.env)::starEach es X.env:=by rfl) (hplain:(backTo cpos (starEach es X.env)).any (·.1)=false:=by rfl) :
  PE X (.Call (.Attribute o name apos) (e::es) [] cpos) (tBM X.K T r to t):=by
 intro pins s σ H Q I h;refine wpAny_Call_method_late hbase hfew hline rfl (thn (ho pins s σ H _ I h) fun v s1 hzz=>?_);obtain⟨x,H1,I1,r1,ty,q1⟩:=hzz;obtain⟨h1,h2⟩:=jk4 I1 r1 ty;refine⟨T,id,pa,slot,hty,h1,h2,?_⟩;have hA:=ha cpos pins s1 σ H1 _ I1 q1;rw[hs]at hA ⊢;refine Calls.callWith_builtin (by show (false || (backTo cpos (starEach es X.env)).any (·.1))=false;rw[hplain] <;> rfl) (Calls.evalArgs_plain ?_)
 exact thn hA fun us s2 ⟨vs,H2,I2,r2,q2⟩=>hm pins s2 σ H2 x vs v us Q I2 r1 r2 q2
end
end L2
namespace L2
open PySem PySem.Spec PyProof.Rows
noncomputable def MtM (X:Cx)(id:String)(r:V->List V->Hp->VK->Prop):Prop:=
 ∀(pins:List (Addr×Obj)) (s:Shared) (σ:St) (H:Hp) (x:V) (xs:List V) (v:Value) (us:List Value) (Q:VK),Inv X pins σ H s->RelV x v->Vals xs us->r x xs H Q ->
  wpAny (model X.prog X.w) X.A (call (.builtin id) (v::us)) (EP X pins σ Q) X.xe s
theorem Vals.one {x:V}{us:List Value}(h:Vals [x] us):∃u,us=[u]/\RelV x u:=by
 cases h with
 |cons r h=>cases h;exact⟨_,rfl,r⟩
theorem Vals.zero:∀{us:List Value},Vals [] us->us=[]
 |_,.nil=>rfl
theorem Vals.dropLast {xs:List V}{us:List Value}(h:Vals xs us):Vals xs.dropLast us.dropLast:=by
 induction h with
 |nil=>exact .nil
 |cons r t ih=>
  cases t with
  |nil=>exact .nil
  |cons q t'=>exact .cons r ih
theorem Vals.reverse {xs:List V}{us:List Value}(h:Vals xs us):Vals xs.reverse us.reverse:=by
 induction h with
 |nil=>exact .nil
 |cons r t ih=>rw[List.reverse_cons,List.reverse_cons];exact Vals.append ih (.cons r .nil)
theorem Vals.rep {xs:List V}{us:List Value}(h:Vals xs us):∀k:Nat,Vals (List.replicate k xs).flatten (List.replicate k us).flatten
 |0=>.nil
 |k + 1=>by
  rw[List.replicate_succ,List.replicate_succ,List.flatten_cons,List.flatten_cons];exact Vals.append h (Vals.rep h k)
theorem jgz {α:Type}(l:List α):l.eraseIdx (l.length - 1)=l.dropLast:=by
 induction l with
 |nil=>rfl
 |cons a r ih=>
  cases r with
  |nil=>rfl
  |cons b r=>
   have e:(a::b::r).length - 1=((b::r).length - 1) + 1:=by
    rfl
   rw[e,List.eraseIdx_cons_succ,ih];all_goals rfl
theorem jed (its:List Value):∀(k:Nat) (acc:List Value),
  List.foldl (fun x1 x2=>x1++x2) acc.toArray (List.replicate k its.toArray)=(acc++(List.replicate k its).flatten).toArray
 |0,acc=>by simp
 |k + 1,acc=>by
  have e:acc.toArray++its.toArray=(acc++its).toArray:=by simp
  have e2:(acc++its)++(List.replicate k its).flatten=acc++(List.replicate (k + 1) its).flatten:=by
   rw[List.replicate_succ,List.flatten_cons,List.append_assoc]
  rw[<-e2,<-jed its k (acc++its),<-e,List.replicate_succ,List.foldl_cons]
section
variable {X:Cx}{pins:List (Addr×Obj)}{σ:St}{H:Hp}{s:Shared}{l b:Addr}{xs ys zs:List V}
theorem Inv.lset {its its':List Value}{n:Nat}{f:Array Value->Array Value}{t':Nat}(I:Inv X pins σ H s)(hH:H l=some (.lst xs))
  (e:s.heap.get? l=some { cls:=.type "list",data:=.seq its.toArray n }) (hf:f its.toArray=its'.toArray) (hv:Vals ys its') (hz:ys.length<=sizeLine) :
  Inv X pins σ (upd H l (.lst ys)) { s with heap:=s.heap.update l (Obj.mapSeq f),toks:=t' }:=by
 have q:=PySem.IsL.update e f;rw[hf]at q;refine I.write (x:=l) (e:=l) (by rw[hH];exact trivial) (.inl rfl) (fun b' u hb hu=>(jr0 s.heap (Obj.mapSeq f) (Ne.symm hb)).trans hu) ⟨_,q⟩ ?_
 exact⟨hz,its',_,hv,q⟩
theorem Inv.lnew {its:List Value}{t':Nat}(I:Inv X pins σ H s)(hv:Vals ys its)(hz:ys.length<=sizeLine) :
  Inv X pins σ (upd H s.heap.objs.size (.lst ys)) { s with heap:=s.heap.push { cls:=.type "list",data:=.seq its.toArray },toks:=t' }:=
 I.laid (fun _ _ q=>jrX _ q) (jr1 _) ⟨hz,its,0,hv,jrZ _ rfl⟩
theorem Inv.fresh (I:Inv X pins σ H s):H s.heap.objs.size=none:=I.hok.fresh (jr1 _)
theorem Inv.lstM (I:Inv X pins σ H s)(hH:H l=some (.lst xs)):xs.length<=sizeLine/\∃(its:List Value) (n:Nat),Vals xs its/\xs.length=its.length/\s.heap.get? l=some { cls:=.type "list",data:=.seq its.toArray n }:=by
 obtain⟨z,its,n,r,e⟩:=I.hok l _ hH;exact⟨z,its,n,r,r.length,e⟩
theorem jjB {n:Nat}(h:n<=sizeLine):Builtin.List.listTooLong n=false:=by
 unfold Builtin.List.listTooLong;exact decide_eq_false (by omega)
end
section
variable {X:Cx}
noncomputable def jlR:V->List V->Hp->VK->Prop:=fun x vs H Q=>∃l xs y,x=.ref l/\vs=[y]/\H l=some (.lst xs)/\xs.length < sizeLine/\Q .non (upd H l (.lst (xs++[y])))
theorem jee:MtM X "list.append" jlR:=by
 intro pins s σ H x vs v us Q I rx rv h;obtain⟨l,xs,y,rfl,rfl,hH,hz,q⟩:=h;cases rx;obtain⟨u,rfl,ru⟩:=rv.one;obtain⟨z,its,n,r,hl,e⟩:=I.lstM hH;refine call_meets F.slot_list_append ⟨_,e,rfl⟩ F.entry_list_append (F.args_list_append_2 _ _) (PySem.list_append l its.toArray n u (by rw[jru];omega)) ⟨e,?_⟩
 refine⟨.non,_,I.lset (its':=its++[u]) hH e (by simp) (r.append (.cons ru .nil)) ?_,rfl,q⟩
 rw[jrF,List.length_singleton];omega
noncomputable def jra:V->List V->Hp->VK->Prop:=fun x vs H Q=>∃l xs y,x=.ref l/\vs=[]/\H l=some (.lst xs)/\xs[xs.length - 1]?=some y/\Q y (upd H l (.lst xs.dropLast))
theorem jn8:MtM X "list.pop" jra:=by
 intro pins s σ H x vs v us Q I rx rv h;obtain⟨l,xs,y,rfl,rfl,hH,hy,q⟩:=h;cases rx;have hus:=rv.zero;subst hus;obtain⟨z,its,n,r,hl,e⟩:=I.lstM hH;obtain⟨u,hu,ru⟩:=r.get hy;have hy':its.toArray[its.toArray.size - 1]?=some u:=by
  show its.toArray[its.length - 1]?=some u;rw[<-Array.getElem?_toList,<-hl];exact hu
 refine call_meets F.slot_list_pop ⟨_,e,rfl⟩ F.entry_list_pop (F.args_list_pop_1 _) (MeetsSeq.list_pop_last l its.toArray n u hy' (by rw[jru];omega)) ⟨e,?_⟩
 refine⟨y,_,I.lset (its':=its.dropLast) hH e ?_ r.dropLast ?_,ru,q⟩
 ·show its.toArray.eraseIdxIfInBounds (its.toArray.size - 1)=its.dropLast.toArray;rw[jru,List.eraseIdxIfInBounds_toArray,jgz]
 ·rw[List.length_dropLast];omega
noncomputable def jjC:V->List V->Hp->VK->Prop:=fun x vs H Q=>∃l xs,x=.ref l/\vs=[]/\H l=some (.lst xs)/\Q .non (upd H l (.lst xs.reverse))
theorem jgA:MtM X "list.reverse" jjC:=by
 intro pins s σ H x vs v us Q I rx rv h;obtain⟨l,xs,rfl,rfl,hH,q⟩:=h;cases rx;have hus:=rv.zero;subst hus;obtain⟨z,its,n,r,hl,e⟩:=I.lstM hH;refine call_meets F.slot_list_reverse ⟨_,e,rfl⟩ F.entry_list_reverse (F.args_list_reverse_1 _) (AutoSeq1.list_reverse_list_0 l its.toArray n (by rw[jru];omega)) ⟨e,?_⟩
 refine⟨.non,_,I.lset (its':=its.reverse) hH e (by simp) r.reverse ?_,rfl,q⟩
 rw[List.length_reverse];omega
theorem jlS {α:Type}(xs:List α)(k:Nat):(List.replicate k xs).flatten.length=k * xs.length:=by
 induction k with
 |zero=>simp
 |succ k ih=>rw[List.replicate_succ,List.flatten_cons,jrF,ih,Nat.succ_mul,Nat.add_comm]
end
section
variable {prog:Program}{w:World}{A:Around}{E:Value->Shared->Prop}{s:Shared}
set_option maxRecDepth 100000 in
end
section
variable {X:Cx}
end
end L2
namespace Att
open PySem PySem.W PySem.Calls PyProof.Rows
theorem jcI {P:Params}{h:Heap}:∀(ns:List Int) (vs:List Value),WellAll P h vs (ns.map WData.int)->IntsAre vs ns:=by
 intro ns;induction ns with
 |nil=>
  intro vs w;rw[List.map_nil]at w;cases w;exact .nil
 |cons n ns ih=>
  intro vs w;rw[jrx]at w;cases w with
  |cons a b=>
   cases a;exact .cons _ _ (ih _ b)
theorem jhx {l:OpenLaw}{n:Nat}(hn:l.most=some n){P:Params}{h:Heap}{args:List WData}{vals:List Value}
  (hpre:l.row.toRowW.claim.pre args=true) (hwl:WellAll P h vals args) :
  ∃a vs ns,vals=[Value.ref a]/\args=[WData.list (ns.map WData.int)]/\h.get? a=some { cls:=.type "list",data:=.seq vs.toArray }/\IntsAre vs ns/\ns.length<=n:=by
 have hsh:WShape.hasAll [] args [.list .int]=true:=(pre_splitW hpre).1;have hc:l.pre.holds [] { args:=args }=true:=(pre_splitW hpre).2;obtain⟨d,r,rfl,h1,h2⟩:=hasAllW_cons hsh;obtain rfl:=hasAllW_nil h2;obtain⟨xs,rfl,h3⟩:=hasW_list h1;obtain⟨ns,rfl⟩:=items_int h3;have hlen:ns.length<=n:=by
  unfold OpenLaw.pre at hc;have h4:(WTm.not (.lt (.lit (.int (n:Int))) (.len (.arg 0)))).holds [] { args:=[.list (ns.map .int)] }=true:=by
   have h4:=(holds_andW hc).1;rw[hn]at h4;exact h4
  have h5:=condW_of h4 (w_not (w_lt w_lit (w_len_list (w_arg rfl))));rw[jrz]at h5;refine Nat.le_of_not_lt fun q=>?_;have q':(n:Int) < ((ns.length:Nat):Int):=by omega
  first
   |(rw[decide_eq_true q']at h5;exact absurd h5 (by decide))
   |(simp at h5;omega)
 cases hwl with
 |cons w1 w2=>
  cases w2;cases w1 with
  |list ho hall=>exact⟨_,_,ns,rfl,rfl,ho,jcI ns _ hall,hlen⟩
theorem jhy (l:OpenLaw)(args:List WData):l.row.toRowW.claim.post args (.bool true) args=true:=
 postW_of (r:=l.row.toRowW) (X:=(true == true))
  (show WShape.has [] (.bool true) .bool=true by first | rfl | decide | simp[WShape.has,WShape.arms,WShape.armsAll])
  (show (WTm.eq .res (.lit (.bool true))).value [] { args:=args,res:=some (.bool true),after:=args }=some (.bool (true == true))from w_eq_bool (w_res rfl) w_lit) rfl
theorem jeW {l:OpenLaw}{n:Nat}{q:Program}{loose:List Str}{XP:(Str->Option Value)->Heap->Prop}{YP:World->Heap->Prop}{d:DefRec}
  (hn:l.most=some n) (hdf:d.params.defaults=[])
  (call:∀(w:World) (s₀ s₁:Shared) (mg mb:Str->Option Value) (fa:Addr) (o:Obj) (pm cd doc:Value) (a:Addr) (vs:List Value) (ns:List Int),
   Ground q loose [] XP w s₀ mg mb s₁.heap->YP w s₁.heap ->
   s₁.heap.get? fa=some o->o.data=.func (docDef d.name d.params d.body d.scope pm cd doc)->s₁.heap.CodeRec cd d.name->mg d.name=some (.ref fa) ->
   s₁.heap.get? a=some { cls:=.type "list",data:=.seq vs.toArray }->IntsAre vs ns->ns.length<=n->s₁.gens=#[] ->
   codeAny (model l.prog w) callerA (.call (.ref fa) ⟨[.ref a],[]⟩) (fun r s'=>r=.ok (.ret (.bool true))/\OldK s₁.heap s'.heap/\s'.os=s₁.os/\AllBare s'.gens) s₁) :
  WalkO q loose XP YP l.row.toRowW d [] (fun f vs=>PySem.call f vs):=by
 intro w s₀ s₁ mg mb G Y fa o pm cd doc dV kV ho hd hcd hD hmg hg args vals as hpre hlay hrd hwl hlo;obtain rfl:dV=.none:=Dflts.none hD hdf;obtain rfl:kV=.none:=Dflts.noKw hD;obtain⟨a,vs,ns,rfl,rfl,hobj,hints,hlen⟩:=jhx hn hpre hwl;refine enter_call (codeAny_mono (call w s₀ s₁ mg mb fa o pm cd doc a vs ns G Y ho (fd_plain hd) hcd hmg hobj hints hlen hg) fun r s' hq=>?_);obtain⟨rfl,h2,h3,h4⟩:=hq;exact⟨.inl ⟨.bool true,.bool true,[],rfl,fun _=>rfl,.bool true,jhy l _,fun _=>⟨List.Pairwise.nil,fun _ hm=>(nomatch hm)⟩⟩,h2,h3,h4⟩
section
variable {prog:Program}{w:World}{A:Around}{E:Value->Shared->Prop}{s:Shared}{K:Frag}
end
end Att
namespace L2
open PySem PySem.Spec PyProof.Rows
theorem jhz {vs:List Value}{ns:List Int}(h:IntsAre vs ns):Vals (ns.map V.int) vs:=by
 induction h with
 |nil=>exact .nil
 |cons n t h ih=>exact .cons ⟨t,rfl⟩ ih
noncomputable def jpI (H:Hp):Prop:=∀b,H b=none\/∃o xs,H b=some (.frz o (.lst xs))
theorem jjD {P:Program}{w:World}{K:PySem.W.Frag}{mg mb:Str->Option Value}{CX:CXT}{k:Nat}{fa a:Addr}{fd:FuncData}{x:Str}{sp:Sp}{s₁:Shared}{vs:List Value}{ns:List Int}
  (KX:K.In s₁.heap) (hns:s₁.heap.Ns mainGlobals mg) (hb:s₁.heap.Ns builtinsNs mb) (hbb:∀x:Str,x≠"__name__"->mb x=bootBuiltins x) (hlim:s₁.heap.NoLimit) (hg:s₁.gens=#[])
  (ha:s₁.heap.get? a=some { cls:=.type "list",data:=.seq vs.toArray }) (hi:IntsAre vs ns) (hl:ns.length<=sizeLine) (hr:Room k callerA)
  (F:∀base:Heap,K.In base->base.Ns mainGlobals mg->FnOk P w K mg base CX k fa fd [x] sp) (hbind:∀(s:Shared) (u:Value),BindsTo s fd ⟨[u],[]⟩ [(x,u)])
  (hsp:∀H:Hp,jpI H->SqL K H a (ns.map V.int)->sp [.ref a] H (fun v _=>v=.bl true) fun _ _ _=>False)
  (hCX:∀H e s',CX [] H s₁ (fun _ _ _=>False) e s'->False) :
  codeAny (model P w) callerA (.call (.ref fa) ⟨[.ref a],[]⟩) (fun r s'=>r=.ok (.ret (.bool true))/\OldK s₁.heap s'.heap/\s'.os=s₁.os/\AllBare s'.gens) s₁:=by
 have rv:=jhz hi;have lenV:=hi.length;have core:∀H:Hp,jpI H->SqL K H a (ns.map V.int)->HOk P w H s₁.heap->(∀b,H b≠none->b=a)->(H a≠none->K.lookup a=none) ->
   codeAny (model P w) callerA (.call (.ref fa) ⟨[.ref a],[]⟩) (fun r s'=>r=.ok (.ret (.bool true))/\OldK s₁.heap s'.heap/\s'.os=s₁.os/\AllBare s'.gens) s₁:=by
  intro H hO hS hok hA hK;have base_of:∀{b:Addr}{o:Obj},s₁.heap.get? b=some o->H b=none->(jjn s₁.heap H).get? b=some o:=fun e n=>jjo e n;have noA:∀{b:Addr}{o:Obj}{es:Array DictEntry}{ep:Nat},s₁.heap.get? b=some o->o.data=.dict es ep->H b=none:=fun {b o es ep} e d=>by
   cases q:H b with
   |none=>rfl
   |some u=>
    have e':b=a:=hA b (by rw[q];simp)
    subst e';rw[ha]at e;cases e;have d':Data.seq vs.toArray _=Data.dict es ep:=d;cases d'
  have nsK:∀{b:Addr}{m:Str->Option Value},s₁.heap.Ns b m->(jjn s₁.heap H).Ns b m:=fun {b m} ⟨o,es,ep,e,d,r⟩=>⟨o,es,ep,base_of e (noA e d),d,r⟩;have hKb:K.In (jjn s₁.heap H):=fun b o e=>base_of (KX b o e) (by
   cases q:H b with
   |none=>rfl
   |some u=>
    have e':b=a:=hA b (by rw[q];simp)
    subst e';rw[hK (by rw[q];simp)]at e;cases e)
  have hM:Mod K mg (jjn s₁.heap H):=⟨hKb,nsK hns,⟨mb,nsK hb,hbb⟩,let ⟨mc,h1,h2⟩:=hlim;⟨mc,nsK h1,h2⟩⟩;have e0:Env0 P w K mg (jjn s₁.heap H) callerA [] s₁ H:=⟨rfl,hM,fun b o e=>jlz e,Nat.le_of_eq (jhj _ _),trivial,fun b hb=>absurd (show b∈([]:List Addr)from hb) (by simp),hok,.of_eq hg⟩
  refine codeAny_mono ((F _ hKb (nsK hns)).run callerA [] s₁ H ⟨[.ref a],[]⟩ [.ref a] [.ref a] _ _ hr e0 (hbind s₁ (.ref a)) (.cons rfl .nil) (hsp H hO hS)) fun r s' h=>?_;cases r with
  |error e=>exact(hCX H e s' h).elim
  |ok fl=>
   cases fl with
   |next=>exact False.elim h
   |brk=>exact False.elim h
   |cont=>exact False.elim h
   |ret u=>
    obtain⟨v,H',os,bare,un,hok',r',q⟩:=h;have q':v=.bl true:=q;subst q';obtain rfl:u=Value.bool true:=r';refine⟨rfl,OldK.of_keep fun b o e=>?_,os,bare⟩;cases q:H b with
    |none=>exact un.keep b o e q (by intro z;exact absurd (show b∈([]:List Addr)from z) (by simp)) (by simp)
    |some u=>
     rcases hO b with z | ⟨ob,xs,z⟩
     ·rw[q]at z;cases z
     ·have z2:=un.frzs b ob _ z;obtain⟨e1,_⟩:=hok b _ z;obtain⟨e2,_⟩:=hok' b _ z2;rw[e]at e1;cases e1;exact e2
 cases hk:K.lookup a with
 |some o=>
  have e:=KX a o hk;rw[ha]at e;cases e;refine core (fun _=>none) (fun _=>.inl rfl) (.inr ⟨_,vs.toArray,_,hk,rfl,rfl,rfl,by rw[jru,lenV];exact hl,by simpa using rv⟩) (fun b u z=>by have z':(none:Option HO)=some u:=z;cases z') (fun b z=>absurd rfl z) fun z=>absurd rfl z
 |none=>
  refine core (fun b=>if b=a then some (.frz { cls:=.type "list",data:=.seq vs.toArray } (.lst (ns.map V.int)))else none) (fun b=>?_) (.inl (.inr ⟨{ cls:=.type "list",data:=.seq vs.toArray },if_pos rfl⟩)) (fun b u z=>?_) (fun b z=>?_) fun _=>hk
  ·by_cases hb:b=a
   ·exact .inr ⟨_,_,if_pos hb⟩
   ·exact .inl (if_neg hb)
  ·by_cases hb:b=a
   ·have z':=(if_pos hb).symm.trans z;cases z';subst hb;exact⟨ha,by rw[jrz];exact hl,vs,_,rv,ha⟩
   ·have z':=(if_neg hb).symm.trans z;cases z'
  ·by_cases hb:b=a
   ·exact hb
   ·exact absurd (if_neg hb) z
end L2
namespace L2
open PySem PySem.Spec PyProof.Rows
theorem jlT {l:PySem.W.OpenLaw}{n k:Nat}{q:Program}{loose:List Str}{XP:(Str->Option Value)->Heap->Prop}{YP:World->Heap->Prop}{d:DefRec}{K:Params->PySem.W.Frag}{CX:World->CXT}{sp:World->Sp}{x:Str}
  (hn:l.most=some n) (hn2:n<=sizeLine) (hdf:d.params.defaults=[]) (hr:Room k callerA)
  (hY:∀(w:World) (h:Heap),YP w h->(K w.params).In h)
  (F:∀(w:World) (mg:Str->Option Value) (fa:Addr) (h:Heap),(K w.params).In h->h.Ns mainGlobals mg->mg d.name=some (.ref fa) ->
   ∃fd:FuncData,(∀(s:Shared) (u:Value),BindsTo s fd ⟨[u],[]⟩ [(x,u)]) /\
    ∀base:Heap,(K w.params).In base->base.Ns mainGlobals mg->FnOk l.prog w (K w.params) mg base (CX w) k fa fd [x] (sp w))
  (hsp:∀(w:World) (H:Hp) (a:Addr) (ns:List Int),ns.length<=n->jpI H->SqL (K w.params) H a (ns.map V.int)->sp w [.ref a] H (fun v _=>v=.bl true) fun _ _ _=>False)
  (hCX:∀(w:World) (H:Hp) (s:Shared) (e:Value) (s':Shared),CX w [] H s (fun _ _ _=>False) e s'->False) :
  PySem.W.WalkO q loose XP YP l.row.toRowW d [] (fun f vs=>PySem.call f vs):=by
 refine Att.jeW hn hdf fun w s₀ s₁ mg mb fa o pm cd doc a vs ns G Y ho hd hcd hmg hobj hints hlen hg=>?_;have KX:=hY w _ Y;obtain⟨fd,hb,hF⟩:=F w mg fa _ KX G.T.g hmg;exact jjD KX G.T.g G.T.b G.T.builtins G.T.nolimit hg hobj hints (jr4 hlen hn2) hr hF hb (fun H hO hS=>hsp w H a ns hlen hO hS) fun H e s'=>hCX w H s₁ e s'
end L2
namespace L2
open PySem PySem.Spec PyProof.Rows
noncomputable def defArgs (s:Stmt):Arguments:=match s with
 |.FunctionDef _ a _ _ _ _ _ _ _ _=>a
 |_=>{ posonlyargs:=[],args:=[],vararg:=none,kwonlyargs:=[],kw_defaults:=[],kwarg:=none,defaults:=[] }
noncomputable def defBody (s:Stmt):List Stmt:=match s with
 |.FunctionDef _ _ b _ _ _ _ _ _ _=>b
 |_=>[]
noncomputable def defScope (s:Stmt):Scope:=match s with
 |.FunctionDef _ _ _ _ _ _ sc _ _ _=>sc
 |_=>{ kind:=.function,names:=[],isGenerator:=false,isCoroutine:=false }
structure Fun (K:PySem.W.Frag)(x qual:Str)(st:Stmt)(f:Addr)(fd:FuncData):Prop where
 ex:∃(oc:Value) (od:Option Addr) (kV doc pm:Value) (an:Option Addr) (cdv ct:Value) (osl:Array (Option Value)),
  fd=PySem.W.fnOf x qual (defArgs st) (defBody st) (defScope st) .none kV doc pm an cdv ct/\K.lookup f=some ⟨oc,od,.func fd,osl⟩/\PySem.W.codeIn K cdv qual=true
 kp:PySem.W.keepIn K (.ref f)=true
section
variable {P:Program}{w:World}{K:PySem.W.Frag}{mg:Str->Option Value}{base:Heap}
theorem Fun.binds {x qual:Str}{st:Stmt}{f:Addr}{fd:FuncData}{ps:List Str}(F:Fun K x qual st f fd)
  (h:∀(kV doc pm:Value) (an:Option Addr) (cdv ct:Value) (us:List Value),us.length=ps.length->bindArgs (PySem.W.fnOf x qual (defArgs st) (defBody st) (defScope st) .none kV doc pm an cdv ct) ⟨us,[]⟩=pure (ps.zip us)):Binds K fd ps []:=by
 obtain⟨oc,od,kV,doc,pm,an,cdv,ct,osl,rfl,lk,hcd⟩:=F.ex;exact .all (h kV doc pm an cdv ct)
theorem jn9 {x qual:Str}{st:Stmt}{f:Addr}{oc:Value}{od an:Option Addr}{osl:Array (Option Value)}{kV doc pm cdv ct:Value}(l:K.lookup f=some ⟨oc,od,.func (PySem.W.fnOf x qual (defArgs st) (defBody st) (defScope st) .none kV doc pm an cdv ct),osl⟩)
  (c:PySem.W.codeIn K cdv qual=true) (k:PySem.W.keepIn K (.ref f)=true):Fun K x qual st f (PySem.W.fnOf x qual (defArgs st) (defBody st) (defScope st) .none kV doc pm an cdv ct):=⟨⟨oc,od,kV,doc,pm,an,cdv,ct,osl,rfl,l,c⟩,k⟩
end
section
variable {X:Cx}
end
noncomputable def Same (H H':Hp):Prop:=∀b o,H b=some o->H' b=some o
theorem Same.refl (H:Hp):Same H H:=fun _ _ h=>h
theorem Same.trans {H H1 H2:Hp}(a:Same H H1)(b:Same H1 H2):Same H H2:=fun c o h=>b c o (a c o h)
theorem Same.free {H H':Hp}(e:Same H H'){l:Addr}(h:H' l=Option.none):H l=Option.none:=by
 cases q:H l with
 |none=>rfl
 |some o=>
  rw[e l o q]at h;cases h
end L2
namespace TM
open PySem
end TM
namespace L2
open PySem PySem.Spec PyProof.Rows
section
variable {X:Cx}
theorem jjE:OpR X (binaryOp .Add) (fun x y H Q=>∃a b ys,x=.ref a/\y=.ref b/\SqT X.K H a []/\SqT X.K H b ys/\Q (.ref b) H):=by
 intro pins s σ H x y v u Q I rx ry h;obtain⟨a,b,ys,rfl,rfl,ha,hb,q⟩:=h;cases rx;cases ry;obtain⟨its,r1,p1,_⟩:=I.tuple ha;obtain⟨its2,r2,p2,_⟩:=I.tuple hb;obtain rfl:its=[]:=r1.nil_iff.mpr rfl;obtain⟨⟨cls,dd,data,sl⟩,ho,hc,n,hd⟩:=id p1;obtain⟨⟨cls2,dd2,data2,sl2⟩,ho2,hc2,n2,hd2⟩:=id p2;simp only at hc hd hc2 hd2;subst hc hd hc2 hd2;exact concat_meets ⟨_,ho,rfl⟩ ⟨_,ho2,rfl⟩ noFill_tuple_add seq_tuple_add PySem.F.slot_tuple_add PySem.F.entry_tuple_add (PySem.F.args_tuple_add_2 _ _)
   (tuple_addW0 a b ([]:List Value).toArray its2.toArray n n2 dd dd2 sl sl2 rfl) ⟨ho,ho2,⟨.ref b,H,I,rfl,q⟩⟩
theorem jlU:OpR X (binaryOp .Add) (fun x y H Q=>∃a b xs ys,x=.ref a/\y=.ref b/\SqL X.K H a xs/\SqL X.K H b ys/\xs.length + ys.length<=sizeLine/\∀p,H p=none->Q (.ref p) (upd H p (.lst (xs++ys)))):=by
 intro pins s σ H x y v u Q I rx ry h;obtain⟨a,b,xs,ys,rfl,rfl,ha,hb,hz,q⟩:=h;cases rx;cases ry;obtain⟨its,r1,⟨⟨cls,dd,data,sl⟩,n,ho,hc,hdd,hd⟩,_⟩:=I.list ha;obtain⟨its2,r2,⟨⟨cls2,dd2,data2,sl2⟩,n2,ho2,hc2,hdd2,hd2⟩,_⟩:=I.list hb;simp only at hc hd hc2 hd2;subst hc hd hc2 hd2;refine concat_meets ⟨_,ho,rfl⟩ ⟨_,ho2,rfl⟩ noFill_list_add seq_list_add PySem.F.slot_list_add PySem.F.entry_list_add (PySem.F.args_list_add_2 _ _)
   (list_addW a b its.toArray its2.toArray n n2 dd dd2 sl sl2 (by rw[jru,jru,<-r1.length,<-r2.length];exact hz)) ⟨ho,ho2,?_⟩
 have e:its.toArray++its2.toArray=(its++its2).toArray:=by simp
 rw[e];exact⟨.ref _,_,I.lnew (t':=s.toks) (r1.append r2) (by rw[jrF];exact hz),rfl,q _ I.fresh⟩
theorem jbR {prog:Program}{w:World}{A:Around}{E:Value->Shared->Prop}{s:Shared}{t sl:Addr}{items:Array Value}{vl vu:Value}{lo hi:Option Int}{Q:Value->Shared->Prop}(ht:IsTup s.heap t items)(hs:s.heap.IsSliceOf sl vl vu .none)(pl:IsPart vl lo)(pu:IsPart vu hi)
  (hw:HT.sIx items.size 0 lo=0/\HT.sIx items.size items.size hi=items.size) (h:Q (.ref t) s):wpAny (model prog w) A (getItem (.ref t) (.ref sl)) Q E s:=by
 obtain⟨os,hos,hcs,hds⟩:=id hs;have hTs:s.TypeIs (.ref sl) "slice":=⟨os,hos,hcs⟩;unfold getItem;try with_reducible refine jrU ?_
 first | refine jrR (jrS ?_) | skip
 refine jrR (wpAny_sequenceKey ht.typeIs (by decide) ?_)
 refine jrR (wpAny_callSpecial?_slot (name:=Str.ofString "__getitem__") ht.typeIs PyProof.Rows.slot_tuple_getitem
  (wpAny_call_entry PyProof.Rows.slot_tuple_getitem ht.typeIs entry_tuple_getitem ?_ (args_tuple_getitem _ _)))
 show wpAny _ _ (Builtin.Tuple.tupleItemsOf (.ref t) >>= _) _ _ s;refine jrR (tupleItemsOf_ ht ?_);refine jrR (wpAny_typeOf hTs ?_);rw[if_pos (by decide)]
 refine jrR (HT.jbv hs pl pu ?_);have hyes:(((HT.sIx items.size 0 lo:Nat):Int) == 0 && (1:Int) == 1 && (HT.sIx items.size items.size hi - HT.sIx items.size 0 lo) == items.size)=true:=by
  rw[hw.1,hw.2];simp
 show wpAny _ _ (if (((HT.sIx items.size 0 lo:Nat):Int) == 0 && (1:Int) == 1 && (HT.sIx items.size items.size hi - HT.sIx items.size 0 lo) == items.size)=true then _ else _) _ _ s;rw[if_pos hyes];refine jrR (m:=Builtin.Tuple.tupleIsExact _) ?_;unfold Builtin.Tuple.tupleIsExact;refine jrR (wpAny_typeOf ht.typeIs ?_);refine jrS ?_;rw[if_pos (by rfl)]
 exact jrR (wpAny_rule (jrS ⟨_,rfl,jrS h⟩))
theorem sl_tupW:SlR X (fun x lo hi H Q=>∃a xs,x=.ref a/\SqT X.K H a xs/\(HT.sIx xs.length 0 lo=0/\HT.sIx xs.length xs.length hi=xs.length)/\Q (.ref a) H):=by
 intro pins s σ H x v vl vu lo hi sl Q I rx hs pl pu h;obtain⟨a,xs,rfl,hx,hw,q⟩:=h;cases rx;obtain⟨its,r,ht,hz⟩:=I.tuple hx;have hlen:its.toArray.size=xs.length:=by rw[jru];exact r.length.symm
 refine⟨"tuple",_,PyProof.Rows.slot_tuple_getitem.lookup,ht.typeIs,?_⟩;exact jbR ht hs pl pu (by rw[hlen];exact hw) ⟨.ref a,H,I,rfl,q⟩
noncomputable def trV:V->Option Bool
 |.bl b=>some b
 |.int i=>some (i != 0)
 |_=>none
theorem jhA {prog:Program}{w:World}{A:Around}{x:V}{v:Value}{b:Bool}(r:RelV x v)(h:trV x=some b){s:Shared}{Q:Bool->Shared->Prop}{E:Value->Shared->Prop}(q:Q b s):wpAny (model prog w) A (truthy v) Q E s:=by
 cases x with
 |bl c=>
  cases (show v=Value.bool c from r);cases h;exact wpAny_truthy_bool q
 |int i=>
  obtain⟨t,rfl⟩:=(show ∃t,v=Value.int i t from r);cases h;exact PySem.P.truthy_int q
 |_=>cases h
theorem jfL {pins:List (Addr×Obj)}{σ:St}{H:Hp}{s:Shared}{p:Addr}{ys:List V}(hc:X.calm=true)(I:Inv X pins σ H s)(h:SqL X.K H p ys\/SqT X.K H p ys){A:Around}(hA:A.handled=none){Q:Value->Shared->Prop}{E:Value->Shared->Prop}
  (q:∀(its:List Value) (I':Addr) (fp wr:List Addr) (St:Nat->Heap->Prop) (h2:Heap),Vals ys its->Walks X.prog X.w A I' fp wr ys.length (fun i v=>its[i]?=some v) St->St 0 h2->(∀b∈fp,b < h2.objs.size) ->
   (∀h' tk,(∀b o,b ∉ wr->h2.get? b=some o->h'.get? b=some o)->Inv X pins σ H { s with heap:=h',toks:=tk })->Q (.ref I') { s with heap:=h2 }):wpAny (model X.prog X.w) A (pyIter (.ref p)) Q E s:=by
 have back:∀(o:Obj) (h':Heap) (tk:Nat),(∀b ob,b ∉ [s.heap.objs.size]->(s.heap.push o).get? b=some ob->h'.get? b=some ob)->Inv X pins σ H { s with heap:=h',toks:=tk }:=fun o h' tk kp=>
  I.kept fun b ob e=>kp b ob (by simpa using jr3 (jrY e)) (jrX _ e)
 rcases h with h | h
 ·obtain⟨its,r,pl,hz⟩:=I.list h;have hlen:its.toArray.size=ys.length:=by rw[jru];exact r.length.symm
  have hlt:p < s.heap.objs.size:=by obtain⟨o,n,e,_⟩:=pl;exact jrY e
  refine wpAny_pyIter_list pl.isList ?_;have W:=Walks.list (prog:=X.prog) (w:=X.w) hA s.heap.objs.size p (jr3 hlt) its.toArray;rw[hlen]at W;refine q its s.heap.objs.size _ _ (fun i h=>h.IsListIter s.heap.objs.size p i/\h.IsList p its.toArray) _ r (by simpa using W) ⟨⟨_,jrZ _ rfl,rfl,rfl⟩,pl.isList.push _⟩ (fun b hb=>?_) (fun h' tk kp=>back _ h' tk kp)
  rw[Heap.size_push];rcases List.mem_cons.mp hb with rfl | hb
  ·exact Nat.lt_succ_self _
  ·have:b=p:=by simpa using hb
   subst this;exact Nat.lt_succ_of_lt hlt
 ·obtain⟨its,r,pl,hz⟩:=I.tuple h;have hlen:its.toArray.size=ys.length:=by rw[jru];exact r.length.symm
  have hlt:p < s.heap.objs.size:=pl.lt;have pl':s.heap.IsTuple p its.toArray:=pl;refine wpAny_pyIter_tuple pl' ?_;have W:=Walks.tuple (prog:=X.prog) (w:=X.w) hA s.heap.objs.size p (jr3 hlt) its.toArray;rw[hlen]at W;refine q its s.heap.objs.size _ _ (fun i h=>h.IsTupleIter s.heap.objs.size p i/\h.IsTuple p its.toArray) _ r (by simpa using W) ⟨⟨_,jrZ _ rfl,rfl,rfl⟩,?_⟩ (fun b hb=>?_) (fun h' tk kp=>back _ h' tk kp)
  ·obtain⟨o,e,c⟩:=pl';exact⟨o,jrX _ e,c⟩
  ·rw[Heap.size_push];rcases List.mem_cons.mp hb with rfl | hb
   ·exact Nat.lt_succ_self _
   ·have:b=p:=by simpa using hb
    subst this;exact Nat.lt_succ_of_lt hlt
theorem jef {ys:List V}{bs:List Bool}(h:ys.map trV=bs.map some):(List.range ys.length).all (fun i=>((ys[i]?).bind trV).getD false)=bs.all id/\(List.range ys.length).any (fun i=>((ys[i]?).bind trV).getD false)=bs.any id:=by
 have hl:ys.length=bs.length:=by simpa using congrArg List.length h
 have hg:∀i:Nat,((ys[i]?).bind trV).getD false=(bs[i]?).getD false:=fun i=>by
  have e:(ys.map trV)[i]?=(bs.map some)[i]?:=by rw[h]
  rw[jrw,jrw]at e;cases q:ys[i]? with
  |none=>rw[q]at e;cases q2:bs[i]? with
   |none=>rfl
   |some b=>rw[q2]at e;cases e
  |some y=>rw[q]at e;cases q2:bs[i]? with
   |none=>rw[q2]at e;cases e
   |some b=>rw[q2]at e;simp at e;simp[e]
 have ea:(List.range ys.length).map (fun i=>((ys[i]?).bind trV).getD false)=bs:=by
  apply List.ext_getElem?;intro i;rw[jrw];by_cases hi:i < ys.length
  ·rw[List.getElem?_range hi];have hb:i < bs.length:=by omega
   rw[Option.map_some,hg i,jrq hb];rfl
  ·rw[jrH (by simpa using hi),jrH (by omega)]
   rfl
 constructor
 ·conv=>rhs;rw[<-ea]
  rw[List.all_map];rfl
 ·conv=>rhs;rw[<-ea]
  rw[List.any_map];rfl
theorem jhB (hc:X.calm=true)(all:Bool):CallR X (.builtin (if all then "all" else "any")) (fun xs H Q=>∃(p:Addr) (ys:List V) (bs:List Bool),xs=[.ref p]/\(SqL X.K H p ys\/SqT X.K H p ys)/\ys.map trV=bs.map some/\Q (.bl (if all then bs.all id else bs.any id)) H):=by
 intro pins s σ H xs us Q I r h;obtain⟨p,ys,bs,rfl,hq,hb,q⟩:=h;obtain⟨u,rfl,rx⟩:=jcd r;cases rx;have hA:X.A.in1.handled=none:=I.ok.hd hc;have tro:∀its:List Value,Vals ys its->TruthOf X.prog X.w X.A.in1 (fun i v=>its[i]?=some v) (fun i=>((ys[i]?).bind trV).getD false):=fun its rv i v s Q E hP hQ=>by
  have hlen:=rv.length;have hi:i < ys.length:=by rw[hlen];exact(List.getElem?_eq_some_iff.mp hP).1
  obtain⟨u,e1,e2⟩:=rv.get (jrq hi);rw[hP]at e1;cases e1;have e:(ys.map trV)[i]?=(bs.map some)[i]?:=by rw[hb]
  rw[jrw,jrw,jrq hi]at e;cases q2:bs[i]? with
  |none=>rw[q2]at e;cases e
  |some b=>
   rw[q2]at e;have e:trV ys[i]=some b:=by simpa using e
   refine jhA e2 e ?_;have:((ys[i]?).bind trV).getD false=b:=by rw[jrq hi];simp[e]
   rw[<-this];exact hQ
 cases all with
 |true=>
  refine call_all_walk (jfL hc I hq hA fun its I' fp wr St h2 rv W st hfp back=>⟨I',fp,wr,_,_,St,_,rfl,W,st,tro its rv,fun h' tk kp=>?_⟩);rw[(jef hb).1];exact⟨.bl _,H,back h' tk kp,rfl,q⟩
 |false=>
  refine call_any_walk (jfL hc I hq hA fun its I' fp wr St h2 rv W st hfp back=>⟨I',fp,wr,_,_,St,_,rfl,W,st,tro its rv,fun h' tk kp=>?_⟩);rw[(jef hb).2];exact⟨.bl _,H,back h' tk kp,rfl,q⟩
end
end L2
namespace L2
open PySem PySem.Spec PyProof.Rows PySem.W PySem.Builtin PySem.Builtin.Getset_descriptor
structure ECls (K:Frag)(C:Addr):Prop where
 ga:findIn K (.ref C) "__getattribute__"=some (some (.builtin "BaseException.__getattribute__"))
 hk:findIn K (.ref C) "__getattr__"=some none
 ca:findIn K (.ref C) "__class__"=some (some (.builtin "object.__class__"))
 gs:specialIn K (.builtin "object.__class__") "__get__"=some (some (.builtin "getset_descriptor.__get__"))
 tk:takesIn K (.builtin "object.__class__")=some true
 mo:mroIn K C (.type "object")=some true
 mb:mroIn K C (.type "BaseException")=some true
 ms:mroIn K C (.ref C)=some true
 mv:mroIn K C (.type "ValueError")=some true
 cd:(clsIn K C).isSome=true
 ty:typeIn K (.ref C)=some (.type "type")
section
variable {prog:Program}{w:World}{A:Around}{E:Value->Shared->Prop}{s:Shared}{K:Frag}{x C:Addr}{ox:Obj}
inductive TyAt (h:Heap) (x C:Addr):Prop
 |mk (o:_):(h.get? x=some o)->(o.cls=.ref C)->TyAt h x C
theorem TyAt.looks {M:Model}{h:Heap}(t:TyAt h x C):Looks M h (typeOf (.ref x)) (.ref C):=by
 obtain⟨o,e,hc⟩:=t;have z:=(Looks.ld (M:=M) (part:=none) e).andThen (f:=fun o=>pure o.cls) Looks.now;rw[hc]at z;exact z
theorem jhC {M:Model}{nameV:Value}{Q:Unit->Shared->Prop}(X:K.In s.heap)(e:ECls K C)(I:TyAt s.heap x C)(hq:Q () s) :
  wpAny M A (checkBuiltinCall "BaseException.__getattribute__" ⟨[.ref x,nameV],[]⟩) Q E s:=by
 have k1:builtinKind "BaseException.__getattribute__"=some .slot:=by decide +kernel
 have k2:splitId "BaseException.__getattribute__"=some ("BaseException","__getattribute__"):=by decide +kernel
 have ha:=F.args_bexc_ga (.ref x) nameV;have L0:=I.looks (M:=M);have L1:=looks_mroIn (M:=M) X e.mb;simp only[checkBuiltinCall,k1,k2];refine jrR ?_;unfold isInstance;obtain⟨hh,g,d,t,os⟩:=s;refine jrR (L0.at (L1.at ?_));repeat (first | wp_step)
 exact hq
theorem jjF {M:Model}{h:Heap}(X:K.In h)(e:ECls K C)(x:Addr):Looks M h (Builtin.ObjectAttr.find (.ref x) (.ref C) "__class__") (.bind (.builtin "getset_descriptor.__get__") (.builtin "object.__class__")):=by
 have a1:=looks_findIn (M:=M) X e.ca;have a2:=looks_specialIn (M:=M) X e.gs;have a3:=looks_takesIn (M:=M) X e.tk;refine a1.andThen (Looks.andThen (a:=some (Value.builtin "getset_descriptor.__get__")) (by unfold Builtin.ObjectAttr.getOf;exact a2) ?_)
 exact Looks.andThen (a:=some (.builtin "getset_descriptor.__get__",.builtin "object.__class__")) (a3.andThen Looks.now) (Looks.tag Looks.now)
theorem jlV {R:Result->Shared->Prop}(X:K.In s.heap)(e:ECls K C)(I:TyAt s.heap x C)(h:R (.ok (.ret (.ref C))) s) :
  codeAny (model prog w) A (.call (.builtin "getset_descriptor.__get__") ⟨[.builtin "object.__class__",.ref x,.ref C],[]⟩) R s:=by
 have T0:=I.looks (M:=model prog w);have T1:=looks_mroIn (M:=model prog w) X e.mo;obtain⟨hp,ge,dr,tk,os⟩:=s;refine codeAny_call_builtin KF.slot_gs.plain KF.entry_gs ?_;refine KF.slot_gs.check _ _ _ _ _ _ _ _ KF.type_class (KF.args_gs _ _ _) ?_;unfold Builtin.«getset_descriptor.__get__»;unfold descrGet;rw[dga_obj];refine jrR (jrS ?_);unfold descrGetter;unfold descrCheckInstance;unfold descrNameAndClass;unfold isInstance;simp only[KF.owner_class];repeat lk
 refine⟨Code.quiet_builtin _ (by decide +kernel),codeAny_builtin KF.entry_class ?_⟩
 unfold Builtin.«object.__class__»;unfold shownTypeOf;repeat lk
 exact h
theorem jhD {Q:Option Value->Shared->Prop}(X:K.In s.heap)(e:ECls K C)(I:TyAt s.heap x C)(h:Q (some (.ref C)) { s with toks:=s.toks + 1 }):wpAny (model prog w) A (getAttr? (.ref x) "__class__") Q E s:=by
 obtain⟨hh,g,d,t,os⟩:=s;have L0:=I.looks (M:=model prog w);have L1:=looks_findIn (M:=model prog w) X e.ga;have L2':=looks_findIn (M:=model prog w) X e.hk;have L3:=jjF (M:=model prog w) X e x;unfold getAttr? getAttrBy? getAttrBy;refine jrR (wpAny_mkText (jrR (wpAny_attempt ?_)));refine jrU (jrR (L0.at (jrR (L1.at ?_))));have hx2:(Value.builtin "BaseException.__getattribute__" == Value.builtin "object.__getattribute__")=false:=by decide +kernel
 simp only[hx2,Bool.and_false,jr7,if_false];unfold getAttrByItsOwn hookBefore;simp only[onTheHeap,if_true];refine jrR (L2'.at (jrR (wpAny_attempt (jrU ?_))));unfold callGetattribute boundAndCalled;simp only[Bool.false_and,jr7,if_false];rw[F.attr_ValueError.ga.bind];refine jrR (jrS ?_);refine wpAny_call (codeAny_call_builtin F.attr_ValueError.ga.plain F.entry_bexc_ga (jhC X e I ?_));unfold Builtin.«object.__getattribute__»;refine jrR (wpAny_of_eq (a:=(Value.ref x,[Value.str "__class__" t])) rfl ?_);dsimp only;refine jrR (wpAny_of_eq (a:=("__class__":Str)) rfl ?_);refine jrR (L0.at (jrR (L3.at ?_)));dsimp only;unfold Builtin.ObjectAttr.bindTo;dsimp only;refine jrR (jrU (wpAny_call (jlV (s:=⟨hh,g,d,t + 1,os⟩) X e I ?_)));dsimp only;refine jrS ?_;dsimp only;exact jrS (jrS h)
theorem ECls.isTy {M:Model}{h:Heap}(e:ECls K C)(X:K.In h):Looks M h (isType (.ref C)) true:=by
 obtain⟨cd,hcd⟩:=Option.isSome_iff_exists.mp e.cd;unfold clsIn at hcd;split at hcd
 ·rename_i ho;intro A' Q' E' s' k q;unfold isType;unfold loadHead;exact jrR (wpAny_loadPart (k _ _ (X _ _ ho)) (jrS q))
 ·cases hcd
theorem jjG (e:ECls K C):KitX K (.ref x) (.ref C) (fun h=>TyAt h x C) where
 ty:=fun _ _ _ I=>I.looks
 it:=fun _ _ X _=>e.isTy X
 ne:=fun h tp dd its n sl X htp=>by
  obtain⟨cd,hcd⟩:=Option.isSome_iff_exists.mp e.cd;refine Bool.eq_false_iff.mpr fun q=>?_;have z:C=tp:=Value.ref.inj (beq_iff_eq.mp q);subst z;unfold clsIn at hcd;split at hcd
  ·rename_i ho;cases (X _ _ ho).symm.trans htp
  ·cases hcd
 ca:=fun X I k=>jhD X e I k
theorem jeX {C':Addr}{b:Bool}{Q:Bool->Shared->Prop}(X:K.In s.heap)(e':ECls K C')(I:TyAt s.heap x C)(hs:subIn K (.ref C) (.ref C')=some b)(hq:Q b s):wpAny (model prog w) A (excMatches (.ref x) (.ref C')) Q E s:=by
 have L0:=I.looks (M:=model prog w);have L1:=looks_typeIn (M:=model prog w) X e'.ty;have L2':=looks_mroIn (M:=model prog w) X e'.mb;have L3:=looks_subIn (M:=model prog w) X hs;have f:=tc_notTuple;have L4:=e'.isTy (M:=model prog w) X;obtain⟨hh,g,d,t,os⟩:=s;unfold excMatches;unfold isInstance;refine jrR (jrR (L1.at (wpAny_of_eq f ?_)));simp only[jr7,if_false];refine jrR (jrS ?_);simp only[List.forIn_cons,List.forIn_nil];unfold isExcClass;refine jrR (jrR (jrR (jrR (L4.at ?_))));simp only[if_true];refine L2'.at ?_;simp only[Bool.not_true,jr7,if_false];refine jrS (jrS (jrR (L0.at ?_)));refine jrR (jrR (jrR (L3.at ?_)));cases b with
 |true=>exact jrS (jrS (jrS hq))
 |false=>exact jrS (jrS (jrS hq))
end
end L2
namespace L2
open PySem PySem.Spec PyProof.Rows PySem.Builtin.SmallTypes
noncomputable def Sit (b:Bool)(h:Heap)(it l:Addr)(k:Nat)(xs:Array Value):Prop:=(b=true/\h.IsListIter it l k/\h.IsList l xs)\/(b=false/\h.IsTupleIter it l k/\h.IsTuple l xs)
noncomputable def Sq (b:Bool)(h:Heap)(l:Addr)(xs:Array Value):Prop:=(b=true/\h.IsList l xs)\/(b=false/\h.IsTuple l xs)
theorem Sit.at {b:Bool}{h h':Heap}{it l:Addr}{k:Nat}{xs:Array Value}(S:Sit b h it l k xs)(h1:∀o,h.get? it=some o->h'.get? it=some o)(h2:∀o,h.get? l=some o->h'.get? l=some o):Sit b h' it l k xs:=by
 rcases S with ⟨e,⟨o,a,r⟩,⟨o',a',r'⟩⟩ | ⟨e,⟨o,a,r⟩,⟨o',a',r'⟩⟩
 ·exact .inl ⟨e,⟨o,h1 o a,r⟩,⟨o',h2 o' a',r'⟩⟩
 ·exact .inr ⟨e,⟨o,h1 o a,r⟩,⟨o',h2 o' a',r'⟩⟩
theorem Sit.obj {b:Bool}{h:Heap}{it l:Addr}{k:Nat}{xs:Array Value}(S:Sit b h it l k xs):(∃o,h.get? it=some o/\∀v,o.data≠.cell v)/\∃o,h.get? l=some o/\(o.cls=.type "list"\/o.cls=.type "tuple"):=by
 rcases S with ⟨_,⟨o,a,_,d⟩,⟨o',a',c,_⟩⟩ | ⟨_,⟨o,a,_,d⟩,⟨o',a',c,_⟩⟩
 ·exact⟨⟨o,a,fun v z=>by rw[d]at z;cases z⟩,⟨o',a',.inl c⟩⟩
 ·exact⟨⟨o,a,fun v z=>by rw[d]at z;cases z⟩,⟨o',a',.inr c⟩⟩
section
variable {prog:Program}{w:World}{A:Around}{E:Value->Shared->Prop}{s:Shared}
structure Zs (b1 b2:Bool)(h:Heap)(z TI TO i1 i2 l1 l2:Addr)(k:Nat)(xs ys:Array Value)(f:Value):Prop where
 zi:IsZip h z TI TO f
 ti:IsPair h TI (.ref i1) (.ref i2)
 to_:∃a b,IsPair h TO a b
 s1:Sit b1 h i1 l1 k xs
 s2:Sit b2 h i2 l2 k ys
end
end L2
namespace L2
open PySem PySem.Spec PyProof.Rows
noncomputable def itO (b:Bool)(l:Addr):Obj:=if b then { cls:=.type "list_iterator",data:=.fields #[.ref l,.int 0 0] } else { cls:=.type "tuple_iterator",data:=.fields #[.ref l,.int 0 0] }
theorem Sq.push {b:Bool}{h:Heap}{l:Addr}{xs:Array Value}(S:Sq b h l xs)(o:Obj):Sq b (h.push o) l xs:=by
 rcases S with ⟨e,L⟩ | ⟨e,L⟩
 ·exact .inl ⟨e,L.push o⟩
 ·exact .inr ⟨e,L.push o⟩
theorem Sit.new {b:Bool}{h h':Heap}{it l:Addr}{xs:Array Value}(S:Sq b h l xs)(e:h'.get? it=some (itO b l))(k:∀o,h.get? l=some o->h'.get? l=some o):Sit b h' it l 0 xs:=by
 rcases S with ⟨z,⟨o,a,r⟩⟩ | ⟨z,⟨o,a,r⟩⟩
 ·subst z;exact .inl ⟨rfl,⟨_,e,rfl,rfl⟩,⟨o,k o a,r⟩⟩
 ·subst z;exact .inr ⟨rfl,⟨_,e,rfl,rfl⟩,⟨o,k o a,r⟩⟩
section
variable {prog:Program}{w:World}{A:Around}{E:Value->Shared->Prop}{s:Shared}
end
noncomputable def SqB (K:PySem.W.Frag)(b:Bool)(H:Hp)(a:Addr)(xs:List V):Prop:=(b=true/\SqL K H a xs)\/(b=false/\SqT K H a xs)
section
variable {X:Cx}{pins:List (Addr×Obj)}{σ:St}{H:Hp}{s:Shared}{b:Bool}{a:Addr}{xs ys:List V}
end
structure Zi (b1 b2:Bool)(h:Heap)(z TI TO i1 i2 l1 l2:Addr)(k:Nat)(f:Value):Prop where
 zi:IsZip h z TI TO f
 ti:IsPair h TI (.ref i1) (.ref i2)
 to_:∃a b,IsPair h TO a b
 s1:(b1=true/\h.IsListIter i1 l1 k)\/(b1=false/\h.IsTupleIter i1 l1 k)
 s2:(b2=true/\h.IsListIter i2 l2 k)\/(b2=false/\h.IsTupleIter i2 l2 k)
section
variable {b1 b2:Bool}{h h':Heap}{z TI TO i1 i2 l1 l2:Addr}{k:Nat}{f:Value}{xs ys:Array Value}
theorem jk5 {b:Bool}{it l:Addr}(q:(b=true/\h.IsListIter it l k)\/(b=false/\h.IsTupleIter it l k))(S:Sq b h l xs):Sit b h it l k xs:=by
 rcases q with ⟨e,q⟩ | ⟨e,q⟩
 ·rcases S with ⟨e',S⟩ | ⟨e',S⟩
  ·exact .inl ⟨e,q,S⟩
  ·rw[e]at e';cases e'
 ·rcases S with ⟨e',S⟩ | ⟨e',S⟩
  ·rw[e]at e';cases e'
  ·exact .inr ⟨e,q,S⟩
theorem Zi.zs (S:Zi b1 b2 h z TI TO i1 i2 l1 l2 k f)(S1:Sq b1 h l1 xs)(S2:Sq b2 h l2 ys):Zs b1 b2 h z TI TO i1 i2 l1 l2 k xs ys f:=⟨S.zi,S.ti,S.to_,jk5 S.s1 S1,jk5 S.s2 S2⟩
theorem Zi.at (S:Zi b1 b2 h z TI TO i1 i2 l1 l2 k f)(q:∀b∈[z,TI,TO,i1,i2],∀o,h.get? b=some o->h'.get? b=some o):Zi b1 b2 h' z TI TO i1 i2 l1 l2 k f:=by
 obtain⟨zi,ti,⟨a,b,to_⟩,s1,s2⟩:=S;refine⟨q z (by simp) _ zi,q TI (by simp) _ ti,⟨a,b,q TO (by simp) _ to_⟩,?_,?_⟩
 ·rcases s1 with ⟨e,o,r1,r2⟩ | ⟨e,o,r1,r2⟩
  ·exact .inl ⟨e,o,q i1 (by simp) o r1,r2⟩
  ·exact .inr ⟨e,o,q i1 (by simp) o r1,r2⟩
 ·rcases s2 with ⟨e,o,r1,r2⟩ | ⟨e,o,r1,r2⟩
  ·exact .inl ⟨e,o,q i2 (by simp) o r1,r2⟩
  ·exact .inr ⟨e,o,q i2 (by simp) o r1,r2⟩
end
end L2
namespace L2
open PySem PySem.Spec PyProof.Rows
noncomputable def FlyA (B:Heap)(l:List Env)(e:Addr)(cls a0:Value)(h:Heap):Prop:=∃fl,B.StaysIn h/\B.get? e=none/\h.FunFrames B l/\h.TracedAtW B e cls a0 fl
section
variable {B h:Heap}{l:List Env}{e:Addr}{cls a0:Value}
theorem FlyA.of (x:Heap.FlyingW B l e cls a0 h):FlyA B l e cls a0 h:=⟨.none,x⟩
theorem FlyA.held {L:Addr}(x:Heap.HeldW B l e cls a0 L h):FlyA B l e cls a0 h:=⟨_,x⟩
theorem FlyA.stays (x:FlyA B l e cls a0 h):B.StaysIn h:=let ⟨_,k,_⟩:=x;k
theorem FlyA.new (x:FlyA B l e cls a0 h):B.get? e=none:=let ⟨_,_,k,_⟩:=x;k
end
section
variable {M:Model}{A:Around}{E:Value->Shared->Prop}{s:Shared}{B:Heap}{e:Addr}{cls a0:Value}
theorem jfM {env env':Env}{outer:List Env}{L:Addr}{Q:Unit->Shared->Prop}(hfr:A.frames=some (env::outer))(hf:env.frame=some L)(hf':env'.frame=some L)(x:FlyA B (env::outer) e cls a0 s.heap)
  (hQ:∀h',Heap.HeldW B (env::outer) e cls a0 L h'->s.heap.UpToSlots h'->Q () { s with heap:=h' }):wpAny M A (noteFrame (.ref e) env') Q E s:=by
 have ee:noteFrame (.ref e) env'=noteFrame (.ref e) env:=by
  unfold noteFrame PySem.frameOf;rw[hf,hf']
 rw[ee];obtain⟨fl,hb,hn,hl,ht⟩:=x;by_cases hfl:(fl == rawInt L)=true
 ·have hfl:fl=rawInt L:=by simpa using hfl
  subst hfl;exact wpAny_noteFrame_againW hf ht (hQ s.heap ⟨hb,hn,hl,ht⟩ (Heap.UpToSlots.refl _))
 ·obtain⟨oe,vs,T,oT,ts,he,⟨hcls,h0⟩,hd,h1,hnT,hTe,hT,hdT,h3⟩:=ht;subst hcls;unfold noteFrame;simp only[hf];refine jrR (jrV he hd h1 ?_);rw[if_pos (show (Value.ref T != Value.none)=true from by simp)]
  refine jrR (jrV hT hdT h3 ?_);rw[if_neg hfl];refine jrR (wpAny_setField hT hdT (Array.getElem?_eq_some_iff.mp h3).1 ?_);have other:∀b,b≠T->(s.heap.update T (Obj.mapFields (·.setIfInBounds 3 Value.none))).get? b=s.heap.get? b:=fun b hb=>jr0 _ _ (Ne.symm hb);have noRec:∀b o,s.heap.get? b=some o->(∀vs,o.data≠.fields vs)->b≠T:=fun b o hb hnf q=>by
   rw[q,hT]at hb;injection hb with hb;subst hb;exact hnf ts hdT
  exact wpAny_entryW hfr (hl.of_keeps fun b o hb hnf=>⟨o,(other b (noRec b o hb hnf)).trans hb,rfl⟩) hf ((other e (Ne.symm hTe)).trans he)
   (fun b o hbo=>(other b fun q=>by rw[q,hnT]at hbo;cases hbo).trans (hb b o hbo)) hn hd (Array.getElem?_eq_some_iff.mp h1).1 h0
   fun h' ⟨x1,x2,x3,x4⟩=>hQ h' ⟨x1,hn,x2,x3⟩ fun b o hb hnf=>x4 b o ((other b (noRec b o hb hnf)).trans hb) hnf
theorem jjH {l:List Env}{w:String}{env':Env}{Q:Value->Shared->Prop}(x:FlyA B l e cls a0 s.heap)(hE:∀h',FlyA B l e cls a0 h'->s.heap.UpToSlots h'->E (.ref e) { s with heap:=h' }):wpAny M A (PySem.passOn w (.ref e) env':Sem Value) Q E s:=by
 obtain⟨fl,hb,hn,hl,oe,vs,T,oT,ts,he,hc,hd,h1,hnT,hTe,hT,hdT,h3⟩:=x;have hsz3:3 < ts.size:=(Array.getElem?_eq_some_iff.mp h3).1;have other:∀b,b≠T->(s.heap.update T (Obj.mapFields (·.setIfInBounds 3 (env'.frame.elim Value.none fun f=>rawInt f)))).get? b=s.heap.get? b:=
  fun b hb=>jr0 _ _ (Ne.symm hb)
 have noRec:∀b o,s.heap.get? b=some o->(∀vs,o.data≠.fields vs)->b≠T:=fun b o hb hnf q=>by
  rw[q,hT]at hb;injection hb with hb;subst hb;exact hnf ts hdT
 unfold PySem.passOn;refine jrR (jrV he hd h1 ?_);rw[if_neg (show ¬ ((Value.ref T == Value.none)=true)from by simp)]
 unfold setFlight;refine jrR (jrR (jrV he hd h1 ?_));rw[if_pos (show (Value.ref T != Value.none)=true from by simp)]
 refine wpAny_setField hT hdT hsz3 (wpAny_throw (hE _ ⟨env'.frame.elim Value.none fun f=>rawInt f,fun b o hbo=>(other b fun q=>by rw[q,hnT]at hbo;cases hbo).trans (hb b o hbo),hn,
  hl.of_keeps fun b o hb hnf=>⟨o,(other b (noRec b o hb hnf)).trans hb,rfl⟩,
  oe,vs,T,_,_,(other e (Ne.symm hTe)).trans he,hc,hd,h1,hnT,hTe,Heap.get?_update_self _ hT (Obj.isFreed_of_fields (Obj.data_mapFields hdT _)),Obj.data_mapFields hdT _,by simp[hsz3]⟩
  fun b o hb hnf=>⟨o.slots,(other b (noRec b o hb hnf)).trans hb⟩))
theorem jfN {C:Addr}{h h':Heap}:∀{l:List Env},h.FunFrames B l->C ∉ l.filterMap (·.frame)->Heap.SameBut C h h'->h'.FunFrames B l
 |[],_,_,_=>trivial
 |env::r,⟨k,⟨L,o,hf,hB,ho,hd⟩,t⟩,hC,sb=>by
  rw[jrG,hf]at hC;exact⟨k,⟨L,o,hf,hB,(sb.2 L fun z=>hC (by simp[z])).trans ho,hd⟩,jfN t (fun z=>hC (jrr _ z)) sb⟩
theorem FlyA.but {l:List Env}{C:Addr}{h h':Heap}{m:Str->Option Value}(x:FlyA B l e cls a0 h)(hn:h.Ns C m)(hB:B.get? C=none)(hC:C ∉ l.filterMap (·.frame))(sb:Heap.SameBut C h h'):FlyA B l e cls a0 h':=by
 obtain⟨fl,k1,k2,k3,oe,vs,T,oT,ts,he,hc,hd,h1,hnT,hTe,hT,hdT,h3⟩:=x;obtain⟨oC,es,ep,hoC,hdC,_⟩:=hn;have ne:∀{b:Addr}{o:Obj}{ws:Array Value},h.get? b=some o->o.data=.fields ws->b≠C:=fun {b o ws} q1 q2 z=>by
  rw[z,hoC]at q1;cases q1;rw[hdC]at q2;cases q2
 exact⟨fl,fun b o q=>(sb.2 b fun z=>by rw[z,hB]at q;cases q).trans (k1 b o q),k2,jfN k3 hC sb,oe,vs,T,oT,ts,(sb.2 e (ne he hd)).trans he,hc,hd,h1,hnT,hTe,(sb.2 T (ne hT hdT)).trans hT,hdT,h3⟩
end
end L2
namespace L2
open PySem PySem.Spec PyProof.Rows
open AutoSeq1 (wpAny_loadPart')
noncomputable abbrev eN (h:Heap)(b:Bool)(l:Addr):Heap:=(h.push (itO b l)).push { cls:=.type "enumerate",data:=.fields #[.none,.bool false,.ref h.objs.size,rawInt 0,.none,.none] }
structure Ei (b:Bool)(h:Heap)(e it l:Addr)(k:Nat):Prop where
 en:∃old,IsEnum h e it k old
 s1:(b=true/\h.IsListIter it l k)\/(b=false/\h.IsTupleIter it l k)
theorem jlW {X:Cx}:OpR X (binaryOp .Mult) (fun x y H Q=>∃l k xs,x=.ref l/\y=.int k/\SqL X.K H l xs/\0<=k/\k<=16777216/\xs.length * k.toNat<=sizeLine/\∀p,H p=none->Q (.ref p) (upd H p (.lst (List.replicate k.toNat xs).flatten))):=by
 intro pins s σ H x y v u Q I rx ry h;obtain⟨l,k,xs,rfl,rfl,hH,h1,h2,hz,q⟩:=h;cases rx;obtain⟨t,rfl⟩:=ry;obtain⟨its,r,⟨⟨cls,dd,data,sl⟩,n,e,hc,hdd,hd⟩,_⟩:=I.list hH;simp only at hc hd;subst hc hd;have hl:=r.length;have hlen:its.toArray.size * k.toNat<=sizeLine:=by rw[jru,<-hl];exact hz
 have hcap:¬ its.toArray.size * k.toNat > (2 ^ 63 - 1) / 8:=by
  have:(sizeLine:Nat)<=(2 ^ 63 - 1) / 8:=by decide
  omega
 have hfit:¬ (!Builtin.List.listFitsIndex k)=true:=by
  rw[fitsIndex_both (by omega) (by omega)]
  exact jr8
 have hlong:¬ Builtin.List.listTooLong (its.toArray.size * k.toNat)=true:=by
  rw[jjB hlen];exact jr8
 have hnew:List.foldl (fun x1 x2=>x1++x2) #[] (List.replicate (if its.toArray.isEmpty=true then 0 else k.toNat) its.toArray)=(List.replicate k.toNat its).flatten.toArray:=by
  have f0:=fun m=>jed its m [];simp only[List.nil_append]at f0;rw[f0];cases its with
  |nil=>simp
  |cons a r'=>rw[if_neg (by simp)]
 refine wpAny_binaryOp_repeat_ref (T:="list") (U:="int") (by decide) ⟨_,e,rfl⟩ (fun s'=>typeIs_int s' k t) noFill_list_mul F.fills_int_mul F.slot_int_rmul repeat_list F.slot_int_index.lookup
  (call_meets F.slot_int_rmul (typeIs_int s k t) F.entry_int_rmul (F.args_int_rmul_2 _ _) (lm_int_rmul_list_any k t l its.toArray n dd sl)
   ⟨e,rfl,⟨_,e,rfl⟩,call_meets F.slot_list_mul ⟨_,e,rfl⟩ F.entry_list_mul (F.args_list_mul_2 _ _) (lm_list_mul_any l its.toArray n dd sl k t hfit hcap hlong) ⟨e,?_⟩⟩)
 rw[hnew];exact⟨.ref _,_,I.lnew (t':=s.toks) (r.rep k.toNat) (by rw[jlS,Nat.mul_comm];exact hz),rfl,q _ I.fresh⟩
end L2
namespace L2
open PySem PySem.Spec PyProof.Rows
section
variable {X:Cx}
theorem joa:SlR X (fun x lo hi H Q=>∃z,x=.str z/\z.length<=sizeLine/\Q (.str (Txt.slice z lo hi)) H):=by
 intro pins s σ H x v vl vu lo hi sl Q I rx hs pl pu h;obtain⟨z,rfl,hz,q⟩:=h;obtain⟨t,rfl⟩:=rx;have fin:∀t' k,EP X pins σ Q (.str (Txt.slice z lo hi) t') { s with toks:=k }:=fun t' k=>⟨.str _,H,I.tok k,⟨t',rfl⟩,q⟩
 refine⟨"str",_,F.slot_str_getitem.lookup,typeIs_str _ _ _,?_⟩;have le:=jr4 (Txt.slice_le z lo hi) hz;cases pl with
 |none=>
  cases pu with
  |none=>exact wpAny_getItem_str_slice (l:=none) (u:=none) (st:=none) hs rfl (post_val_or_str ⟨le,fin⟩)
  |int j u=>exact wpAny_getItem_str_slice (l:=none) (u:=some (j,u)) (st:=none) hs rfl (post_val_or_str ⟨le,fin⟩)
 |int i r=>
  cases pu with
  |none=>exact wpAny_getItem_str_slice (l:=some (i,r)) (u:=none) (st:=none) hs rfl (post_val_or_str ⟨le,fin⟩)
  |int j u=>exact wpAny_getItem_str_slice (l:=some (i,r)) (u:=some (j,u)) (st:=none) hs rfl (post_val_or_str ⟨le,fin⟩)
end
noncomputable def Itx (z:Str):It:=⟨fun i _=>i < z.cps.size,fun i H x H'=>H'=H/\∃c,z.cps[i]?=some c/\x=.str ⟨#[c]⟩,fun i _=>i=z.cps.size⟩
theorem jeg {P:Program}{w:World}{K:PySem.W.Frag}{tg:Expr}{it:Addr}{z:Str}{t:Tok}{ty:String}
  (W:∀A':Around,A'.handled=none->Walks P w A' it [it] [it] z.cps.size (SignAt z) (fun i h=>h.IsStrIter it ty z t i))
  (hS:∀(A:Around) (i:Nat) (s:Shared) (Q:Value->Shared->Prop) (E:Value->Shared->Prop),s.heap.IsStrIter it ty z t i->Q (.ref it) s->wpAny (model P w) A (pyIter (.ref it)) Q E s)
  (hn:["enumerate","zip","dict_itemiterator","dict_reverseitemiterator","odict_iterator","itertools.zip_longest","itertools.pairwise"].contains ty=false) :
  Turn P w K tg (Itx z) [it] it (fun i h=>h.IsStrIter it ty z t i) where
 mem:=by simp
 obj:=fun i h st b hb=>by
  have e:b=it:=by simpa using hb
  subst e;obtain⟨o,e,c,d⟩:=st;exact⟨o,e,fun v z=>by rw[d]at z;cases z⟩
 keep:=fun i h h' st k=>let ⟨o,e,r⟩:=st;⟨o,k it (by simp) o e,r⟩
 item:=by
  intro X hP hw hK hc i pins s σ H E I hf st hg;subst hP hw hK;obtain⟨f0,f1,f2,f3,f4,f5⟩:=hf it (by simp)
  refine(W X.A (I.ok.hd hc)).item i s _ _ hg st fun v h' tk hv st' kk=>?_;obtain⟨c,u,hx,rfl⟩:=hv;have I1:Inv X pins σ H { s with heap:=h',toks:=tk }:=I.turned (fun b o hb e=>kk b o (by simpa using hb) e) f0 f1 f3 f4 f5
  obtain⟨o,e,oc,d⟩:=id st';exact⟨_,rfl,jjt (s:={ s with heap:=h',toks:=tk }) e oc d hn ⟨.str ⟨#[c]⟩,H,I1,⟨u,rfl⟩,⟨rfl,c,hx,rfl⟩,st',fun b hb=>(hf b hb).1⟩⟩
 done:=by
  intro X hP hw hK hc i pins s σ H E I hf st hg;subst hP hw hK;obtain⟨f0,f1,f2,f3,f4,f5⟩:=hf it (by simp)
  have hg:i=z.cps.size:=hg;subst hg;exact(W X.A (I.ok.hd hc)).done s _ _ st fun h' tk eb=>⟨rfl,I.turned (fun b o hb e=>eb b o (by simpa using hb) e) f0 f1 f3 f4 f5⟩
 self:=hS
section
variable {X:Cx}
theorem jgB:MtR X "str.isupper" (fun x xs H Q=>∃z,x=.str z/\xs=[]/\Q (.bl (Txt.isupper z)) H):=by
 intro pins s σ H x xs v us Q I rx rs h;obtain⟨z,rfl,rfl,q⟩:=h;obtain⟨t,rfl⟩:=rx;cases rs;exact SC.isupper ⟨.bl _,H,I,rfl,q⟩
theorem jjI:MtR X "str.count" (fun x xs H Q=>∃z y,x=.str z/\xs=[.str y]/\Q (.int (Txt.count z y)) H):=by
 intro pins s σ H x xs v us Q I rx rs h;obtain⟨z,y,rfl,rfl,q⟩:=h;obtain⟨t,rfl⟩:=rx;obtain⟨_,rfl,t',rfl⟩:=jcd rs;exact SC.count ⟨.int _,H,I.tok _,⟨_,rfl⟩,q⟩
theorem jeh:∀{l:List (Str×Tok)}{ys:List Str},l.map (·.1)=ys->Vals (ys.map V.str) (strValues l)
 |[],_,rfl=>.nil
 |(x,t)::l,_,rfl=>.cons ⟨t,rfl⟩ (jeh (l:=l) rfl)
theorem jhE:∀{ys:List Str}{us:List Value},Vals (ys.map V.str) us->StrsAre us ys
 |[],us,r=>by cases r;exact .nil
 |y::ys,us,r=>by
  cases r with
  |cons r1 r2=>
   obtain⟨t,rfl⟩:=r1;exact .cons y t (jhE r2)
open Builtin.Str in
theorem jjJ:MtR X "str.split" (fun x xs H Q=>∃z y,x=.str z/\xs=[.str y]/\(y.length == 0)=false/\z.length<=sizeLine/\(Txt.split z y).length<=sizeLine/\∀p,H p=none->Q (.ref p) (upd H p (.lst ((Txt.split z y).map V.str)))):=by
 intro pins s σ H x xs v us Q I rx rs h;obtain⟨z,y,rfl,rfl,hy,hz,hl,q⟩:=h;obtain⟨t,rfl⟩:=rx;obtain⟨_,rfl,u,rfl⟩:=jcd rs;have fin:∀(l:List (Str×Tok)) (k:Nat),l.map (·.1)=Txt.split z y->EP X pins σ Q (.ref s.heap.objs.size) { s with heap:=s.heap.push { cls:=.type "list",data:=.seq (strValues l).toArray },toks:=k }:=fun l k e=>
  ⟨.ref _,_,I.lnew (t':=k) (jeh e) (by rw[jrz];exact hl),rfl,q _ I.fresh⟩
 cases h1:(decide (z.length < y.length) || decide (strKind z < strKind y))
 ·cases hf:(occurrences z y 0 z.length (z.length + 1)).isEmpty
  ·have e:Txt.split z y=partsBetween z (occurrences z y 0 z.length (z.length + 1)) y.length:=(if_neg (ne_true_of_eq_false h1)).trans (if_neg (ne_true_of_eq_false hf));refine call_meets PySem.F.slot_str_split (typeIs_str _ _ _) PySem.F.entry_str_split (PySem.F.args_str_split_2 _ _) (meets_str_split_sep z y t u h1 hy hf hz (by rw[<-e];exact hl)) ?_
   show wants _ _ _ { s with toks:=_,heap:=s.heap.push { cls:=.type "list",data:=.seq (strsFrom s.toks (partsBetween z (occurrences z y 0 z.length (z.length + 1)) y.length)).toArray } }
   rw[strsFrom_eq];exact fin (numbered s.toks _) _ ((numbered_texts _ _).trans e.symm)
  ·exact call_meets PySem.F.slot_str_split (typeIs_str _ _ _) PySem.F.entry_str_split (PySem.F.args_str_split_2 _ _) (meets_str_split_not_found z y t u h1 hy hf)
    (fin [(z,t)] s.toks ((if_neg (ne_true_of_eq_false h1)).trans (if_pos hf)).symm)
 ·exact call_meets PySem.F.slot_str_split (typeIs_str _ _ _) PySem.F.entry_str_split (PySem.F.args_str_split_2 _ _) (meets_str_split_cannot_occur z y t u h1)
   (fin [(z,t)] s.toks (if_pos h1).symm)
theorem jlX:MtR X "str.join" (fun x xs H Q=>∃z p ys,x=.str z/\xs=[.ref p]/\SqL X.K H p (ys.map V.str)/\(ys.map (·.length)).sum + ys.length * z.length<=16777216/\Q (.str (Txt.join z ys)) H):=by
 intro pins s σ H x xs v us Q I rx rs h;obtain⟨z,p,ys,rfl,rfl,hq,hl,q⟩:=h;obtain⟨t,rfl⟩:=rx;obtain⟨_,rfl,rr⟩:=jcd rs;cases rr;obtain⟨its,r,pl,_⟩:=I.list hq;exact join_list pl.isList (jhE (by simpa using r)) hl fun t' k=>⟨.str _,H,I.tok k,⟨t',rfl⟩,q⟩
theorem jhF:CallR X (.type "str") (fun xs H Q=>∃i,xs=[.int i]/\i.natAbs.log2 < 1920/\Q (.str (Str.ofString (toString i))) H):=by
 intro pins s σ H xs us Q I r h;obtain⟨i,rfl,hi,q⟩:=h;obtain⟨_,rfl,t,rfl⟩:=jcd r;exact PySem.P.str_of_int hi ⟨.str _,H,I.tok _,⟨_,rfl⟩,q⟩
noncomputable def jlY (X:Cx):List V->Hp->VK->Prop:=fun xs H Q=>∃n:Int,xs=[.int n]/\∀I,H I=none->Q (.ref I) (upd H I (.rng 0 n))
noncomputable def jlZ (X:Cx):List V->Hp->VK->Prop:=fun xs H Q=>∃I n,xs=[.ref I]/\H I=some (.rng 0 n)/\0<=n/\n<=16777216/\∀l,H l=none->Q (.ref l) (upd H l (.lst ((List.range n.toNat).map fun (k:Nat)=>V.int k)))
theorem jhG:CallR X (.type "range") (jlY X):=by
 intro pins s σ H xs us Q I r h;obtain⟨n,rfl,q⟩:=h;obtain⟨_,rfl,t,rfl⟩:=jcd r;exact call_range_1 ⟨.ref _,_,I.laid (o:=.rng 0 n) (fun b o e=>jrX _ e) (jr1 _) ⟨_,_,_,jrZ _ rfl⟩,rfl,q _ I.fresh⟩
theorem jcJ:∀{xs:List V}{us:List Value},xs.length=us.length->(∀(i:Nat) x,xs[i]?=some x->∃u,us[i]?=some u/\RelV x u)->Vals xs us
 |[],[],_,_=>.nil
 |[],_::_,h,_=>by simp at h
 |_::_,[],h,_=>by simp at h
 |x::xs,u::us,h,k=>by
  obtain⟨u',e,r⟩:=k 0 x rfl;cases e;exact .cons r (jcJ (by simpa using h) fun i y hy=>k (i + 1) y hy)
theorem jjK {n:Nat}{acc:Array Value}(h:ItemsOf (fun i v=>∃t,v=Value.int (0 + (i:Int) * 1) t) acc n):Vals ((List.range n).map fun (k:Nat)=>V.int k) acc.toList:=by
 obtain⟨h1,h2⟩:=h;refine jcJ ?_ fun i x hx=>?_
 ·simp[h1]
 ·rw[jrw]at hx;cases e:(List.range n)[i]? with
  |none=>rw[e]at hx;cases hx
  |some k=>
   rw[e]at hx;obtain⟨a1,a2⟩:=List.getElem?_eq_some_iff.mp e;rw[List.getElem_range]at a2;subst a2;cases hx;have hi:i < acc.size:=by rw[h1];simpa using a1
   obtain⟨t,e2⟩:=h2 i acc[i] (by simp[hi])
   exact⟨acc[i],by simp[hi],t,by rw[e2];simp⟩
theorem jhH (hc:X.calm=true):CallR X (.type "list") (jlZ X):=by
 intro pins s σ H xs us Q I r h;obtain⟨J,n,rfl,hJ,h0,h1,q⟩:=h;obtain⟨_,rfl,rx⟩:=jcd r;cases rx;obtain⟨t,u,v,e⟩:=I.hok J _ hJ;have hn:Builtin.Range.rangeSize 0 n 1=(n.toNat:Nat):=by rw[rangeSize_one];split <;> omega
 refine call_list_range (n:=n.toNat) (I.ok.hd hc) e (small_one (by omega) (by omega) (by omega) (by omega)) hn (by omega) fun h' tk acc c' kp hS it=>?_
 have hv:=jjK it;refine⟨.ref _,_,I.laid (o:=.lst ((List.range n.toNat).map fun (k:Nat)=>V.int k)) (t':=tk) kp (jr1 _) ⟨?_,acc.toList,c',hv,by rw[hS,Array.toArray_toList]⟩,rfl,q _ I.fresh⟩
 rw[jrz,List.length_range,sizeLine_eq];omega
theorem jhI:CallR X (.type "int") (fun xs H Q=>∃z n,xs=[.str z]/\PySem.intText? z=some n/\z.length<=640/\Q (.int n) H):=by
 intro pins s σ H xs us Q I r h;obtain⟨z,n,rfl,h1,h2,q⟩:=h;obtain⟨_,rfl,t,rfl⟩:=jcd r;exact PySem.W.KIN.call_text h1 h2 ⟨.int _,H,I.tok _,⟨_,rfl⟩,q⟩
end
end L2
namespace Tx
open PySem
noncomputable def jl (c:Nat):List (List Nat)->List Nat
 |[]=>[]
 |x::r=>x++(match r with | []=>[] | y::r'=>c::jl c (y::r'))
theorem jcK (c:Nat)(ps:List Str):(Str.join ⟨#[c]⟩ ps).cps.toList=jl c (ps.map (·.cps.toList)):=by
 induction ps with
 |nil=>rfl
 |cons x r ih=>
  cases r with
  |nil=>simp[Str.join,jl]
  |cons y r=>
   show (x++⟨#[c]⟩++Str.join ⟨#[c]⟩ (y::r):Str).cps.toList=_;show (x.cps++#[c]++(Str.join ⟨#[c]⟩ (y::r)).cps).toList=_;rw[Array.toList_append,Array.toList_append,ih];simp[jl]
theorem jei {c:Nat}{a r:List Nat}(h:c ∉ a):(a++c::r).takeWhile (· != c)=a/\(a++c::r).dropWhile (· != c)=c::r:=by
 induction a with
 |nil=>simp
 |cons x a ih=>
  have hx:(x != c)=true:=by
   simp only[bne_iff_ne,ne_eq];exact fun e=>h (by simp[e])
  obtain⟨h1,h2⟩:=ih fun e=>h (jrr _ e);simp[hx,h1,h2]
theorem job (c:Nat){as:List (List Nat)}:∀{bs:List (List Nat)},as≠[]->bs≠[]->(∀a∈as,c ∉ a)->(∀b∈bs,c ∉ b)->jl c as=jl c bs->as=bs:=by
 induction as with
 |nil=>intro bs h;exact absurd rfl h
 |cons a as ih=>
  intro bs _ hb fa fb e;cases bs with
  |nil=>exact absurd rfl hb
  |cons b bs=>
   have na:c ∉ a:=fa a (by simp)
   have nb:c ∉ b:=fb b (by simp)
   cases as with
   |nil=>
    cases bs with
    |nil=>simp[jl]at e;rw[e]
    |cons b2 bs=>simp[jl]at e;rw[e]at na;exact absurd (by simp) na
   |cons a2 as=>
    cases bs with
    |nil=>simp[jl]at e;rw[<-e]at nb;exact absurd (by simp) nb
    |cons b2 bs=>
     have e:a++c::jl c (a2::as)=b++c::jl c (b2::bs):=e;obtain⟨p1,p2⟩:=jei (r:=jl c (a2::as)) na;obtain⟨q1,q2⟩:=jei (r:=jl c (b2::bs)) nb;rw[e]at p1 p2;rw[q1]at p1;rw[q2]at p2;rw[p1,ih (bs:=b2::bs) (by simp) (by simp) (fun x hx=>fa x (jrr _ hx)) (fun x hx=>fb x (jrr _ hx)) (List.cons.inj p2).2.symm]
theorem jhJ {a b:Str}(h:a.cps.toList=b.cps.toList):a=b:=congrArg Str.mk (Array.toList_inj.mp h)
theorem jhK:∀{as bs:List Str},as.map (·.cps.toList)=bs.map (·.cps.toList)->as=bs
 |[],[],_=>rfl
 |[],_::_,h=>by cases h
 |_::_,[],h=>by cases h
 |a::as,b::bs,h=>by
  simp only[jrx,List.cons.injEq]at h;rw[jhJ h.1,jhK h.2]
theorem jds {c:Nat}{ps:List Str}(hp:ps≠[])(hf:∀p∈ps,c ∉ p.cps.toList):Txt.split (Txt.join ⟨#[c]⟩ ps) ⟨#[c]⟩=ps:=by
 have e0:Txt.join ⟨#[c]⟩ ps=Str.join ⟨#[c]⟩ ps:=StrLaws.glued_eq_join _ _;have e:=StrLaws.join_split (Txt.join ⟨#[c]⟩ ps) ⟨#[c]⟩;have hn:Txt.split (Txt.join ⟨#[c]⟩ ps) ⟨#[c]⟩≠[]:=fun z=>by
  rw[z]at e;have:Txt.split (Txt.join ⟨#[c]⟩ ps) ⟨#[c]⟩=[Txt.join ⟨#[c]⟩ ps]:=if_pos (by rw[<-e];rfl)
  rw[z]at this;cases this
 refine jhK (job c (by simpa using hn) (by simpa using hp) (fun a ha=>?_) (fun a ha=>?_) ?_)
 ·obtain⟨p,h1,rfl⟩:=List.mem_map.mp ha;exact StrLaws.split_free _ c p h1
 ·obtain⟨p,h1,rfl⟩:=List.mem_map.mp ha;exact hf p h1
 ·rw[<-jcK,<-jcK,e,e0]
theorem jhL (x:Str)(c:Nat):Txt.contains x ⟨#[c]⟩=decide (c∈x.cps.toList):=StrLaws.found_one x c
end Tx
namespace Tx
open PySem
noncomputable abbrev mk (l:List Nat):Str:=⟨l.toArray⟩
theorem ja5 (l:List Nat):(mk l).length=l.length:=jru
theorem jhM (a b:List Nat):mk a++mk b=mk (a++b):=by
 show (⟨a.toArray++b.toArray⟩:Str)=_;rw[List.append_toArray]
theorem jbk (l:List Nat)(k:Nat)(h:k<=l.length):Txt.slice (mk l) (some (k:Int)) none=mk (l.drop k):=by
 have:=StrLaws.sliceText_from (x:=mk l) (i:=(k:Int)) ⟨Int.natCast_nonneg k,by show (k:Int)<=(l.length:Int);omega⟩
 refine Eq.trans (this:StrLaws.sliceText (mk l) (some (k:Int)) none=_) ?_;show mk ((l.drop k).take ((l.length:Int) - k).toNat)=_;rw[List.take_of_length_le (by rw[List.length_drop];omega)]
theorem jjL (l:List Nat)(k:Nat)(h:k<=l.length):Txt.slice (mk l) none (some (k:Int))=mk (l.take k):=by
 have:=StrLaws.sliceText_to (x:=mk l) (j:=(k:Int)) ⟨Int.natCast_nonneg k,by show (k:Int)<=(l.length:Int);omega⟩
 refine Eq.trans (this:StrLaws.sliceText (mk l) none (some (k:Int))=_) ?_;show mk ((l.drop 0).take ((k:Int) - 0).toNat)=_;rw[List.drop_zero,show ((k:Int) - 0).toNat=k by omega]
end Tx
namespace L2
open PySem PySem.Spec PyProof.Rows
noncomputable def SubH (h h':Heap):Prop:=∀b o,h.get? b=some o->h'.get? b=some o
theorem SubH.refl {h:Heap}:SubH h h:=fun _ _ e=>e
theorem SubH.trans {h h1 h2:Heap}(a:SubH h h1)(b:SubH h1 h2):SubH h h2:=fun c o e=>b c o (a c o e)
theorem SubH.push {h:Heap}(o:Obj):SubH h (h.push o):=fun _ _ e=>jrX _ e
section
variable {prog:Program}{w:World}{A:Around}{it:Value}{T:String}{h:Heap}{n:Nat}{P:Nat->Value->Prop}{wr0:List Addr}
end
end L2
namespace L2
open PySem PySem.Spec PyProof.Rows
section
variable {X:Cx}{pins:List (Addr×Obj)}{σ:St}{H:Hp}{s:Shared}
theorem Inv.track (I:Inv X pins σ H s){a:Addr}{o:HO}(hn:H a=none)(h0:X.s₀.heap.objs.size<=a)(hL:a≠X.env.locals)(hC:∀x c,X.env.cells.lookup x=some c->c≠a)(hP:∀p∈X.pn++pins,p.1≠a)(new:ObjOk X.prog X.w (upd H a o) s.heap a o):Inv X pins σ (upd H a o) s:=by
 have ne0:∀c o,X.s₀.heap.get? c=some o->c≠a:=fun c o e=>jr3 (jr2 (jrY e) h0);refine⟨I.ok,I.os,I.bare,⟨I.base.keep,I.base.slot,fun c u e n h1=>?_,I.base.there,fun c xs e=>?_,fun c u v e=>?_,fun c ps e=>?_⟩,I.loc,I.cell,?_,fun x c e=>?_,fun p hp=>?_,fun b u e=>?_,I.len⟩
 ·rw[jad (ne0 c u e)];exact I.base.free c u e n h1
 ·have q:=I.base.tups c xs e;rw[jad (jab q hn)];exact q
 ·have q:=I.base.frzs c u v e;rw[jad (jab q hn)];exact q
 ·obtain⟨m,q⟩:=I.base.tbls c ps e;exact⟨m,by rw[jad (jab q hn)];exact q⟩
 ·rw[jad (Ne.symm hL)];exact I.free
 ·rw[jad (hC x c e)];exact I.freeC x c e
 ·obtain⟨h1,h2,h3⟩:=I.pin p hp;exact⟨h1,by rw[jad (hP p hp)];exact h2,h3⟩
 ·by_cases hb:b=a
  ·subst hb;rw[jan]at e;cases e;exact new
  ·rw[jad hb]at e;exact(I.hok b u e).stay (fun c v _ q=>q) (fun c q=>by rw[jad (jab q hn)];exact q) fun c xs q=>by rw[jad (jab q hn)];exact q
theorem Inv.above (I:Inv X pins σ H s):X.s₀.heap.objs.size<=s.heap.objs.size:=by
 obtain⟨m,hn,_⟩:=I.loc;exact jr4 I.ok.above (Nat.le_of_lt hn.lt)
theorem Inv.new (I:Inv X pins σ H s){a:Addr}(ha:s.heap.objs.size<=a):X.s₀.heap.objs.size<=a/\a≠X.env.locals/\(∀x c,X.env.cells.lookup x=some c->c≠a)/\(∀p∈X.pn++pins,p.1≠a)/\H a=none:=by
 refine⟨jr4 I.above ha,fun z=>?_,fun x c e z=>?_,fun p hp z=>?_,I.hok.fresh ha⟩
 ·obtain⟨m,hn,_⟩:=I.loc;rw[z]at ha;exact jr5 _ (jr2 hn.lt ha)
 ·obtain⟨v,o,h6,_⟩:=I.cell x c e;rw[<-z]at ha;exact jr5 _ (jr2 (jrY h6) ha)
 ·have h6:=(I.pin p hp).1;rw[<-z]at ha;exact jr5 _ (jr2 (jrY h6) ha)
end
end L2
namespace L2
open PySem PySem.Spec PyProof.Rows
open Builtin Builtin.Str Builtin.Int
section
variable {X:Cx}
end
end L2
namespace RT
open PySem PySem.Spec PyProof.Rows L2
end RT
namespace RT
open PySem PySem.Spec PyProof.Rows L2
noncomputable def obj (l:Addr)(i:Int):Obj:={ cls:=.type "reversed",data:=.fields #[.ref l,rawInt i] }
noncomputable def IsRv (h:Heap)(a l:Addr)(i:Int):Prop:=∃o,h.get? a=some o/\o.cls=.type "reversed"/\o.data=.fields #[.ref l,rawInt i]
section
variable {prog:Program}{w:World}{A:Around}{E:Value->Shared->Prop}{s:Shared}
theorem IsRv.typeIs {a l:Addr}{i:Int}(x:IsRv s.heap a l i):s.TypeIs (.ref a) "reversed":=let ⟨o,ho,hc,_⟩:=x;⟨o,ho,hc⟩
theorem IsRv.at {h h':Heap}{a l:Addr}{i:Int}(x:IsRv h a l i)(e:∀o,h.get? a=some o->h'.get? a=some o):IsRv h' a l i:=let ⟨o,ho,r⟩:=x;⟨o,e _ ho,r⟩
end
section
variable {X:Cx}{pins:List (Addr×Obj)}{σ:L2.St}{H:Hp}{s:Shared}
end
end RT
namespace KS
open PySem PySem.W PyProof.Rows
section
variable {lt:Nat->Nat->Bool}{p:Array Nat}
noncomputable def le (lt:Nat->Nat->Bool)(a b:Nat):Prop:=lt b a=false
structure Ord (lt:Nat->Nat->Bool):Prop where
 asym:∀a b,lt a b=true->lt b a=false
 trans:∀a b c,le lt a b->le lt b c->le lt a c
theorem Ord.refl (O:Ord lt)(a:Nat):le lt a a:=by
 unfold le;cases h:lt a a with
 |false=>rfl
 |true=>exact absurd (O.asym a a h) (by rw[h];decide)
noncomputable def at_ (p:Array Nat)(i:Nat):Nat:=p.getD i 0
noncomputable def Up (lt:Nat->Nat->Bool)(p:Array Nat)(k:Nat):Prop:=∀i j,i<=j->j < k->le lt (at_ p i) (at_ p j)
noncomputable def Dn (lt:Nat->Nat->Bool)(p:Array Nat)(k:Nat):Prop:=∀i j,i<=j->j < k->le lt (at_ p j) (at_ p i)
theorem Up.succ (O:Ord lt){n:Nat}(h1:1<=n)(h:Up lt p n)(hn:le lt (at_ p (n - 1)) (at_ p n)):Up lt p (n + 1):=fun i j hij hj=>by
 by_cases e:j=n
 ·subst e;by_cases e2:i=j
  ·subst e2;exact O.refl _
  ·exact O.trans _ _ _ (h i (j - 1) (by omega) (by omega)) hn
 ·exact h i j hij (by omega)
theorem Dn.succ (O:Ord lt){n:Nat}(h1:1<=n)(h:Dn lt p n)(hn:le lt (at_ p n) (at_ p (n - 1))):Dn lt p (n + 1):=fun i j hij hj=>by
 by_cases e:j=n
 ·subst e;by_cases e2:i=j
  ·subst e2;exact O.refl _
  ·exact O.trans _ _ _ hn (h i (j - 1) (by omega) (by omega))
 ·exact h i j hij (by omega)
end
end KS
namespace KS
open PySem PySem.W PyProof.Rows
inductive AllA {α:Type} (N:Nat) (R:α->Prop):KasT α->Prop where
 |ret {a:α} (h:R a):AllA N R (.ret a)
 |ask {i j:Nat}{k:Bool->KasT α} (hi:i < N) (hj:j < N) (h:∀b,AllA N R (k b)):AllA N R (.ask i j k)
theorem AllA.bind {α β:Type}{N:Nat}{R:α->Prop}{R':β->Prop}{f:α->KasT β}{t:KasT α}(h:AllA N R t)(hf:∀a,R a->AllA N R' (f a)):AllA N R' (t.bind f):=by
 induction h with
 |ret h=>exact hf _ h
 |ask hi hj _ ih=>exact .ask hi hj ih
noncomputable def LtN (N:Nat)(p:Array Nat):Prop:=0 < N/\∀x∈p,x < N
theorem LtN.get {N:Nat}{p:Array Nat}(h:LtN N p)(i:Nat):p.getD i 0 < N:=by
 by_cases hi:i < p.size
 ·simp only[Array.getD,hi,dite_true];exact h.2 _ (Array.getElem_mem hi)
 ·simp only[Array.getD,hi,dite_false];exact h.1
theorem LtN.perm {N:Nat}{p q:Array Nat}(h:LtN N p)(e:q.Perm p):LtN N q:=⟨h.1,fun x hx=>h.2 x (e.mem_iff.mp hx)⟩
end KS
namespace HS
open PySem
noncomputable def g:Nat->Nat->Nat
 |0,a=>a
 |n + 1,a=>5 * g n a + 1
theorem joc (n m a:Nat):g (n + m) a=g n (g m a):=by
 induction n with
 |zero=>simp[g]
 |succ n ih=>rw[Nat.succ_add,g,ih,g]
theorem jpJ (n a:Nat):g n a=5 ^ n * a + g n 0:=by
 induction n with
 |zero=>simp[g]
 |succ n ih=>
  rw[g,ih,g,Nat.pow_succ,Nat.mul_add,Nat.add_assoc];congr 1;rw[Nat.mul_comm (5 ^ n) 5,Nat.mul_assoc]
theorem jod (n:Nat):4 * g n 0 + 1=5 ^ n:=by
 induction n with
 |zero=>rfl
 |succ n ih=>rw[g,Nat.pow_succ,<-ih];omega
theorem jjM (k:Nat):∃v,5 ^ 2 ^ k=1 + 2 ^ (k + 2) * (2 * v + 1):=by
 induction k with
 |zero=>exact⟨0,rfl⟩
 |succ k ih=>
  obtain⟨v,e⟩:=ih;refine⟨v + 2 ^ k * (2 * v + 1) * (2 * v + 1),?_⟩;rw[Nat.pow_succ,Nat.pow_mul,e];have h1:2 ^ (k + 2)=4 * 2 ^ k:=by rw[Nat.pow_add];omega
  have h2:2 ^ (k + 1 + 2)=8 * 2 ^ k:=by rw[show k + 1 + 2=k + 3 by omega,Nat.pow_add];omega
  rw[h1,h2];generalize 2 ^ k=p;grind
theorem jpK (k a:Nat):∃c,g (2 ^ k) a=a + 2 ^ k + 2 ^ (k + 1) * c:=by
 obtain⟨v,e⟩:=jjM k;have f:=jod (2 ^ k);have h1:2 ^ (k + 2)=4 * 2 ^ k:=by rw[Nat.pow_add];omega
 have h2:2 ^ (k + 1)=2 * 2 ^ k:=by rw[Nat.pow_add];omega
 rw[e,h1]at f;have f0:g (2 ^ k) 0=2 ^ k * (2 * v + 1):=by
  have:4 * g (2 ^ k) 0=4 * (2 ^ k * (2 * v + 1)):=by rw[<-Nat.mul_assoc];omega
  omega
 rw[jpJ,e,f0,h1,h2];generalize 2 ^ k=p;exact⟨2 * (2 * v + 1) * a + v,by grind⟩
theorem joe {m a b:Nat}(h:a % m=b % m):∀n,g n a % m=g n b % m
 |0=>h
 |n + 1=>by
  rw[g,g,Nat.add_mod,Nat.mul_mod,joe h n,<-Nat.mul_mod,<-Nat.add_mod]
theorem jpL (k:Nat):∀a x,x < 2 ^ k->∃n,n < 2 ^ k/\g n a % 2 ^ k=x:=by
 induction k with
 |zero=>intro a x h;exact⟨0,by omega,by simp[g,Nat.mod_one];omega⟩
 |succ k ih=>
  intro a x h;have hp:2 ^ (k + 1)=2 * 2 ^ k:=by rw[Nat.pow_succ];omega
  obtain⟨n,hn,e⟩:=ih a (x % 2 ^ k) (Nat.mod_lt _ (Nat.two_pow_pos k));have hq:g n a % 2 ^ (k + 1) % 2 ^ k=g n a % 2 ^ k:=Nat.mod_mod_of_dvd _ ⟨2,by omega⟩
  have hlt:g n a % 2 ^ (k + 1) < 2 ^ (k + 1):=Nat.mod_lt _ (Nat.two_pow_pos _);by_cases hx:g n a % 2 ^ (k + 1)=x
  ·exact⟨n,by omega,hx⟩
  ·refine⟨2 ^ k + n,by omega,?_⟩
   obtain⟨c,ec⟩:=jpK k (g n a);rw[joc,ec,Nat.add_mul_mod_self_left,Nat.add_mod];generalize hy:g n a % 2 ^ (k + 1)=y at *;have h3:2 ^ k % 2 ^ (k + 1)=2 ^ k:=Nat.mod_eq_of_lt (by have:=Nat.two_pow_pos k;omega)
   rw[h3,hp];rw[hp]at h hlt;have hpos:=Nat.two_pow_pos k;generalize 2 ^ k=p at *;have d1:=Nat.div_add_mod y p;have d2:=Nat.div_add_mod x p;have l1:y / p < 2:=(Nat.div_lt_iff_lt_mul hpos).mpr hlt;have l2:x / p < 2:=(Nat.div_lt_iff_lt_mul hpos).mpr h;have hm:y % p=x % p:=by rw[hq,e]
   clear ec h3 hy e hq;have m1:=Nat.mod_lt y hpos;have m2:=Nat.mod_lt x hpos;have c1:y / p=0\/y / p=1:=by generalize y / p=z at l1;omega
   have c2:x / p=0\/x / p=1:=by generalize x / p=z at l2;omega
   rcases c1 with c1 | c1 <;> rcases c2 with c2 | c2 <;> rw[c1]at d1 <;> rw[c2]at d2
   ·omega
   ·rw[Nat.mod_eq_of_lt (by omega)];omega
   ·have:y + p=x + 2 * p:=by omega
    rw[this,Nat.add_mod_right,Nat.mod_eq_of_lt (by omega)]
   ·omega
noncomputable abbrev lp (mask i p:Nat):Nat×Nat:=SetTable.leap mask i p
noncomputable def run (mask i:Nat):List Nat:=(List.range (SetTable.runEnd mask i + 1 - i)).map (i + ·)
noncomputable def pth (mask:Nat):Nat->Nat->Nat->List Nat
 |0,_,_=>[]
 |N + 1,i,p=>run mask i++pth mask N (lp mask i p).1 (lp mask i p).2
theorem jhN (mask i:Nat):i<=SetTable.runEnd mask i:=by unfold SetTable.runEnd;split <;> omega
theorem jhO {mask i:Nat}(h:i<=mask):SetTable.runEnd mask i<=mask:=by unfold SetTable.runEnd;split <;> omega
theorem jjN (mask i:Nat):i∈run mask i:=by
 have:=jhN mask i;exact List.mem_map.mpr ⟨0,List.mem_range.mpr (by omega),rfl⟩
theorem jof {mask i j:Nat}(h:i<=mask)(hj:j∈run mask i):j<=mask:=by
 obtain⟨a,ha,rfl⟩:=List.mem_map.mp hj;have:=Nat.add_lt_of_lt_sub' (List.mem_range.mp ha);exact jr4 (Nat.le_of_lt_succ this) (jhO h)
theorem jog (mask i p:Nat):(lp mask i p).1<=mask:=by
 show (i * 5 + 1 + p / 32) % (mask + 1)<=mask;exact Nat.le_of_lt_succ (Nat.mod_lt (i * 5 + 1 + p / 32) (Nat.succ_pos mask))
theorem jk6 {mask:Nat}:∀{N i p j:Nat},i<=mask->j∈pth mask N i p->j<=mask
 |0,_,_,_,_,h=>by cases h
 |N + 1,i,p,j,hi,h=>by
  rcases List.mem_append.mp h with h | h
  ·exact jof hi h
  ·exact jk6 (jog mask i p) h
noncomputable def it (mask:Nat):Nat->Nat×Nat->Nat×Nat
 |0,s=>s
 |n + 1,s=>it mask n (lp mask s.1 s.2)
theorem jk7 (mask:Nat):∀{N n i p:Nat},n < N->(it mask n (i,p)).1∈pth mask N i p
 |0,_,_,_,h=>by omega
 |N + 1,0,i,p,_=>jrN _ (jjN mask i)
 |N + 1,n + 1,i,p,h=>jrB _ (jk7 mask (n:=n) (by omega))
theorem jk8 (mask:Nat):∀(n m:Nat) (s:Nat×Nat),it mask (n + m) s=it mask m (it mask n s)
 |0,m,s=>by rw[Nat.zero_add];rfl
 |n + 1,m,s=>by rw[Nat.succ_add];exact jk8 mask n m _
theorem jqG (mask:Nat):∀(n:Nat) (s:Nat×Nat),(it mask n s).2=s.2 / 32 ^ n
 |0,s=>by simp[it]
 |n + 1,s=>by
  show (it mask n (lp mask s.1 s.2)).2=_;rw[jqG mask n];show s.2 / 32 / 32 ^ n=_;rw[Nat.div_div_eq_div_mul,Nat.pow_succ,Nat.mul_comm]
theorem jhP (mask:Nat):∀(n i:Nat),i<=mask->(it mask n (i,0)).1=g n i % (mask + 1)
 |0,i,h=>by simp only[it,g];exact(Nat.mod_eq_of_lt (Nat.lt_succ_of_le h)).symm
 |n + 1,i,h=>by
  show (it mask n (lp mask i 0)).1=_;have e:lp mask i 0=((5 * i + 1) % (mask + 1),0):=by simp[lp,SetTable.leap,Nat.mul_comm]
  rw[e,jhP mask n _ (Nat.le_of_lt_succ (Nat.mod_lt (5 * i + 1) (Nat.succ_pos mask)))];have:g (n + 1) i=g n (5 * i + 1):=joc n 1 i;rw[this];exact joe (Nat.mod_mod _ _) n
theorem joh (mask:Nat):∀(n:Nat) (s:Nat×Nat),s.1<=mask->(it mask n s).1<=mask
 |0,s,h=>h
 |n + 1,s,h=>joh mask n _ (jog mask s.1 s.2)
theorem jhQ {mask k i p:Nat}(hk:mask + 1=2 ^ k)(hi:i<=mask)(hp:p < 2 ^ 64):∀x,x<=mask->x∈pth mask (mask + 15) i p:=by
 intro x hx;have z:(it mask 13 (i,p)).2=0:=by
  rw[jqG];exact Nat.div_eq_of_lt (Nat.lt_trans hp (by decide))
 obtain⟨n,hn,e⟩:=jpL k (it mask 13 (i,p)).1 x (by omega)
 have h13:=joh mask 13 (i,p) hi;have:(it mask (13 + n) (i,p)).1=x:=by
  rw[jk8];have:it mask 13 (i,p)=((it mask 13 (i,p)).1,0):=Prod.ext rfl z;rw[this,jhP mask n _ h13,hk];exact e
 rw[<-this];exact jk7 mask (by omega)
theorem jcf {occ:Nat->Bool}:∀{l:List Nat},(∃x∈l,occ x=false)->∃pre j post,l=pre++j::post/\occ j=false/\∀q∈pre,occ q=true
 |[],h=>by obtain⟨x,hx,_⟩:=h;cases hx
 |a::l,h=>by
  cases ha:occ a with
  |false=>exact⟨[],a,l,rfl,ha,fun q hq=>by cases hq⟩
  |true=>
   obtain⟨x,hx,ex⟩:=h;rcases List.mem_cons.mp hx with rfl | hx
   ·rw[ha]at ex;cases ex
   ·obtain⟨pre,j,post,e,hj,hp⟩:=jcf ⟨x,hx,ex⟩;exact⟨a::pre,j,post,by rw[e];rfl,hj,fun q hq=>(List.mem_cons.mp hq).elim (fun z=>z ▸ ha) (hp q)⟩
theorem jdt {f:Nat->Bool}:∀{pre:List Nat}{j:Nat}{post:List Nat},f j=true->(∀q∈pre,f q=false)->(pre++j::post).find? f=some j
 |[],j,post,h,_=>by simp[h]
 |a::pre,j,post,h,hp=>by
  rw[List.cons_append,List.find?_cons,hp a jrs];exact jdt h fun q hq=>hp q (jrr _ hq)
theorem jhR (mask:Nat)(owner:Array (Option Nat)):∀(N i p:Nat),SetTable.layClean.free mask owner N i p=(pth mask N i p).find? fun j=>(owner.getD j (some 0)).isNone
 |0,i,p=>by rw[SetTable.layClean.free.eq_1];rfl
 |N + 1,i,p=>by
  rw[SetTable.layClean.free.eq_2,pth,List.find?_append,run,List.find?_map];cases e:List.find? (fun k=>(owner.getD (i + k) (some 0)).isNone) (List.range (SetTable.runEnd mask i + 1 - i))with
  |some k=>
   have e':List.find? ((fun j=>(owner.getD j (some 0)).isNone) ∘ fun x=>i + x) (List.range (SetTable.runEnd mask i + 1 - i))=some k:=e;rw[e'];rfl
  |none=>
   have e':List.find? ((fun j=>(owner.getD j (some 0)).isNone) ∘ fun x=>i + x) (List.range (SetTable.runEnd mask i + 1 - i))=none:=e;rw[e'];exact jhR mask owner N _ _
end HS
namespace HS
open PySem
noncomputable def lst (mask:Nat)(p:SetTable.Probe)(N:Nat):List Nat:=(List.range (p.more + 1)).map (p.j + ·)++pth mask N (lp mask p.i p.perturb).1 (lp mask p.i p.perturb).2
noncomputable def Asc (xs:List Nat):Prop:=xs.Pairwise (· < ·)
theorem Asc.get {xs:List Nat}(h:Asc xs){a b:Nat}(hab:a < b)(hb:b < xs.length):xs[a] < xs[b]:=List.pairwise_iff_getElem.mp h a b (by omega) hb hab
structure Blw (xs:List Nat)(j r:Nat):Prop where
 le:r<=xs.length
 lo:∀a (h:a < xs.length),a < r->xs[a] < j
 hi:∀a (h:a < xs.length),r<=a->j<=xs[a]
noncomputable def jeY (mask:Nat)(h:Int):List Nat:=pth mask (mask + 15) (SetTable.bits h % (mask + 1)) (SetTable.bits h)
noncomputable def Leads (mask:Nat)(O:Nat->Prop)(h:Int)(j:Nat):Prop:=∃pre post,jeY mask h=pre++j::post/\∀q∈pre,O q
structure TabOk (mask:Nat)(place:List Nat)(hs:List Int):Prop where
 pow:∃k,mask + 1=2 ^ k
 asc:Asc place
 top:∀j∈place,j<=mask
 len:place.length=hs.length
 way:∀(i j:Nat) (h:Int),place[i]?=some j->hs[i]?=some h->Leads mask (·∈place) h j
theorem jl0 (h:Int):SetTable.bits h < 2 ^ 64:=by
 unfold SetTable.bits;omega
theorem jhS {mask k:Nat}(hk:mask + 1=2 ^ k)(h:Int){x:Nat}(hx:x<=mask):x∈jeY mask h:=
 jhQ hk (Nat.le_of_lt_succ (Nat.mod_lt _ (Nat.succ_pos mask))) (jl0 h) x hx
theorem jk9 (mask:Nat)(h:Int){x:Nat}(hx:x∈jeY mask h):x<=mask:=jk6 (Nat.le_of_lt_succ (Nat.mod_lt _ (Nat.succ_pos mask))) hx
theorem jjO {n:Nat}{l:List Nat}(hl:l.length < n):∃x,x < n/\x ∉ l:=by
 induction n generalizing l with
 |zero=>omega
 |succ n ih=>
  by_cases hn:n∈l
  ·obtain⟨x,h1,h2⟩:=ih (l:=l.erase n) (by rw[List.length_erase_of_mem hn];have:=List.length_pos_of_mem hn;omega)
   refine⟨x,by omega,fun z=>h2 ?_⟩
   exact(List.mem_erase_of_ne (by omega)).mpr z
  ·exact⟨n,by omega,hn⟩
theorem TabOk.free {mask:Nat}{place:List Nat}{hs:List Int}(T:TabOk mask place hs)(hf:place.length<=mask)(h:Int):∃pre j post,jeY mask h=pre++j::post/\j ∉ place/\∀q∈pre,q∈place:=by
 obtain⟨k,hk⟩:=T.pow;obtain⟨x,h1,h2⟩:=jjO (n:=mask + 1) (l:=place) (by omega)
 obtain⟨pre,j,post,e,hj,hp⟩:=jcf (occ:=fun q=>decide (q∈place)) (l:=jeY mask h) ⟨x,jhS hk h (by omega),decide_eq_false h2⟩
 exact⟨pre,j,post,e,of_decide_eq_false hj,fun q hq=>of_decide_eq_true (hp q hq)⟩
theorem Leads.mono {mask:Nat}{O O':Nat->Prop}{h:Int}{j:Nat}(l:Leads mask O h j)(k:∀q,O q->O' q):Leads mask O' h j:=
 let ⟨pre,post,e,hp⟩:=l;⟨pre,post,e,fun q hq=>k q (hp q hq)⟩
theorem jl1 {place:List Nat}{j r:Nat}(b:Blw place j r)(asc:Asc place)(hj:j ∉ place):Asc (place.take r++j::place.drop r):=by
 unfold Asc;rw[List.pairwise_append];refine⟨List.Pairwise.sublist (List.take_sublist _ _) asc,List.pairwise_cons.mpr ⟨fun x hx=>?_,List.Pairwise.sublist (List.drop_sublist _ _) asc⟩,fun x hx y hy=>?_⟩
 ·obtain⟨i,hi,e⟩:=List.getElem_of_mem hx;rw[List.length_drop]at hi;rw[List.getElem_drop]at e;have:=b.hi (r + i) (by omega) (by omega)
  rw[e]at this;have:j≠x:=fun z=>hj (z ▸ List.mem_of_mem_drop hx);omega
 ·obtain⟨i,hi,e⟩:=List.getElem_of_mem hx;rw[List.length_take]at hi;rw[List.getElem_take]at e;have hxj:x < j:=by rw[<-e];exact b.lo i (by omega) (by omega)
  rcases List.mem_cons.mp hy with rfl | hy
  ·exact hxj
  ·obtain⟨i',hi',e'⟩:=List.getElem_of_mem hy;rw[List.length_drop]at hi';rw[List.getElem_drop]at e';have:=b.hi (r + i') (by omega) (by omega)
   rw[e']at this;omega
theorem jhT {α:Type}{xs:List α}{r:Nat}{x:α}(hr:r<=xs.length)(i:Nat):(xs.take r++x::xs.drop r)[i]?=if i < r then xs[i]? else if i=r then some x else xs[i - 1]?:=by
 have hl:(xs.take r).length=r:=by rw[List.length_take];omega
 by_cases h1:i < r
 ·rw[if_pos h1,jrI (by omega),List.getElem?_take,if_pos h1]
 ·rw[if_neg h1,jrE (by omega),hl]
  by_cases h2:i=r
  ·subst h2;simp
  ·rw[if_neg h2];obtain⟨d,rfl⟩:∃d,i=r + d + 1:=⟨i - r - 1,by omega⟩
   rw[show r + d + 1 - r=d + 1 by omega,jrL,List.getElem?_drop]
   congr 1
theorem TabOk.put {mask:Nat}{place:List Nat}{hs:List Int}(T:TabOk mask place hs){r j:Nat}{h:Int}(b:Blw place j r)(hj:j ∉ place)(hm:j<=mask)(hl:Leads mask (·∈place) h j):TabOk mask (place.take r++j::place.drop r) (hs.take r++h::hs.drop r) where
 pow:=T.pow
 asc:=jl1 b T.asc hj
 top:=fun x hx=>by
  rcases List.mem_append.mp hx with hx | hx
  ·exact T.top x (List.mem_of_mem_take hx)
  ·rcases List.mem_cons.mp hx with rfl | hx
   ·exact hm
   ·exact T.top x (List.mem_of_mem_drop hx)
 len:=by simp[T.len]
 way:=fun i x y hx hy=>by
  have hmem:∀q,q∈place->q∈place.take r++j::place.drop r:=fun q hq=>by
   rw[<-List.take_append_drop r place]at hq;rcases List.mem_append.mp hq with hq | hq
   ·exact jrN _ hq
   ·exact jrB _ (jrr _ hq)
  rw[jhT b.le]at hx;rw[jhT (by rw[<-T.len];exact b.le)]at hy
  by_cases h1:i < r
  ·rw[if_pos h1]at hx hy;exact(T.way i x y hx hy).mono hmem
  ·rw[if_neg h1]at hx hy;by_cases h2:i=r
   ·rw[if_pos h2]at hx hy;cases hx;cases hy;exact hl.mono hmem
   ·rw[if_neg h2]at hx hy;exact(T.way _ x y hx hy).mono hmem
end HS
namespace HS
open PySem
noncomputable abbrev taken (l:List (Option Nat))(q:Nat):Prop:=∃z,l[q]?=some (some z)
structure OwnOk (mask:Nat)(l:List (Option Nat))(hs:List Int):Prop where
 size:l.length=mask + 1
 perm:(l.filterMap id).Perm (List.range hs.length)
 way:∀j z,l[j]?=some (some z)->∃h,hs[z]?=some h/\Leads mask (taken l) h j
theorem jfO:∀{l:List (Option Nat)},(l.filterMap id).length < l.length->∃x,x < l.length/\l[x]?=some none
 |[],h=>by simp at h
 |none::l,h=>⟨0,by simp,rfl⟩
 |some a::l,h=>by
  obtain⟨x,h1,h2⟩:=jfO (l:=l) (by simpa using h)
  exact⟨x + 1,by simpa using h1,by simpa using h2⟩
theorem jeZ:∀{l:List (Option Nat)}{j k:Nat},l[j]?=some none->((l.set j (some k)).filterMap id).Perm (k::l.filterMap id)
 |[],j,k,h=>by simp at h
 |x::l,0,k,h=>by
  have:x=none:=by simpa using h
  subst this;simp
 |none::l,j + 1,k,h=>by
  have:=jeZ (l:=l) (j:=j) (k:=k) (by simpa using h)
  simpa using this
 |some a::l,j + 1,k,h=>by
  have:=jeZ (l:=l) (j:=j) (k:=k) (by simpa using h)
  simp only[List.set_cons_succ,jrG,id];exact(List.Perm.cons a this).trans (List.Perm.swap k a _)
theorem jhU {l:List (Option Nat)}{j k:Nat}(hj:j < l.length)(q:Nat):(l.set j (some k))[q]?=if j=q then some (some k)else l[q]?:=by
 rw[jrv];by_cases h:j=q
 ·rw[if_pos h,if_pos h,if_pos (h ▸ hj)]
 ·rw[if_neg h,if_neg h]
theorem OwnOk.step {mask:Nat}{owner:Array (Option Nat)}{hs:List Int}(O:OwnOk mask owner.toList hs)(hp:∃k,mask + 1=2 ^ k)(hl:hs.length<=mask)(h:Int) :
  ∃j,SetTable.layClean.free mask owner (SetTable.turns mask) (SetTable.bits h % (mask + 1)) (SetTable.bits h)=some j/\OwnOk mask (owner.setIfInBounds j (some hs.length)).toList (hs++[h]):=by
 obtain⟨kp,hkp⟩:=hp;have hlen:(owner.toList.filterMap id).length=hs.length:=by rw[O.perm.length_eq,List.length_range]
 obtain⟨x,hx,ex⟩:=jfO (l:=owner.toList) (by rw[hlen,O.size];omega)
 have isn:∀q,q<=mask->((owner.getD q (some 0)).isNone=true↔owner.toList[q]?=some none):=fun q hq=>by
  have hq':q < owner.size:=by have:=O.size;simp at this;omega
  simp only[Array.getD,hq',dite_true];rw[Array.getElem?_toList,Array.getElem?_eq_getElem hq',Option.isNone_iff_eq_none];simp
 obtain⟨pre,j,post,e,hj,hpre⟩:=jcf (occ:=fun q=>!(owner.getD q (some 0)).isNone) (l:=jeY mask h) ⟨x,jhS hkp h (by have:=O.size;omega),by
  simp only[Bool.not_eq_false'];exact(isn x (by have:=O.size;omega)).mpr ex⟩
 have hjm:j<=mask:=jk9 mask h (by rw[e];simp)
 have hjn:owner.toList[j]?=some none:=(isn j hjm).mp (by simpa using hj)
 have hjl:j < owner.toList.length:=by have:=O.size;omega
 have hpt:∀q∈pre,taken owner.toList q:=fun q hq=>by
  have hqm:q<=mask:=jk9 mask h (by rw[e];exact jrN _ hq)
  have hq':q < owner.toList.length:=by have:=O.size;omega
  have:=hpre q hq;cases hv:owner.toList[q] with
  |none=>
   have h1:=(isn q hqm).mpr (by rw[jrq hq',hv])
   have h2:(!(owner.getD q (some 0)).isNone)=true:=this;rw[h1]at h2;cases h2
  |some z=>exact⟨z,by rw[jrq hq',hv]⟩
 refine⟨j,?_,?_⟩
 ·rw[jhR];show (jeY mask h).find? _=_;rw[e];refine jdt (by simpa using hj) fun q hq=>?_
  have:=hpre q hq;simpa using this
 ·have es:(owner.setIfInBounds j (some hs.length)).toList=owner.toList.set j (some hs.length):=by simp
  rw[es];have mono:∀q,taken owner.toList q->taken (owner.toList.set j (some hs.length)) q:=fun q ⟨z,hz⟩=>by
   refine⟨z,?_⟩;rw[jhU hjl,if_neg]
   ·exact hz
   ·intro w;rw[<-w,hjn]at hz;cases hz
  refine⟨by rw[jrO];exact O.size,?_,fun q z hz=>?_⟩
  ·rw[jrF,List.length_singleton,List.range_succ];exact(jeZ hjn).trans ((List.Perm.cons _ O.perm).trans (List.perm_append_singleton _ _).symm)
  ·rw[jhU hjl]at hz;by_cases hq:j=q
   ·rw[if_pos hq]at hz;cases hz;subst hq;exact⟨h,by simp,pre,post,e,fun q hq=>mono q (hpt q hq)⟩
   ·rw[if_neg hq]at hz;obtain⟨h',e1,e2⟩:=O.way q z hz;exact⟨h',by rw[jrI (List.getElem?_eq_some_iff.mp e1).1];exact e1,e2.mono mono⟩
end HS
namespace HS
open PySem PySem.Spec PyProof.Rows L2
noncomputable def tkz (prog:Program)(w:World)(Z:List Int->Addr->Prop):HeapKind prog w (List Int) where
 is:=fun h k a=>(tupleKind (intKind prog w)).is h k a/\Z k a
 hash:=(tupleKind (intKind prog w)).hash
 draws:=(tupleKind (intKind prog w)).draws
 room:=(tupleKind (intKind prog w)).room
 inj:=fun h1 h2=>(tupleKind (intKind prog w)).inj h1.1 h2.1
 keeps:=fun h1 h2 h3 h4=>⟨(tupleKind (intKind prog w)).keeps h1.1 h2 h3 h4,h1.2⟩
 pyHash:=fun h1 h2 q=>(tupleKind (intKind prog w)).pyHash h1 h2.1 q
 eqBool:=fun h1 h2 h3 q=>(tupleKind (intKind prog w)).eqBool h1 h2.1 h3.1 q
 quiet:=fun h1 q=>(tupleKind (intKind prog w)).quiet h1.1 q
section
variable {prog:Program}{w:World}{Z:List Int->Addr->Prop}{A:Around}{E:Value->Shared->Prop}{s:Shared}
noncomputable def El (prog:Program)(w:World)(Z:List Int->Addr->Prop)(h:Heap)(k:List Int)(e:Int×Value):Prop:=∃b,e=((tkz prog w Z).hash k,.ref b)/\(tkz prog w Z).is h k b
end
end HS
namespace HS
open PySem PySem.Spec PyProof.Rows L2
noncomputable def MaskOk (m:Nat):Prop:=m=7\/m=31\/m=127\/m=511\/m=2047\/m=8191
theorem MaskOk.pow {m:Nat}(h:MaskOk m):∃k,m + 1=2 ^ k:=by
 rcases h with rfl | rfl | rfl | rfl | rfl | rfl
 ·exact⟨3,rfl⟩
 ·exact⟨5,rfl⟩
 ·exact⟨7,rfl⟩
 ·exact⟨9,rfl⟩
 ·exact⟨11,rfl⟩
 ·exact⟨13,rfl⟩
theorem MaskOk.rng {m:Nat}(h:MaskOk m):7<=m/\m<=8191:=by rcases h with rfl | rfl | rfl | rfl | rfl | rfl <;> omega
structure Tbl (t:SetTable)(es:List (Int×Value)):Prop where
 nd:t.dummies=#[]
 pl:t.plain=true
 mo:MaskOk t.mask
 ok:TabOk t.mask t.place.toList (es.map (·.1))
 sm:es.length * 5 < t.mask * 3
theorem Tbl.fits {t:SetTable}{es:Array (Int×Value)}(T:Tbl t es.toList):t.fits es.size=true:=by
 have h1:=T.ok.len;have h2:=T.sm;have h3:=T.mo.rng;simp at h1 h2;unfold SetTable.fits SetTable.fill;rw[T.nd,h1];simp;omega
section
variable {prog:Program}{w:World}{Z:List Int->Addr->Prop}{A:Around}{E:Value->Shared->Prop}{s:Shared}
end
end HS
namespace HS
open PySem PySem.Spec PyProof.Rows L2
section
variable {prog:Program}{w:World}{Z:List Int->Addr->Prop}{A:Around}{E:Value->Shared->Prop}{s:Shared}
end
end HS
namespace HS
open PySem PySem.Spec PyProof.Rows L2
section
variable {prog:Program}{w:World}{Z:List Int->Addr->Prop}{A:Around}{E:Value->Shared->Prop}{s:Shared}
theorem items_int {ks:List Int}{vs:List Value}(h:PySem.ItemsAre (intKind prog w) ks vs):∀v∈vs,∃i t,v=Value.int i t:=by
 induction h with
 |nil=>intro v hv;cases hv
 |cons hk _ ih=>
  intro v hv;rcases List.mem_cons.mp hv with rfl | hv
  ·rename_i k _ _ _;have hk:Value.isInt k v=true:=hk;cases v <;> simp[Value.isInt]at hk
   exact⟨_,_,rfl⟩
  ·exact ih v hv
end
end HS
namespace HS
open PySem PySem.Spec PyProof.Rows L2
end HS
namespace HS
open PySem PySem.Spec PyProof.Rows L2
section
variable {prog:Program}{w:World}{Z:List Int->Addr->Prop}{A:Around}{E:Value->Shared->Prop}{s:Shared}
end
end HS
namespace HS
open PySem PySem.Spec PyProof.Rows L2
section
variable {prog:Program}{w:World}{Z:List Int->Addr->Prop}{A:Around}{E:Value->Shared->Prop}{s:Shared}
end
end HS
namespace HS
open PySem PySem.Spec PyProof.Rows L2
section
variable {prog:Program}{w:World}{Z:List Int->Addr->Prop}{A:Around}{E:Value->Shared->Prop}{s:Shared}
noncomputable def h0:Heap:={ objs:=#[] }
end
end HS
namespace HS
open PySem PySem.Spec PyProof.Rows L2
section
variable {prog:Program}{w:World}{Z:List Int->Addr->Prop}{A:Around}{E:Value->Shared->Prop}{s:Shared}
end
end HS
namespace L2
open PySem PySem.Spec PyProof.Rows HS
section
variable {X:Cx}{pins:List (Addr×Obj)}{σ:St}{H:Hp}{s:Shared}
end
end L2
namespace DJ
open PySem
inductive D where
 |non | bl (b:Bool) | int (i:Int) | str (x:Str) | tup (xs:List D) | lst (xs:List D) | dct (ks vs:List D) | exc (c:Nat)
 deriving Inhabited
inductive R (α:Type) where
 |ok (a:α) | err (c:Nat) | stk
namespace R
noncomputable def bind {α β:Type}(x:R α)(f:α->R β):R β:=match x with
 |ok a=>f a
 |err c=>err c
 |stk=>stk
noncomputable def noErr {α:Type}:R α->R α
 |ok a=>ok a
 |_=>stk
noncomputable def pass {α:Type}(x:Bool)(r:R α):R α:=if x then r else r.noErr
end R
inductive Op where | add | sub | mul | fdiv | mod | pow
inductive Cm where | eq | ne | lt | le | gt | ge | isn | notn
 |isin | notin
inductive Bf where | len | tuple | list | all | any | sum | min | max | sorted | ssorted | abs | int | revl | revt
 |str
 |isup
 |lrng
inductive Sm where | join | cnt | splt
inductive Ty where | int | bool | str | tuple | list | dict | exc (c:Nat) | verr
 deriving DecidableEq
mutual
inductive E where
 |lit (d:D)
 |var (i:Nat)
 |bin (o:Op) (a b:E)
 |cmp (o:Cm) (a b:E)
 |and (a b:E) | or (a b:E) | not (a:E) | ite (c a b:E)
 |tup (es:Es) | lst (es:Es)
 |idx (a b:E) | slc (a:E) (lo hi:Oe)
 |call (f:Nat) (fl:List Bool) (es:Es)
 |blt (f:Bf) (a:E)
 |sm (f:Sm) (a b:E)
 |min2 (a b:E)
 |isi (a:E) (ks:List Ty)
 |comp (elt:E) (tg:List Nat) (one:Bool) (n:Nat) (caps:List Nat) (it:It) (c:Oe) (x:Bool)
 |pop (i:Nat)
inductive Es where
 |nil | cons (e:E) (es:Es)
inductive Oe where
 |none | some (e:E)
inductive It where
 |seq (e:E) | rng1 (a:E)
end
mutual
inductive S where
 |ret (e:E) | retN | expr (e:E) | asg (i:Nat) (e:E) | unp (is:List Nat) (e:E)
 |app (i:Nat) (e:E) | ext (i:Nat) (e:E)
 |sub (i:Nat) (k e:E)
 |rvs (i:Nat)
 |ife (c:E) (a b:Ss) | loop (tg:List Nat) (one:Bool) (it:It) (b:Ss) | whl (c:E) (b:Ss)
 |brk | cnt | pas | rai (c:Nat) (e:E)
 |tryx (b:S) (c:Nat) (i:Option Nat) (h:Ss)
inductive Ss where
 |nil | cons (s:S) (ss:Ss)
end
inductive O where | l (xs:List D) | d (ks vs:List D)
noncomputable def O.toD:O->D
 |.l xs=>.lst xs
 |.d ks vs=>.dct ks vs
inductive Sl where | no | dat (d:D) | own (o:O) (lent lock:Bool)
noncomputable abbrev Rho:=List Sl
inductive Vl where | dat (d:D) | tmp (o:O) | slot (i:Nat)
inductive Fl where | nx (ρ:Rho) | rt (v:Vl) (ρ:Rho) | bk (ρ:Rho) | ct (ρ:Rho)
mutual
noncomputable def eqD:D->D->Bool
 |.non,y=>match y with
  |.non=>true
  |_=>false
 |.bl a,y=>match y with
  |.bl b=>a == b
  |.int b=>(if a then 1 else 0) == b
  |_=>false
 |.int a,y=>match y with
  |.bl b=>a == (if b then 1 else 0)
  |.int b=>a == b
  |_=>false
 |.str a,y=>match y with
  |.str b=>a == b
  |_=>false
 |.tup a,y=>match y with
  |.tup b=>eqDs a b
  |_=>false
 |.lst a,y=>match y with
  |.lst b=>eqDs a b
  |_=>false
 |.dct _ _,_=>false
 |.exc _,_=>false
noncomputable def eqDs:List D->List D->Bool
 |[],[]=>true
 |a::as,b::bs=>eqD a b && eqDs as bs
 |_,_=>false
end
mutual
noncomputable def jbM:D->Bool
 |.non=>true
 |.bl _=>true
 |.int _=>true
 |.str _=>true
 |.tup a=>cmpDs a
 |.lst a=>cmpDs a
 |_=>false
noncomputable def cmpDs:List D->Bool
 |[]=>true
 |a::as=>jbM a && cmpDs as
end
mutual
noncomputable def deep:D->Nat
 |.tup a=>deeps a + 1
 |.lst a=>deeps a + 1
 |_=>0
noncomputable def deeps:List D->Nat
 |[]=>0
 |a::as=>Nat.max (deep a) (deeps as)
end
noncomputable def fits (n:Nat):Bool:=n<=16777216
noncomputable def opZ (a b:Int):Op->R Vl
 |.add=>.ok (.dat (.int (a + b)))
 |.sub=>.ok (.dat (.int (a - b)))
 |.mul=>if (-(2 ^ 64) < a/\a < 2 ^ 64)\/(-(2 ^ 64) < b/\b < 2 ^ 64)then .ok (.dat (.int (a * b)))else .stk
 |.fdiv=>if 0 < b/\b < 2 ^ 64 then .ok (.dat (.int (a / b)))else .stk
 |.mod=>if 0 < b then .ok (.dat (.int (a % b)))else .stk
 |.pow=>if 0<=b/\b<=1000000/\a.natAbs < 2 ^ 64 then .ok (.dat (.int (a ^ b.toNat)))else .stk
noncomputable def opC (v:R Vl):Op->R Vl
 |.add=>v
 |_=>.stk
noncomputable def opM (v:R Vl):Op->R Vl
 |.mul=>v
 |_=>.stk
noncomputable def opD (o:Op)(x y:D):R Vl:=match x with
 |.int a=>match y with
  |.int b=>opZ a b o
  |_=>.stk
 |.tup a=>match y with
  |.tup b=>opC (if fits (a.length + b.length)then .ok (.dat (.tup (a++b)))else .stk) o
  |_=>.stk
 |.lst a=>match y with
  |.lst b=>opC (if fits (a.length + b.length)then .ok (.tmp (.l (a++b)))else .stk) o
  |.int b=>opM (if 0<=b/\b<=16777216/\fits (a.length * b.toNat)then .ok (.tmp (.l (List.replicate b.toNat a).flatten))else .stk) o
  |_=>.stk
 |.str a=>match y with
  |.int b=>opM (if 0<=b/\b<=1000/\a.length<=1000 then .ok (.dat (.str (Txt.mul a b)))else .stk) o
  |.str b=>opC (if fits (a.length + b.length)then .ok (.dat (.str (a++b)))else .stk) o
  |_=>.stk
 |_=>.stk
noncomputable def jbz:D->R Bool
 |.non=>.ok false
 |.bl b=>.ok b
 |.int i=>.ok (i != 0)
 |.tup xs=>.ok (!xs.isEmpty)
 |.lst xs=>.ok (!xs.isEmpty)
 |_=>.stk
noncomputable def jbl:List D->Option (List Int)
 |[]=>some []
 |.int i::r=>(jbl r).map (i::·)
 |_::_=>none
noncomputable def lexLt:List Int->List Int->Bool
 |[],[]=>false
 |[],_::_=>true
 |_::_,[]=>false
 |x::xs,y::ys=>if x=y then lexLt xs ys else decide (x < y)
noncomputable def ltD:D->D->R Bool
 |.int a,.int b=>.ok (decide (a < b))
 |.tup a,.tup b=>match jbl a,jbl b with
  |some x,some y=>.ok (lexLt x y)
  |_,_=>.stk
 |_,_=>.stk
noncomputable def ja6:D->R (List D)
 |.tup xs=>.ok xs
 |.lst xs=>.ok xs
 |_=>.stk
noncomputable def eqR (a b:D):R Bool:=if jbM a && jbM b && deep a<=12 && deep b<=12 then .ok (eqD a b)else .stk
noncomputable def inR (a b:D):R Bool:=(ja6 b).bind fun ys=>if jbM a && cmpDs ys && deep a<=12 && deeps ys<=12 then .ok (ys.any fun y=>eqD y a)else .stk
noncomputable def inX (a b:D):R Bool:=match b with
 |.str y=>(match a with
  |.str x=>.ok (Txt.contains y x)
  |_=>.stk)
 |b=>inR a b
noncomputable def joi (f:Int->Int->Bool)(x y:D):R Bool:=match x with
 |.int a=>match y with
  |.int b=>.ok (f a b)
  |_=>.stk
 |_=>.stk
noncomputable def isN:D->Bool
 |.non=>true
 |_=>false
noncomputable def cmD (o:Cm)(a b:D):R Bool:=match o with
 |.eq=>eqR a b
 |.ne=>(eqR a b).bind fun c=>.ok (!c)
 |.lt=>ltD a b
 |.gt=>joi (fun a b=>decide (b < a)) a b
 |.le=>joi (fun a b=>decide (a<=b)) a b
 |.ge=>joi (fun a b=>decide (b<=a)) a b
 |.isn=>if isN b then .ok (isN a)else .stk
 |.notn=>if isN b then .ok (!isN a)else .stk
 |.isin=>inX a b
 |.notin=>(inX a b).bind fun c=>.ok (!c)
noncomputable def atI (xs:List D)(i:Int):R D:=
 if 0<=i then (match xs[i.toNat]? with | some d=>.ok d | none=>.stk)
 else if 0<=i + xs.length then (match xs[(i + xs.length).toNat]? with | some d=>.ok d | none=>.stk)else .stk
noncomputable def atC (x:Str)(i:Int):R D:=
 if fits x.length then
  (match (if 0<=i then x.cps.toList[i.toNat]? else if 0<=i + x.length then x.cps.toList[(i + x.length).toNat]? else none)with | some c=>.ok (.str ⟨#[c]⟩) | none=>.stk)
 else .stk
noncomputable def jfP:D->D->R D
 |.tup xs,.int i=>atI xs i
 |.lst xs,.int i=>atI xs i
 |.str x,.int i=>atC x i
 |_,_=>.stk
noncomputable def sIx (n d:Nat):Option Int->Nat
 |none=>d
 |some v=>if v < 0 then (v + n).toNat else min v.toNat n
noncomputable def cut {α:Type}(xs:List α)(lo hi:Option Int):List α:=(xs.drop (sIx xs.length 0 lo)).take (sIx xs.length xs.length hi - sIx xs.length 0 lo)
noncomputable def jhi:D->Option Int->Option Int->R Vl
 |.tup xs,lo,hi=>.ok (.dat (.tup (cut xs lo hi)))
 |.lst xs,lo,hi=>.ok (.tmp (.l (cut xs lo hi)))
 |.str x,lo,hi=>if fits x.length then .ok (.dat (.str (Txt.slice x lo hi)))else .stk
 |_,_,_=>.stk
noncomputable def jaH:List D->Option (List Bool)
 |[]=>some []
 |.bl b::r=>(jaH r).map (b::·)
 |.int i::r=>(jaH r).map ((i != 0)::·)
 |_::_=>none
noncomputable def jqH:List Int->Int->Int
 |[],m=>m
 |x::r,m=>jqH r (if x < m then x else m)
noncomputable def jqI:List Int->Int->Int
 |[],m=>m
 |x::r,m=>jqI r (if x > m then x else m)
noncomputable def jqJ (x:List Int):List (List Int)->List (List Int)
 |[]=>[x]
 |y::r=>if lexLt y x then y::jqJ x r else x::y::r
noncomputable def joj:List (List Int)->List (List Int)
 |[]=>[]
 |x::r=>jqJ x (joj r)
noncomputable def jl2:List (List Int)->List (List Int)
 |[]=>[]
 |x::r=>if r.contains x then jl2 r else x::jl2 r
noncomputable def jdu:List D->Option (List (List Int))
 |[]=>some []
 |.tup xs::r=>match jbl xs,jdu r with
  |some k,some ks=>some (k::ks)
  |_,_=>none
 |_::_=>none
noncomputable def jrb (k:List Int):D:=.tup (k.map .int)
noncomputable def jhV (kss:List (List Int)):R Vl:=if kss.all (fun k=>!k.isEmpty) && kss.length < 64 then .ok (.tmp (.l ((joj kss).map jrb)))else .stk
noncomputable def jgC (a:Int)(n:Nat):List D:=(List.range n).map fun (k:Nat)=>D.int (a + (k:Int))
noncomputable def bfD (f:Bf)(d:D):R Vl:=match f with
 |.abs=>match d with
  |.int i=>.ok (.dat (.int (if i < 0 then -i else i)))
  |_=>.stk
 |.int=>match d with
  |.int i=>.ok (.dat (.int i))
  |.bl b=>.ok (.dat (.int (if b then 1 else 0)))
  |.str x=>if x.length<=640 then (match PySem.intText? x with | some n=>.ok (.dat (.int n)) | none=>.stk)else .stk
  |_=>.stk
 |.len=>match d with
  |.str x=>if fits x.length then .ok (.dat (.int x.length))else .stk
  |d=>(ja6 d).bind fun xs=>.ok (.dat (.int xs.length))
 |.tuple=>(ja6 d).bind fun xs=>.ok (.dat (.tup xs))
 |.list=>(ja6 d).bind fun xs=>.ok (.tmp (.l xs))
 |.all=>(ja6 d).bind fun xs=>match jaH xs with | some bs=>.ok (.dat (.bl (bs.all id))) | none=>.stk
 |.any=>(ja6 d).bind fun xs=>match jaH xs with | some bs=>.ok (.dat (.bl (bs.any id))) | none=>.stk
 |.sum=>(ja6 d).bind fun xs=>match jbl xs with | some ns=>.ok (.dat (.int ns.sum)) | none=>.stk
 |.min=>(ja6 d).bind fun xs=>match jbl xs with | some (n::ns)=>.ok (.dat (.int (jqH ns n))) | _=>.stk
 |.max=>(ja6 d).bind fun xs=>match jbl xs with | some (n::ns)=>.ok (.dat (.int (jqI ns n))) | _=>.stk
 |.sorted=>match d with
  |.lst xs=>match jdu xs with | some kss=>jhV kss | none=>.stk
  |_=>.stk
 |.ssorted=>(ja6 d).bind fun xs=>match jdu xs with | some kss=>if kss.length < 4000 then jhV (jl2 kss)else .stk | none=>.stk
 |.revl=>match d with
  |.lst xs=>.ok (.tmp (.l xs.reverse))
  |_=>.stk
 |.revt=>match d with
  |.lst xs=>.ok (.dat (.tup xs.reverse))
  |.tup xs=>.ok (.dat (.tup xs.reverse))
  |_=>.stk
 |.str=>match d with
  |.int i=>if i.natAbs.log2 < 1920 then .ok (.dat (.str (Str.ofString (toString i))))else .stk
  |_=>.stk
 |.lrng=>match d with
  |.int n=>if 0<=n/\n<=16777216 then .ok (.tmp (.l (jgC 0 n.toNat)))else .stk
  |_=>.stk
 |.isup=>match d with
  |.str x=>.ok (.dat (.bl (Txt.isupper x)))
  |_=>.stk
noncomputable def jbP:List D->Option (List Str)
 |[]=>some []
 |.str x::r=>(jbP r).map (x::·)
 |_::_=>none
noncomputable def smD (f:Sm)(x:Str)(d:D):R Vl:=match f with
 |.join=>match d with
  |.lst xs=>(match jbP xs with
   |some ys=>if (ys.map (·.length)).sum + ys.length * x.length<=16777216 then .ok (.dat (.str (Txt.join x ys)))else .stk
   |none=>.stk)
  |_=>.stk
 |.cnt=>match d with
  |.str y=>.ok (.dat (.int (Txt.count x y)))
  |_=>.stk
 |.splt=>match d with
  |.str y=>if y.length != 0 && fits x.length && fits (Txt.split x y).length then .ok (.tmp (.l ((Txt.split x y).map .str)))else .stk
  |_=>.stk
noncomputable def jqK:Vl->R Str
 |.dat (.str x)=>.ok x
 |_=>.stk
noncomputable def tyB:D->Ty->Bool
 |.bl _,t=>t == .bool || t == .int
 |.int _,t=>t == .int
 |.str _,t=>t == .str
 |.tup _,t=>t == .tuple
 |.lst _,t=>t == .list
 |.dct _ _,t=>t == .dict
 |_,_=>false
noncomputable def tyP (d:D):Ty->R Bool
 |.exc _=>.stk
 |.verr=>.stk
 |t=>.ok (tyB d t)
section
variable (U:Nat->Nat->Bool)
noncomputable def jns (d:D)(t:Ty):R Bool:=match d with
 |.exc c=>match t with
  |.exc k=>.ok (U c k)
  |.verr=>.ok true
  |_=>.stk
 |d=>tyP d t
noncomputable def jap:D->List Ty->R Bool
 |_,[]=>.ok false
 |d,t::r=>(jns U d t).bind fun b=>if b then .ok true else jap d r
end
noncomputable def jdd:D->R (List D)
 |.int n=>if -16777216<=n/\n<=16777216 then .ok (jgC 0 n.toNat)else .stk
 |_=>.stk
noncomputable def jqL (f:Int->Int->Int)(x y:D):R D:=match x with
 |.int a=>match y with
  |.int b=>.ok (.int (f a b))
  |_=>.stk
 |_=>.stk
noncomputable def jqM (x y:D):R D:=jqL (fun a b=>if b < a then b else a) x y
noncomputable def deref (v:Vl)(ρ:Rho):R D:=match v with
 |.dat d=>.ok d
 |.tmp o=>.ok o.toD
 |.slot i=>match ρ[i]? with | some (.own o _ _)=>.ok o.toD | _=>.stk
noncomputable def toD (v:Vl)(ρ:Rho):R (D×Rho):=match v with
 |.dat d=>.ok (d,ρ)
 |.tmp o=>.ok (o.toD,ρ)
 |.slot i=>match ρ[i]? with | some (.own o false false)=>.ok (o.toD,ρ.set i (.dat o.toD)) | _=>.stk
noncomputable def jfQ (v:Vl)(ρ:Rho):R (Sl×Rho):=match v with
 |.tmp o=>.ok (.own o false false,ρ)
 |v=>(toD v ρ).bind fun p=>.ok (.dat p.1,p.2)
noncomputable def putT (tg:List Nat)(one:Bool)(d:D)(ρ:Rho):R Rho:=match one,tg,d with
 |true,[i],d=>.ok (ρ.set i (.dat d))
 |false,is,.tup xs=>if is.length=xs.length then .ok ((is.zip xs).foldl (fun r p=>r.set p.1 (.dat p.2)) ρ)else .stk
 |_,_,_=>.stk
noncomputable def jbw (v:Vl)(ρ:Rho):R (List D×List Nat×Rho):=match v with
 |.dat d=>(ja6 d).bind fun xs=>.ok (xs,[],ρ)
 |.tmp (.l xs)=>.ok (xs,[],ρ)
 |.slot i=>match ρ[i]? with
  |some (.own (.l xs) _ true)=>.ok (xs,[],ρ)
  |some (.own (.l xs) f false)=>.ok (xs,[i],ρ.set i (.own (.l xs) f true))
  |_=>.stk
 |_=>.stk
noncomputable def jbB (v:Vl)(ρ:Rho):R (List D×List Nat×Rho):=match v with
 |.dat (.str x)=>if fits x.length then .ok (x.cps.toList.map (fun c=>D.str ⟨#[c]⟩),[],ρ)else .stk
 |v=>jbw v ρ
noncomputable def unlk:List Nat->Rho->Rho
 |[],ρ=>ρ
 |i::r,ρ=>unlk r (match ρ[i]? with | some (.own o f _)=>ρ.set i (.own o f false) | _=>ρ)
noncomputable def jde (ls:List Nat):Fl->Fl
 |.nx ρ=>.nx (unlk ls ρ)
 |.bk ρ=>.bk (unlk ls ρ)
 |.ct ρ=>.ct (unlk ls ρ)
 |.rt v ρ=>.rt v (unlk ls ρ)
noncomputable def compGo (f:D->Rho->R (Option D×Rho)):List D->Rho->R (List D×Rho)
 |[],ρ=>.ok ([],ρ)
 |x::xs,ρ=>(f x ρ).bind fun p=>(compGo f xs p.2).bind fun q=>.ok (match p.1 with | some d=>d::q.1 | none=>q.1,q.2)
noncomputable def jbg (ρ:Rho)(caps:List Nat):Rho:=caps.map fun i=>match ρ[i]? with | some s=>s | none=>.no
noncomputable def jdf (nt:Nat)(caps:List Nat)(ρ:Rho):Rho:=List.replicate nt .no++jbg ρ caps
noncomputable def jaK:List Nat->Nat->Rho->Rho->Rho
 |[],_,_,ρ=>ρ
 |j::r,k,inn,ρ=>jaK r (k + 1) inn (match inn[k]? with | some s=>ρ.set j s | none=>ρ)
noncomputable def jdH (lend:Bool)(v:Vl)(ρ:Rho):R (Sl×Option (Nat×Bool×Bool)×Rho):=match lend,v with
 |true,.slot i=>match ρ[i]? with
  |some (.own o f k)=>.ok (.own o true k,some (i,f,k),ρ.set i .no)
  |_=>.stk
 |_,v=>(toD v ρ).bind fun p=>.ok (.dat p.1,none,p.2)
noncomputable def jaI:List Bool->List Vl->Rho->R (List Sl×List (Option (Nat×Bool×Bool))×Rho)
 |_,[],ρ=>.ok ([],[],ρ)
 |fl,v::vs,ρ=>(jdH (fl.headD false) v ρ).bind fun p=>(jaI fl.tail vs p.2.2).bind fun q=>.ok (p.1::q.1,p.2.1::q.2.1,q.2.2)
noncomputable def jaY:List (Option (Nat×Bool×Bool))->List Sl->Rho->Rho
 |[],_,ρ=>ρ
 |_,[],ρ=>ρ
 |none::r,_::fs,ρ=>jaY r fs ρ
 |some (i,f,k)::r,s::fs,ρ=>jaY r fs (match s with | .own o _ _=>ρ.set i (.own o f k) | _=>ρ)
noncomputable def jrc:Sl->Sl
 |.own o true k=>.own o true k
 |_=>.no
noncomputable def jcL:Vl->R Bool
 |.dat (.bl b)=>.ok b
 |_=>.stk
noncomputable def jcM:Sl->Sl
 |.own _ _ _=>.no
 |s=>s
noncomputable abbrev Calls:=Nat->List Sl->R (Vl×List Sl)
section
variable (G:Calls) (U:Nat->Nat->Bool)
mutual
noncomputable def evE:E->Rho->R (Vl×Rho)
 |.lit d,ρ=>.ok (.dat d,ρ)
 |.var i,ρ=>match ρ[i]? with | some (.dat d)=>.ok (.dat d,ρ) | some (.own _ _ _)=>.ok (.slot i,ρ) | _=>.stk
 |.bin o a b,ρ=>(evE a ρ).bind fun p=>(evE b p.2).bind fun q=>(deref p.1 q.2).bind fun x=>(deref q.1 q.2).bind fun y=>(opD o x y).bind fun v=>.ok (v,q.2)
 |.cmp o a b,ρ=>(evE a ρ).bind fun p=>(evE b p.2).bind fun q=>(deref p.1 q.2).bind fun x=>(deref q.1 q.2).bind fun y=>(cmD o x y).bind fun c=>.ok (.dat (.bl c),q.2)
 |.and a b,ρ=>(evE a ρ).bind fun p=>(jcL p.1).bind fun t=>if t then (evE b p.2).bind fun q=>(jcL q.1).bind fun u=>.ok (.dat (.bl u),q.2)else .ok (.dat (.bl false),p.2)
 |.or a b,ρ=>(evE a ρ).bind fun p=>(jcL p.1).bind fun t=>if t then .ok (.dat (.bl true),p.2)else (evE b p.2).bind fun q=>(jcL q.1).bind fun u=>.ok (.dat (.bl u),q.2)
 |.not a,ρ=>(evE a ρ).bind fun p=>(jcL p.1).bind fun t=>.ok (.dat (.bl (!t)),p.2)
 |.ite c a b,ρ=>(evT c ρ).bind fun t=>if t.1 then evE a t.2 else evE b t.2
 |.tup es,ρ=>(evEs es ρ).bind fun p=>if fits p.1.length then .ok (.dat (.tup p.1),p.2)else .stk
 |.lst es,ρ=>(evEs es ρ).bind fun p=>if fits p.1.length then .ok (.tmp (.l p.1),p.2)else .stk
 |.idx a b,ρ=>(evE a ρ).bind fun p=>(evE b p.2).bind fun q=>(deref p.1 q.2).bind fun x=>(deref q.1 q.2).bind fun y=>(jfP x y).bind fun d=>.ok (.dat d,q.2)
 |.slc a lo hi,ρ=>(evE a ρ).bind fun p=>(evO lo p.2).bind fun l=>(evO hi l.2).bind fun h=>(deref p.1 h.2).bind fun x=>(jhi x l.1 h.1).bind fun v=>.ok (v,h.2)
 |.call f fl es,ρ=>(evAs es ρ).bind fun p=>(jaI fl p.1 p.2).bind fun q=>(G f q.1).bind fun r=>.ok (r.1,jaY q.2.1 r.2 q.2.2)
 |.blt f a,ρ=>(evE a ρ).bind fun p=>(deref p.1 p.2).bind fun x=>(bfD f x).bind fun v=>.ok (v,p.2)
 |.sm f a b,ρ=>(evE a ρ).bind fun p=>(jqK p.1).bind fun x=>(evE b p.2).bind fun q=>(deref q.1 q.2).bind fun y=>(smD f x y).bind fun v=>.ok (v,q.2)
 |.min2 a b,ρ=>(evE a ρ).bind fun p=>(evE b p.2).bind fun q=>(deref p.1 q.2).bind fun x=>(deref q.1 q.2).bind fun y=>(jqM x y).bind fun d=>.ok (.dat d,q.2)
 |.isi a ks,ρ=>(evE a ρ).bind fun p=>(deref p.1 p.2).bind fun x=>(jap U x ks).bind fun b=>.ok (.dat (.bl b),p.2)
 |.comp elt tg one n caps it c x,ρ=>(evI it ρ).bind fun t=>((compGo (fun x r=>(putT tg one x (jdf n caps r)).bind fun r'=>
   match c with
   |.none=>(evE elt r').bind fun p=>(toD p.1 p.2).bind fun q=>.ok (some q.1,jaK caps n q.2 r)
   |.some k=>(evT k r').bind fun b=>if b.1 then (evE elt b.2).bind fun p=>(toD p.1 p.2).bind fun q=>.ok (some q.1,jaK caps n q.2 r)else .ok (none,jaK caps n b.2 r)) t.1 t.2.2).pass x).bind fun ys=>.ok (.tmp (.l ys.1),unlk t.2.1 ys.2)
 |.pop i,ρ=>match ρ[i]? with
  |some (.own (.l xs) f false)=>match xs.getLast? with
   |some d=>.ok (.dat d,ρ.set i (.own (.l xs.dropLast) f false))
   |none=>.stk
  |_=>.stk
noncomputable def evT:E->Rho->R (Bool×Rho)
 |.and a b,ρ=>(evT a ρ).bind fun p=>if p.1 then evT b p.2 else .ok (false,p.2)
 |.or a b,ρ=>(evT a ρ).bind fun p=>if p.1 then .ok (true,p.2)else evT b p.2
 |.not a,ρ=>(evT a ρ).bind fun p=>.ok (!p.1,p.2)
 |.cmp o a b,ρ=>(evE a ρ).bind fun p=>(evE b p.2).bind fun q=>(deref p.1 q.2).bind fun x=>(deref q.1 q.2).bind fun y=>(cmD o x y).bind fun c=>.ok (c,q.2)
 |.var i,ρ=>match ρ[i]? with | some (.dat d)=>(jbz d).bind fun b=>.ok (b,ρ) | some (.own o _ _)=>(jbz o.toD).bind fun b=>.ok (b,ρ) | _=>.stk
 |.isi a ks,ρ=>(evE a ρ).bind fun p=>(deref p.1 p.2).bind fun x=>(jap U x ks).bind fun b=>.ok (b,p.2)
 |.call f fl es,ρ=>(evAs es ρ).bind fun p=>(jaI fl p.1 p.2).bind fun q=>(G f q.1).bind fun r=>(deref r.1 []).bind fun d=>(jbz d).bind fun b=>.ok (b,jaY q.2.1 r.2 q.2.2)
 |.blt f a,ρ=>(evE a ρ).bind fun p=>(deref p.1 p.2).bind fun x=>(bfD f x).bind fun v=>(deref v []).bind fun d=>(jbz d).bind fun b=>.ok (b,p.2)
 |.idx a b,ρ=>(evE a ρ).bind fun p=>(evE b p.2).bind fun q=>(deref p.1 q.2).bind fun x=>(deref q.1 q.2).bind fun y=>(jfP x y).bind fun d=>(jbz d).bind fun t=>.ok (t,q.2)
 |.lit d,ρ=>(jbz d).bind fun b=>.ok (b,ρ)
 |.bin o a b,ρ=>(evE a ρ).bind fun p=>(evE b p.2).bind fun q=>(deref p.1 q.2).bind fun x=>(deref q.1 q.2).bind fun y=>(opD o x y).bind fun v=>(deref v []).bind fun d=>(jbz d).bind fun t=>.ok (t,q.2)
 |.slc a lo hi,ρ=>(evE a ρ).bind fun p=>(evO lo p.2).bind fun l=>(evO hi l.2).bind fun h=>(deref p.1 h.2).bind fun x=>(jhi x l.1 h.1).bind fun v=>(deref v []).bind fun d=>(jbz d).bind fun b=>.ok (b,h.2)
 |.ite _ _ _,_=>.stk
 |.tup _,_=>.stk
 |.lst _,_=>.stk
 |.sm _ _ _,_=>.stk
 |.min2 _ _,_=>.stk
 |.comp _ _ _ _ _ _ _ _,_=>.stk
 |.pop _,_=>.stk
noncomputable def evEs:Es->Rho->R (List D×Rho)
 |.nil,ρ=>.ok ([],ρ)
 |.cons e es,ρ=>(evE e ρ).bind fun p=>(toD p.1 p.2).bind fun q=>(evEs es q.2).bind fun r=>.ok (q.1::r.1,r.2)
noncomputable def evAs:Es->Rho->R (List Vl×Rho)
 |.nil,ρ=>.ok ([],ρ)
 |.cons e es,ρ=>(evE e ρ).bind fun p=>(evAs es p.2).bind fun r=>.ok (p.1::r.1,r.2)
noncomputable def evO:Oe->Rho->R (Option Int×Rho)
 |.none,ρ=>.ok (none,ρ)
 |.some e,ρ=>(evE e ρ).bind fun p=>match p.1 with | .dat (.int i)=>.ok (some i,p.2) | _=>.stk
noncomputable def evI:It->Rho->R (List D×List Nat×Rho)
 |.seq e,ρ=>(evE e ρ).bind fun p=>jbB p.1 p.2
 |.rng1 a,ρ=>(evE a ρ).bind fun p=>(deref p.1 p.2).bind fun x=>(jdd x).bind fun xs=>.ok (xs,[],p.2)
end
noncomputable def jl3 (g:Rho->R Fl):Fl->R Fl
 |.nx ρ=>g ρ
 |r=>.ok r
noncomputable def jb0 (f:D->Rho->R Fl):List D->Rho->R Fl
 |[],ρ=>.ok (.nx ρ)
 |x::xs,ρ=>(f x ρ).bind fun r=>match r with
  |.nx ρ'=>jb0 f xs ρ'
  |.ct ρ'=>jb0 f xs ρ'
  |.bk ρ'=>.ok (.nx ρ')
  |.rt v ρ'=>.ok (.rt v ρ')
noncomputable def jbQ (c:Rho->R (Bool×Rho))(f:Rho->R Fl):Nat->Rho->R Fl
 |0,_=>.stk
 |n + 1,ρ=>(c ρ).bind fun b=>if b.1 then (f b.2).bind fun r=>match r with
  |.nx ρ'=>jbQ c f n ρ'
  |.ct ρ'=>jbQ c f n ρ'
  |.bk ρ'=>.ok (.nx ρ')
  |.rt v ρ'=>.ok (.rt v ρ')else .ok (.nx b.2)
noncomputable def jjP (v:Vl)(ρ:Rho):R Fl:=match v with
 |.dat d=>.ok (.rt (.dat d) ρ)
 |.tmp o=>.ok (.rt (.tmp o) ρ)
 |.slot i=>match ρ[i]? with | some (.own o false false)=>.ok (.rt (.tmp o) (ρ.set i .no)) | _=>.stk
variable (W:Nat)
mutual
noncomputable def evS:S->Rho->R Fl
 |.ret e,ρ=>(evE G U e ρ).bind fun p=>jjP p.1 p.2
 |.retN,ρ=>.ok (.rt (.dat .non) ρ)
 |.expr e,ρ=>(evE G U e ρ).bind fun p=>.ok (.nx p.2)
 |.asg i e,ρ=>(evE G U e ρ).bind fun p=>(jfQ p.1 p.2).bind fun q=>if i < q.2.length then .ok (.nx (q.2.set i q.1))else .stk
 |.unp is e,ρ=>(evE G U e ρ).bind fun p=>(deref p.1 p.2).bind fun d=>(putT is false d p.2).bind fun ρ'=>.ok (.nx ρ')
 |.app i e,ρ=>match ρ[i]? with
  |some (.own (.l _) _ _)=>(evE G U e ρ).bind fun p=>(toD p.1 p.2).bind fun q=>match q.2[i]? with
   |some (.own (.l xs) f false)=>if fits (xs.length + 1)then .ok (.nx (q.2.set i (.own (.l (xs++[q.1])) f false)))else .stk
   |_=>.stk
  |_=>.stk
 |.ext i e,ρ=>match ρ[i]? with
  |some (.own (.l _) _ _)=>(evE G U e ρ).bind fun p=>(deref p.1 p.2).bind fun x=>(ja6 x).bind fun ys=>match p.2[i]? with
   |some (.own (.l xs) f false)=>if fits (xs.length + ys.length)then .ok (.nx (p.2.set i (.own (.l (xs++ys)) f false)))else .stk
   |_=>.stk
  |_=>.stk
 |.sub i k e,ρ=>(evE G U e ρ).bind fun p=>(toD p.1 p.2).bind fun q=>match q.2[i]? with
  |some (.own (.l _) _ _)=>(evE G U k q.2).bind fun kd=>match kd.2[i]?,kd.1 with
   |some (.own (.l xs) f false),.dat (.int j)=>if 0<=j/\j < xs.length then .ok (.nx (kd.2.set i (.own (.l (xs.set j.toNat q.1)) f false)))else .stk
   |_,_=>.stk
  |_=>.stk
 |.rvs i,ρ=>match ρ[i]? with
  |some (.own (.l xs) f false)=>.ok (.nx (ρ.set i (.own (.l xs.reverse) f false)))
  |_=>.stk
 |.ife c a b,ρ=>(evT G U c ρ).bind fun t=>if t.1 then evSs a t.2 else evSs b t.2
 |.loop tg one it b,ρ=>(evI G U it ρ).bind fun t=>(jb0 (fun x r=>(putT tg one x r).bind fun r'=>evSs b r') t.1 t.2.2).bind fun r=>.ok (jde t.2.1 r)
 |.whl c b,ρ=>jbQ (fun r=>evT G U c r) (fun r=>evSs b r) W ρ
 |.brk,ρ=>.ok (.bk ρ)
 |.cnt,ρ=>.ok (.ct ρ)
 |.pas,ρ=>.ok (.nx ρ)
 |.rai c e,ρ=>(evE G U e ρ).bind fun _=>.err c
 |.tryx b c i h,ρ=>match evS b ρ with
  |.err c'=>if U c' c then (match i with
    |some k=>((evSs h ((ρ.map jcM).set k (.dat (.exc c')))).noErr).bind fun r=>match r with
     |.nx ρ'=>.ok (.nx (ρ'.set k .no))
     |_=>.stk
    |none=>.stk)
   else .stk
  |r=>r
noncomputable def evSs:Ss->Rho->R Fl
 |.nil,ρ=>.ok (.nx ρ)
 |.cons s ss,ρ=>(evS s ρ).bind (jl3 fun ρ'=>evSs ss ρ')
end
end
structure Def where
 ps:Nat
 n:Nat
 body:Ss
noncomputable def jgD (k:Nat)(ρ:Rho):List Sl:=(List.range k).map fun j=>match ρ[j]? with | some s=>jrc s | none=>.no
noncomputable def jc8 (k:Nat):Fl->R (Vl×List Sl)
 |.rt v ρ=>.ok (v,jgD k ρ)
 |.nx ρ=>.ok (.dat .non,jgD k ρ)
 |_=>.stk
noncomputable def jaa (U:Nat->Nat->Bool)(W:Nat)(P:List Def):Nat->Calls
 |0=>fun _ _=>.stk
 |n + 1=>fun f xs=>match P[f]? with
  |none=>.stk
  |some d=>if xs.length=d.ps then (evSs (jaa U W P n) U W d.body (xs++List.replicate (d.n - d.ps) .no)).bind (jc8 d.ps)else .stk
end DJ
namespace DJ
open PySem PySem.Spec PyProof.Rows L2
noncomputable abbrev Frag:=PySem.W.Frag
structure Kn where
 K:Frag
 cl:List Addr
noncomputable def KT (K:Frag)(a:Addr)(xs:List V):Prop:=∃(o:Obj) (its:Array Value) (n:Nat),K.lookup a=some o/\o.cls=.type "tuple"/\o.data=.seq its n/\its.size<=sizeLine/\Vals xs its.toList
noncomputable def KL (K:Frag)(a:Addr)(xs:List V):Prop:=∃(o:Obj) (its:Array Value) (n:Nat),K.lookup a=some o/\o.cls=.type "list"/\o.dict=none/\o.data=.seq its n/\its.size<=sizeLine/\Vals xs its.toList
noncomputable def FT (K:Frag)(F:Addr->Prop)(H:Hp)(a:Addr)(xs:List V):Prop:=(F a/\Rd H a (.tup xs))\/KT K a xs
noncomputable def FL (K:Frag)(F:Addr->Prop)(H:Hp)(a:Addr)(xs:List V):Prop:=(F a/\Rd H a (.lst xs))\/KL K a xs
theorem FT.sq {K:Frag}{F:Addr->Prop}{H:Hp}{a:Addr}{xs:List V}(h:FT K F H a xs):SqT K H a xs:=h.imp (·.2) id
theorem FL.sq {K:Frag}{F:Addr->Prop}{H:Hp}{a:Addr}{xs:List V}(h:FL K F H a xs):SqL K H a xs:=h.imp (·.2) id
noncomputable def jfR (a C:Addr)(h:Heap):Prop:=∃o vs,h.get? a=some o/\o.cls=.ref C/\o.data=.fields vs
section
variable (Z:Kn) (F:Addr->Prop) (H:Hp)
mutual
noncomputable def Rep:D->V->Prop
 |.non,v=>v=.non
 |.bl b,v=>v=.bl b
 |.int i,v=>v=.int i
 |.str x,v=>v=.str x
 |.tup ds,v=>∃a vs,v=.ref a/\FT Z.K F H a vs/\Reps ds vs
 |.lst ds,v=>∃a vs,v=.ref a/\FL Z.K F H a vs/\Reps ds vs
 |.dct ks vs,v=>∃a,v=.ref a/\F a/\ks=[]/\vs=[]/\H a=some (.dK [])
 |.exc c,v=>∃a C,v=.ref a/\F a/\Z.cl[c]?=some C/\H a=some (.ext (jfR a C))
noncomputable def Reps:List D->List V->Prop
 |[],vs=>vs=[]
 |d::ds,vs=>∃v r,vs=v::r/\Rep d v/\Reps ds r
end
noncomputable def HasO (l:Addr):O->Prop
 |.l xs=>∃vs,H l=some (.lst vs)/\Reps Z F H xs vs
 |.d ks vs=>ks=[]/\vs=[]/\H l=some (.dK [])
end
noncomputable def Keep (F F':Addr->Prop)(H H':Hp):Prop:=∀a,F a->F' a/\H' a=H a
theorem Keep.rd {F F':Addr->Prop}{H H':Hp}(k:Keep F F' H H'){a:Addr}{u:HO}(h:F a/\Rd H a u):F' a/\Rd H' a u:=by
 obtain⟨f,e⟩:=k a h.1;refine⟨f,?_⟩;unfold Rd;rw[e];exact h.2
theorem Keep.refl {F:Addr->Prop}{H:Hp}:Keep F F H H:=fun _ h=>⟨h,rfl⟩
theorem Keep.trans {F F1 F2:Addr->Prop}{H H1 H2:Hp}(a:Keep F F1 H H1)(b:Keep F1 F2 H1 H2):Keep F F2 H H2:=fun x h=>by
 obtain⟨f1,e1⟩:=a x h;obtain⟨f2,e2⟩:=b x f1;exact⟨f2,e2.trans e1⟩
section
variable {Z:Kn}{F F':Addr->Prop}{H H':Hp}
mutual
theorem Rep.mono (k:Keep F F' H H'):∀{d:D}{v:V},Rep Z F H d v->Rep Z F' H' d v
 |.non,_,h=>by simpa only[Rep] using h
 |.bl _,_,h=>by simpa only[Rep] using h
 |.int _,_,h=>by simpa only[Rep] using h
 |.str _,_,h=>by simpa only[Rep] using h
 |.tup ds,v,h=>by
  simp only[Rep]at h ⊢;obtain⟨a,vs,e,q,r⟩:=h;exact⟨a,vs,e,q.imp k.rd id,Reps.mono k r⟩
 |.lst ds,v,h=>by
  simp only[Rep]at h ⊢;obtain⟨a,vs,e,q,r⟩:=h;exact⟨a,vs,e,q.imp k.rd id,Reps.mono k r⟩
 |.dct ks vs,v,h=>by
  simp only[Rep]at h ⊢;obtain⟨a,e,q,h1,h2,r⟩:=h;obtain⟨f,e'⟩:=k a q;exact⟨a,e,f,h1,h2,e'.trans r⟩
 |.exc c,v,h=>by
  simp only[Rep]at h ⊢;obtain⟨a,C,e,q,h1,r⟩:=h;obtain⟨f,e'⟩:=k a q;exact⟨a,C,e,f,h1,e'.trans r⟩
theorem Reps.mono (k:Keep F F' H H'):∀{ds:List D}{vs:List V},Reps Z F H ds vs->Reps Z F' H' ds vs
 |[],_,h=>by simpa only[Reps] using h
 |d::ds,vs,h=>by
  simp only[Reps]at h ⊢;obtain⟨v,r,e,h1,h2⟩:=h;exact⟨v,r,e,Rep.mono k h1,Reps.mono k h2⟩
end
theorem HasO.mono (k:Keep F F' H H'){l:Addr}(e:H' l=H l):∀{o:O},HasO Z F H l o->HasO Z F' H' l o
 |.l xs,⟨vs,h1,h2⟩=>⟨vs,e.trans h1,h2.mono k⟩
 |.d ks vs,⟨h1,h2,h3⟩=>⟨h1,h2,e.trans h3⟩
theorem HasO.some {l:Addr}{o:O}(h:HasO Z F H l o):∃u,H l=Option.some u:=by
 cases o with
 |l xs=>obtain⟨vs,e,_⟩:=h;exact⟨_,e⟩
 |d ks vs=>exact⟨_,h.2.2⟩
theorem Reps.length:∀{ds:List D}{vs:List V},Reps Z F H ds vs->ds.length=vs.length
 |[],vs,h=>by simp only[Reps]at h;subst h;rfl
 |d::ds,vs,h=>by
  simp only[Reps]at h;obtain⟨v,r,rfl,_,h2⟩:=h;rw[jrA,jrA,Reps.length h2]
theorem Reps.get:∀{ds:List D}{vs:List V}{i:Nat}{d:D},Reps Z F H ds vs->ds[i]?=some d->∃v,vs[i]?=some v/\Rep Z F H d v
 |[],_,_,_,_,e=>by simp at e
 |x::ds,vs,0,d,h,e=>by
  simp only[Reps]at h;obtain⟨v,r,rfl,h1,_⟩:=h;simp at e;subst e;exact⟨v,rfl,h1⟩
 |x::ds,vs,i + 1,d,h,e=>by
  simp only[Reps]at h;obtain⟨v,r,rfl,_,h2⟩:=h;obtain⟨u,e1,e2⟩:=Reps.get (i:=i) h2 (by simpa using e)
  exact⟨u,by simpa using e1,e2⟩
theorem Reps.append:∀{ds es:List D}{vs us:List V},Reps Z F H ds vs->Reps Z F H es us->Reps Z F H (ds++es) (vs++us)
 |[],_,_,_,h,h'=>by simp only[Reps]at h;subst h;exact h'
 |d::ds,es,vs,us,h,h'=>by
  simp only[Reps]at h;obtain⟨v,r,rfl,h1,h2⟩:=h;show Reps Z F H (d::(ds++es)) (v::(r++us));simp only[Reps];exact⟨v,_,rfl,h1,Reps.append h2 h'⟩
theorem Reps.drop:∀{ds:List D}{vs:List V} (n:Nat),Reps Z F H ds vs->Reps Z F H (ds.drop n) (vs.drop n)
 |_,_,0,h=>h
 |[],vs,n + 1,h=>by simp only[Reps]at h;subst h;simp[Reps]
 |d::ds,vs,n + 1,h=>by
  simp only[Reps]at h;obtain⟨v,r,rfl,h1,h2⟩:=h;exact Reps.drop n h2
theorem Reps.take:∀{ds:List D}{vs:List V} (n:Nat),Reps Z F H ds vs->Reps Z F H (ds.take n) (vs.take n)
 |_,_,0,h=>by simp[Reps]
 |[],vs,n + 1,h=>by simp only[Reps]at h;subst h;simp[Reps]
 |d::ds,vs,n + 1,h=>by
  simp only[Reps]at h;obtain⟨v,r,rfl,h1,h2⟩:=h;simp only[List.take_succ_cons,Reps];exact⟨v,_,rfl,h1,Reps.take n h2⟩
theorem Reps.set {d:D}{v:V}(hd:Rep Z F H d v):∀{ds:List D}{vs:List V} (i:Nat),Reps Z F H ds vs->Reps Z F H (ds.set i d) (vs.set i v)
 |[],vs,i,h=>by simp only[Reps]at h;subst h;simp[Reps]
 |e::ds,vs,0,h=>by
  simp only[Reps]at h;obtain⟨u,r,rfl,h1,h2⟩:=h;simp only[List.set_cons_zero,Reps];exact⟨v,_,rfl,hd,h2⟩
 |e::ds,vs,i + 1,h=>by
  simp only[Reps]at h;obtain⟨u,r,rfl,h1,h2⟩:=h;simp only[List.set_cons_succ,Reps];exact⟨u,_,rfl,h1,Reps.set hd i h2⟩
theorem Reps.one {d:D}{v:V}(hd:Rep Z F H d v):Reps Z F H [d] [v]:=by simp only[Reps];exact⟨v,[],rfl,hd,rfl⟩
theorem Reps.nil:Reps Z F H [] []:=by simp only[Reps]
theorem Reps.cons {d:D}{v:V}{ds:List D}{vs:List V}(hd:Rep Z F H d v)(h:Reps Z F H ds vs):Reps Z F H (d::ds) (v::vs):=by simp only[Reps];exact⟨v,vs,rfl,hd,h⟩
theorem Reps.uncons {d:D}{ds:List D}{us:List V}(h:Reps Z F H (d::ds) us):∃v vs,us=v::vs/\Rep Z F H d v/\Reps Z F H ds vs:=by simpa only[Reps] using h
theorem Reps.reverse {ds:List D}{vs:List V}(h:Reps Z F H ds vs):Reps Z F H ds.reverse vs.reverse:=by
 induction ds generalizing vs with
 |nil=>simp only[Reps]at h;subst h;exact .nil
 |cons d ds ih=>
  simp only[Reps]at h;obtain⟨v,r,rfl,h1,h2⟩:=h;rw[List.reverse_cons,List.reverse_cons];exact(ih h2).append (.one h1)
theorem Reps.dropLast {ds:List D}{vs:List V}(h:Reps Z F H ds vs):Reps Z F H ds.dropLast vs.dropLast:=by
 rw[List.dropLast_eq_take,List.dropLast_eq_take,h.length];exact h.take _
theorem Reps.rep {ds:List D}{vs:List V}(h:Reps Z F H ds vs):∀k:Nat,Reps Z F H (List.replicate k ds).flatten (List.replicate k vs).flatten
 |0=>.nil
 |k + 1=>by
  rw[List.replicate_succ,List.replicate_succ,List.flatten_cons,List.flatten_cons];exact h.append (Reps.rep h k)
end
noncomputable def Dom (F:Addr->Prop)(H:Hp):Prop:=∀a,F a->∃o,H a=some o
structure Bs where
 hp:Hp
 lent:Nat->Option Addr
noncomputable def OwR (Z:Kn)(B:Bs)(F:Addr->Prop)(H:Hp)(i:Nat)(o:O)(f:Bool)(l:Addr):Prop:=¬F l/\HasO Z F H l o/\(f=true->B.lent i=some l)/\(f=false->B.hp l=none)
structure SR (Z:Kn)(B:Bs)(F:Addr->Prop)(H:Hp)(σ:L2.St)(ρ:Rho):Prop where
 dom:Dom F H
 len:ρ.length=σ.length
 dat:∀(i:Nat) (d:D),ρ[i]?=some (.dat d)->∃v,σ[i]?=some (some v)/\Rep Z F H d v
 own:∀(i:Nat) (o:O) (f k:Bool),ρ[i]?=some (.own o f k)->∃l,σ[i]?=some (some (.ref l))/\OwR Z B F H i o f l
 one:∀(i j:Nat) (o o':O) (f k f' k':Bool) (l:Addr),i≠j->ρ[i]?=some (.own o f k)->ρ[j]?=some (.own o' f' k')->σ[i]?=some (some (.ref l))->σ[j]?≠some (some (.ref l))
 base:∀b,H b=none->B.hp b=none
inductive Ow (σ:L2.St) (ρ:Rho) (b:Addr):Prop
 |mk (i:Nat) (o:O) (f:Bool) (k:Bool):(ρ[i]?=some (.own o f k))->(σ[i]?=some (some (.ref b)))->Ow σ ρ b
inductive Mb (σ:L2.St) (ρ:Rho) (b:Addr):Prop
 |mk (i:Nat) (o:O) (f:Bool):(ρ[i]?=some (.own o f false))->(σ[i]?=some (some (.ref b)))->Mb σ ρ b
theorem Mb.ow {σ:L2.St}{ρ:Rho}{b:Addr}(h:Mb σ ρ b):Ow σ ρ b:=let ⟨i,o,f,h1,h2⟩:=h;⟨i,o,f,false,h1,h2⟩
structure Go (σ:L2.St)(ρ:Rho)(F:Addr->Prop)(H:Hp)(σ':L2.St)(ρ':Rho)(F':Addr->Prop)(H':Hp):Prop where
 stay:∀b o,H b=some o->¬Mb σ ρ b->H' b=some o
 sub:∀a,F a->F' a
 new:∀a,F' a->F a\/H a=none\/Mb σ ρ a
 ow:∀(j:Nat) (o:O) (f k:Bool) (b:Addr),ρ'[j]?=some (.own o f k)->σ'[j]?=some (some (.ref b))->(∃o0 k0,ρ[j]?=some (.own o0 f k0)/\σ[j]?=some (some (.ref b))/\(k0=true->k=true))\/H b=none
 there:∀b o,H b=some o->∃o',H' b=some o'
section
variable {Z:Kn}{B:Bs}{F F1 F2:Addr->Prop}{H H1 H2:Hp}{σ σ1 σ2:L2.St}{ρ ρ1 ρ2:Rho}
theorem SR.noF (r:SR Z B F H σ ρ){b:Addr}(h:Ow σ ρ b):¬F b:=by
 obtain⟨i,o,f,k,h1,h2⟩:=h;obtain⟨l,e,w⟩:=r.own i o f k h1;rw[h2]at e;cases e;exact w.1
theorem SR.there (r:SR Z B F H σ ρ){b:Addr}(h:Ow σ ρ b):∃u,H b=some u:=by
 obtain⟨i,o,f,k,h1,h2⟩:=h;obtain⟨l,e,w⟩:=r.own i o f k h1;rw[h2]at e;cases e;exact w.2.1.some
theorem Go.mb (g:Go σ ρ F H σ1 ρ1 F1 H1){b:Addr}(h:Mb σ1 ρ1 b):Mb σ ρ b\/H b=none:=by
 obtain⟨i,o,f,h1,h2⟩:=h;rcases g.ow i o f false b h1 h2 with ⟨o0,k0,e1,e2,e3⟩ | z
 ·cases k0 with
  |false=>exact .inl ⟨i,o0,f,e1,e2⟩
  |true=>exact absurd (e3 rfl) (by decide)
 ·exact .inr z
theorem Go.owA (g:Go σ ρ F H σ1 ρ1 F1 H1){b:Addr}(h:Ow σ1 ρ1 b):Ow σ ρ b\/H b=none:=by
 obtain⟨i,o,f,k,h1,h2⟩:=h;rcases g.ow i o f k b h1 h2 with ⟨o0,k0,e1,e2,e3⟩ | z
 ·exact .inl ⟨i,o0,f,k0,e1,e2⟩
 ·exact .inr z
theorem Go.self {j:Nat}{o:O}{f k:Bool}{b:Addr}(h1:ρ[j]?=some (.own o f k))(h2:σ[j]?=some (some (.ref b))):(∃o0 k0,ρ[j]?=some (.own o0 f k0)/\σ[j]?=some (some (.ref b))/\(k0=true->k=true))\/H b=none:=.inl ⟨o,k,h1,h2,id⟩
theorem Go.refl:Go σ ρ F H σ ρ F H:=⟨fun _ _ h _=>h,fun _ h=>h,fun _ h=>.inl h,fun _ _ _ _ _ h1 h2=>Go.self h1 h2,fun _ o h=>⟨o,h⟩⟩
theorem Go.trans (a:Go σ ρ F H σ1 ρ1 F1 H1)(b:Go σ1 ρ1 F1 H1 σ2 ρ2 F2 H2):Go σ ρ F H σ2 ρ2 F2 H2:=by
 have back:∀{c:Addr},H1 c=none->H c=none:=fun {c} h1=>by
  cases q:H c with
  |none=>rfl
  |some o=>obtain⟨u,e⟩:=a.there c o q;rw[h1]at e;cases e
 refine⟨fun c o h n=>b.stay c o (a.stay c o h n) fun m=>?_,fun c h=>b.sub c (a.sub c h),fun c h=>?_,fun j o f k c h1 h2=>?_,fun c o h=>let ⟨o1,h1⟩:=a.there c o h;b.there c o1 h1⟩
 ·rcases a.mb m with z | z
  ·exact n z
  ·rw[h]at z;cases z
 ·rcases b.new c h with z | z | z
  ·exact a.new c z
  ·exact .inr (.inl (back z))
  ·exact .inr ((a.mb z).elim .inr .inl)
 ·rcases b.ow j o f k c h1 h2 with ⟨o0,k0,e1,e2,e3⟩ | z
  ·rcases a.ow j o0 f k0 c e1 e2 with ⟨o1,k1,q1,q2,q3⟩ | z
   ·exact .inl ⟨o1,k1,q1,q2,fun w=>e3 (q3 w)⟩
   ·exact .inr z
  ·exact .inr (back z)
theorem Go.free (g:Go σ ρ F H σ1 ρ1 F1 H1){l:Addr}(h:H1 l=none):H l=none:=by
 cases q:H l with
 |none=>rfl
 |some o=>obtain⟨u,e⟩:=g.there l o q;rw[h]at e;cases e
theorem Go.keep (g:Go σ ρ F H σ1 ρ1 F1 H1)(r:SR Z B F H σ ρ):Keep F F1 H H1:=fun a h=>by
 obtain⟨o,e⟩:=r.dom a h;exact⟨g.sub a h,(g.stay a o e fun m=>r.noF m.ow h).trans e.symm⟩
theorem Go.side (g:Go σ ρ F H σ1 ρ1 F1 H1){l:Addr}{o:HO}(h:H l=some o)(hF:¬F l)(hO:¬Ow σ ρ l):H1 l=some o/\¬F1 l/\¬Ow σ1 ρ1 l:=by
 refine⟨g.stay l o h fun m=>hO m.ow,fun z=>?_,fun z=>?_⟩
 ·rcases g.new l z with q | q | q
  ·exact hF q
  ·rw[h]at q;cases q
  ·exact hO q.ow
 ·rcases g.owA z with q | q
  ·exact hO q
  ·rw[h]at q;cases q
structure Ext (F:Addr->Prop)(H:Hp)(F':Addr->Prop)(H':Hp):Prop where
 sub:∀a,F a->F' a
 same:Same H H'
 new:∀a,F' a->F a\/H a=none
 dom:∀a,F' a->∃o,H' a=some o
theorem Ext.refl (d:Dom F H):Ext F H F H:=⟨fun _ h=>h,Same.refl _,fun _ h=>.inl h,d⟩
theorem Ext.trans (a:Ext F H F1 H1)(b:Ext F1 H1 F2 H2):Ext F H F2 H2:=
 ⟨fun x h=>b.sub x (a.sub x h),a.same.trans b.same,fun x h=>(b.new x h).elim (a.new x) fun n=>.inr (a.same.free n),b.dom⟩
theorem Ext.keep (a:Ext F H F1 H1)(d:Dom F H):Keep F F1 H H1:=fun x h=>by
 obtain⟨o,e⟩:=d x h;exact⟨a.sub x h,(a.same x o e).trans e.symm⟩
theorem Ext.newF {p:Addr}{o:HO}(d:Dom F H)(h:H p=none):Ext F H (fun a=>F a\/a=p) (upd H p o):=
 ⟨fun _ h=>.inl h,fun b u e=>by rw[jad (jab e h)];exact e,fun a q=>q.imp id fun (e:a=p)=>by rw[e];exact h,fun a q=>by
  rcases q with q | rfl
  ·obtain⟨u,e⟩:=d a q;exact⟨u,by rw[jad (jab e h)];exact e⟩
  ·exact⟨o,jan⟩⟩
theorem Ext.newO {p:Addr}{o:HO}(d:Dom F H)(h:H p=none):Ext F H F (upd H p o):=
 ⟨fun _ h=>h,fun b u e=>by rw[jad (jab e h)];exact e,fun a q=>.inl q,fun a q=>by
  obtain⟨u,e⟩:=d a q;exact⟨u,by rw[jad (jab e h)];exact e⟩⟩
theorem Ext.go (e:Ext F H F1 H1):Go σ ρ F H σ ρ F1 H1:=⟨fun b o h _=>e.same b o h,e.sub,fun a h=>(e.new a h).imp id .inl,fun _ _ _ _ _ h1 h2=>Go.self h1 h2,fun b o h=>⟨o,e.same b o h⟩⟩
theorem SR.ext (r:SR Z B F H σ ρ)(e:Ext F H F1 H1):SR Z B F1 H1 σ ρ where
 dom:=e.dom
 len:=r.len
 dat:=fun i d h=>let ⟨v,h1,h2⟩:=r.dat i d h;⟨v,h1,h2.mono (e.keep r.dom)⟩
 own:=fun i o f k h=>by
  obtain⟨l,h1,h2,h3,h4⟩:=r.own i o f k h;obtain⟨u,hu⟩:=h3.some;refine⟨l,h1,fun z=>?_,h3.mono (e.keep r.dom) ((e.same l u hu).trans hu.symm),h4⟩;rcases e.new l z with z | z
  ·exact h2 z
  ·rw[hu]at z;cases z
 one:=r.one
 base:=fun b h=>r.base b (e.same.free h)
theorem SR.put (r:SR Z B F H σ ρ){i:Nat}{d:D}{v:V}(h:Rep Z F H d v):SR Z B F H (σ.set i (some v)) (ρ.set i (.dat d)) where
 dom:=r.dom
 len:=by simp[r.len]
 dat:=fun j e hj=>by
  rw[jrv]at hj ⊢;by_cases hij:i=j
  ·subst hij;rw[if_pos rfl]at hj ⊢;rw[<-r.len];split at hj
   ·rename_i hl;cases hj;exact⟨v,by rw[if_pos hl],h⟩
   ·cases hj
  ·rw[if_neg hij]at hj ⊢;exact r.dat j e hj
 own:=fun j o f k hj=>by
  rw[jrv]at hj ⊢;by_cases hij:i=j
  ·subst hij;rw[if_pos rfl]at hj;split at hj <;> cases hj
  ·rw[if_neg hij]at hj ⊢;exact r.own j o f k hj
 one:=fun j k o o' f kk f' kk' l hjk hj hk=>by
  rw[jrv]at hj hk;rw[jrv,jrv];by_cases h1:i=j
  ·rw[if_pos h1]at hj;split at hj <;> cases hj
  ·by_cases h2:i=k
   ·rw[if_pos h2]at hk;split at hk <;> cases hk
   ·rw[if_neg h1]at hj ⊢;rw[if_neg h2]at hk ⊢;exact r.one j k o o' f kk f' kk' l hjk hj hk
 base:=r.base
theorem Go.put {i:Nat}{d:D}{v:V}:Go σ ρ F H (σ.set i (some v)) (ρ.set i (.dat d)) F H:=by
 refine⟨fun _ _ h _=>h,fun _ h=>h,fun _ h=>.inl h,fun j o f k b h1 h2=>?_,fun _ o h=>⟨o,h⟩⟩;rw[jrv]at h1 h2;by_cases hij:i=j
 ·rw[if_pos hij]at h1;split at h1 <;> cases h1
 ·rw[if_neg hij]at h1 h2;exact Go.self h1 h2
theorem SR.putOwn (r:SR Z B F H σ ρ){i:Nat}{o:O}{l:Addr}(hF:¬F l)(hO:¬Ow σ ρ l)(hb:B.hp l=none)(h:HasO Z F H l o):SR Z B F H (σ.set i (some (.ref l))) (ρ.set i (.own o false false)) where
 dom:=r.dom
 len:=by simp[r.len]
 dat:=fun j e hj=>by
  rw[jrv]at hj ⊢;by_cases hij:i=j
  ·subst hij;rw[if_pos rfl]at hj;split at hj <;> cases hj
  ·rw[if_neg hij]at hj ⊢;exact r.dat j e hj
 own:=fun j o' f k hj=>by
  rw[jrv]at hj ⊢;by_cases hij:i=j
  ·subst hij;rw[if_pos rfl]at hj ⊢;rw[<-r.len];split at hj
   ·rename_i hl';cases hj;exact⟨l,by rw[if_pos hl'],hF,h,(fun z=>by cases z),fun _=>hb⟩
   ·cases hj
  ·rw[if_neg hij]at hj ⊢;exact r.own j o' f k hj
 one:=fun j k o1 o2 f1 k1 f2 k2 m hjk hj hk=>by
  rw[jrv]at hj hk;rw[jrv,jrv];by_cases h1:i=j
  ·subst h1;rw[if_neg hjk]at hk ⊢;rw[if_pos rfl];intro q z;split at q
   ·cases q;exact hO ⟨k,_,_,_,hk,z⟩
   ·cases q
  ·by_cases h2:i=k
   ·subst h2;rw[if_neg h1]at hj ⊢;rw[if_pos rfl];intro q z;split at z
    ·cases z;exact hO ⟨j,_,_,_,hj,q⟩
    ·cases z
   ·rw[if_neg h1]at hj ⊢;rw[if_neg h2]at hk ⊢;exact r.one j k _ _ _ _ _ _ m hjk hj hk
 base:=r.base
theorem Go.putOwn (g:Go σ ρ F H σ ρ1 F1 H1){i:Nat}{o:O}{l:Addr}(hn:H l=none):Go σ ρ F H (σ.set i (some (.ref l))) (ρ1.set i (.own o false false)) F1 H1:=by
 refine⟨g.stay,g.sub,g.new,fun j o' f k b h1 h2=>?_,g.there⟩;rw[jrv]at h1 h2;by_cases hij:i=j
 ·rw[if_pos hij]at h2;split at h2
  ·cases h2;exact .inr hn
  ·cases h2
 ·rw[if_neg hij]at h1 h2;exact g.ow j o' f k b h1 h2
noncomputable def Le (ρ' ρ:Rho):Prop:=ρ'.length=ρ.length/\(∀(i:Nat) d,ρ'[i]?=some (.dat d)->ρ[i]?=some (.dat d))/\(∀(i:Nat) o f k,ρ'[i]?=some (.own o f k)->ρ[i]?=some (.own o f k))
theorem Le.no {i:Nat}:Le (ρ.set i .no) ρ:=by
 refine⟨by simp,fun j d h=>?_,fun j o f k h=>?_⟩
 ·rw[jrv]at h;by_cases e:i=j
  ·rw[if_pos e]at h;split at h <;> cases h
  ·rw[if_neg e]at h;exact h
 ·rw[jrv]at h;by_cases e:i=j
  ·rw[if_pos e]at h;split at h <;> cases h
  ·rw[if_neg e]at h;exact h
theorem SR.weak (r:SR Z B F H σ ρ)(h:Le ρ1 ρ):SR Z B F H σ ρ1:=
 ⟨r.dom,h.1.trans r.len,fun i d q=>r.dat i d (h.2.1 i d q),fun i o f k q=>r.own i o f k (h.2.2 i o f k q),fun i j o o' f k f' k' l hij h1 h2=>r.one i j o o' f k f' k' l hij (h.2.2 _ _ _ _ h1) (h.2.2 _ _ _ _ h2),r.base⟩
theorem Go.weak (h:Le ρ1 ρ):Go σ ρ F H σ ρ1 F H:=
 ⟨fun _ _ h _=>h,fun _ h=>h,fun _ h=>.inl h,fun i o f k b h1 h2=>Go.self (h.2.2 _ _ _ _ h1) h2,fun _ o h=>⟨o,h⟩⟩
theorem SR.frz (r:SR Z B F H σ ρ){i:Nat}{o:O}{f k:Bool}{l:Addr}(h:ρ[i]?=some (.own o f k))(hl:σ[i]?=some (some (.ref l))) :
  Keep F (fun a=>F a\/a=l) H H/\SR Z B (fun a=>F a\/a=l) H σ (ρ.set i (.dat o.toD))/\Rep Z (fun a=>F a\/a=l) H o.toD (.ref l):=by
 obtain⟨l',h1,h2,h3,h4⟩:=r.own i o f k h;rw[hl]at h1;cases h1;have kp:Keep F (fun a=>F a\/a=l) H H:=fun a q=>⟨.inl q,rfl⟩;have hi:i < ρ.length:=(List.getElem?_eq_some_iff.mp h).1;have rp:Rep Z (fun a=>F a\/a=l) H o.toD (.ref l):=by
  cases o with
  |l xs=>
   obtain⟨vs,e,q⟩:=h3;simp only[O.toD,Rep];exact⟨l,vs,rfl,.inl ⟨.inr rfl,.inl e⟩,q.mono kp⟩
  |d ks vs=>
   obtain⟨e1,e2,e3⟩:=h3;simp only[O.toD,Rep];exact⟨l,rfl,.inr rfl,e1,e2,e3⟩
 refine⟨kp,⟨fun a q=>q.elim (r.dom a) fun (e:a=l)=>by rw[e];exact h3.some,by simp[r.len],fun j d hj=>?_,fun j o' f' k' hj=>?_,fun j jj o1 o2 f1 k1 f2 k2 m hjk hj hk=>?_,r.base⟩,rp⟩
 ·rw[jrv]at hj;by_cases hij:i=j
  ·subst hij;rw[if_pos rfl,if_pos hi]at hj;cases hj;exact⟨_,hl,rp⟩
  ·rw[if_neg hij]at hj;obtain⟨v,e1,e2⟩:=r.dat j d hj;exact⟨v,e1,e2.mono kp⟩
 ·rw[jrv]at hj;by_cases hij:i=j
  ·subst hij;rw[if_pos rfl,if_pos hi]at hj;cases hj
  ·rw[if_neg hij]at hj;obtain⟨l',e1,e2,e3,e4⟩:=r.own j o' f' k' hj;refine⟨l',e1,fun z=>z.elim e2 fun z=>?_,e3.mono kp rfl,e4⟩;subst z;exact r.one i j _ _ _ _ _ _ l' hij h hj hl e1
 ·rw[jrv]at hj hk;by_cases h1:i=j
  ·subst h1;rw[if_pos rfl,if_pos hi]at hj;cases hj
  ·by_cases h2:i=jj
   ·subst h2;rw[if_pos rfl,if_pos hi]at hk;cases hk
   ·rw[if_neg h1]at hj;rw[if_neg h2]at hk;exact r.one j jj _ _ _ _ _ _ m hjk hj hk
theorem Go.frz {i:Nat}{o:O}{f:Bool}{l:Addr}{d:D}(h:ρ[i]?=some (.own o f false))(hl:σ[i]?=some (some (.ref l))):Go σ ρ F H σ (ρ.set i (.dat d)) (fun a=>F a\/a=l) H:=by
 refine⟨fun _ _ h _=>h,fun _ h=>.inl h,fun a q=>q.imp id fun (e:a=l)=>.inr ⟨i,o,f,h,by rw[e];exact hl⟩,fun j o' f' k' b h1 h2=>?_,fun _ o h=>⟨o,h⟩⟩
 rw[jrv]at h1;by_cases e:i=j
 ·rw[if_pos e]at h1;split at h1 <;> cases h1
 ·rw[if_neg e]at h1;exact Go.self h1 h2
theorem SR.wr (r:SR Z B F H σ ρ){i:Nat}{o o':O}{f k:Bool}{l:Addr}{u:HO}(h:ρ[i]?=some (.own o f k))(hi:σ[i]?=some (some (.ref l)))(q:Keep F F H (upd H l u)->HasO Z F (upd H l u) l o')(k':Bool) :
  Keep F F H (upd H l u)/\SR Z B F (upd H l u) σ (ρ.set i (.own o' f k')):=by
 obtain⟨l',h1,h2,h3,h4⟩:=r.own i o f k h;rw[hi]at h1;cases h1;have kp:Keep F F H (upd H l u):=fun a q=>⟨q,jad fun z=>h2 (z ▸ q)⟩;have q:=q kp;have hlt:i < ρ.length:=(List.getElem?_eq_some_iff.mp h).1;refine⟨kp,fun a q=>?_,by simp[r.len],fun j d hj=>?_,fun j o1 f1 k1 hj=>?_,fun j jj o1 o2 f1 k1 f2 k2 m hjk hj hk=>?_,fun b hb=>r.base b (by
  unfold upd at hb;split at hb
  ·cases hb
  ·exact hb)⟩
 ·obtain⟨o,e⟩:=r.dom a q;exact⟨o,(kp a q).2.trans e⟩
 ·rw[jrv]at hj;by_cases hij:i=j
  ·subst hij;rw[if_pos rfl,if_pos hlt]at hj;cases hj
  ·rw[if_neg hij]at hj;obtain⟨v,e1,e2⟩:=r.dat j d hj;exact⟨v,e1,e2.mono kp⟩
 ·rw[jrv]at hj;by_cases hij:i=j
  ·subst hij;rw[if_pos rfl,if_pos hlt]at hj;cases hj;exact⟨l,hi,h2,q,h4⟩
  ·rw[if_neg hij]at hj;obtain⟨l',e1,e2,e3,e4⟩:=r.own j o1 f1 k1 hj;refine⟨l',e1,e2,e3.mono kp (jad fun z=>?_),e4⟩;subst z;exact r.one i j _ _ _ _ _ _ l' hij h hj hi e1
 ·have back:∀{j:Nat}{o1:O}{f1 k1:Bool},(ρ.set i (.own o' f k'))[j]?=some (.own o1 f1 k1)->∃o2 f2 k2,ρ[j]?=some (.own o2 f2 k2):=fun {j o1 f1 k1} hj=>by
   rw[jrv]at hj;by_cases hij:i=j
   ·subst hij;exact⟨_,_,_,h⟩
   ·rw[if_neg hij]at hj;exact⟨_,_,_,hj⟩
  obtain⟨_,_,_,hj'⟩:=back hj;obtain⟨_,_,_,hk'⟩:=back hk;exact r.one j jj _ _ _ _ _ _ m hjk hj' hk'
theorem Go.wr {i:Nat}{o o':O}{f:Bool}{l:Addr}{u:HO}(h:ρ[i]?=some (.own o f false))(hi:σ[i]?=some (some (.ref l))):Go σ ρ F H σ (ρ.set i (.own o' f false)) F (upd H l u):=by
 have hm:Mb σ ρ l:=⟨i,o,f,h,hi⟩;refine⟨fun b w e n=>by rw[jad fun z=>n (by rw[z];exact hm)];exact e,fun _ h=>h,fun _ h=>.inl h,fun j o1 f1 k1 b h1 h2=>?_,fun b w e=>?_⟩
 ·rw[jrv]at h1;by_cases e:i=j
  ·subst e;rw[if_pos rfl]at h1;split at h1
   ·cases h1;exact .inl ⟨o,false,h,h2,id⟩
   ·cases h1
  ·rw[if_neg e]at h1;exact Go.self h1 h2
 ·by_cases z:b=l
  ·exact⟨u,by rw[z];exact jan⟩
  ·exact⟨w,by rw[jad z];exact e⟩
theorem Go.lock {i:Nat}{o:O}{f k:Bool}(h:ρ[i]?=some (.own o f k)):Go σ ρ F H σ (ρ.set i (.own o f true)) F H:=by
 refine⟨fun _ _ h _=>h,fun _ h=>h,fun _ h=>.inl h,fun j o1 f1 k1 b h1 h2=>?_,fun _ o h=>⟨o,h⟩⟩;rw[jrv]at h1;by_cases e:i=j
 ·subst e;rw[if_pos rfl]at h1;split at h1
  ·cases h1;exact .inl ⟨o,k,h,h2,fun _=>rfl⟩
  ·cases h1
 ·rw[if_neg e]at h1;exact Go.self h1 h2
theorem SR.lock (r:SR Z B F H σ ρ){i:Nat}{o:O}{f k:Bool}(h:ρ[i]?=some (.own o f k))(k':Bool):SR Z B F H σ (ρ.set i (.own o f k')):=by
 have back:∀{j:Nat}{o1:O}{f1 k1:Bool},(ρ.set i (.own o f k'))[j]?=some (.own o1 f1 k1)->∃k2,ρ[j]?=some (.own o1 f1 k2):=fun {j o1 f1 k1} hj=>by
  rw[jrv]at hj;by_cases hij:i=j
  ·subst hij;rw[if_pos rfl]at hj;split at hj
   ·cases hj;exact⟨k,h⟩
   ·cases hj
  ·rw[if_neg hij]at hj;exact⟨_,hj⟩
 refine⟨r.dom,by simp[r.len],fun j d hj=>?_,fun j o1 f1 k1 hj=>?_,fun j jj o1 o2 f1 k1 f2 k2 m hjk hj hk=>?_,r.base⟩
 ·rw[jrv]at hj;by_cases hij:i=j
  ·rw[if_pos hij]at hj;split at hj <;> cases hj
  ·rw[if_neg hij]at hj;exact r.dat j d hj
 ·obtain⟨k2,e⟩:=back hj;exact r.own j o1 f1 k2 e
 ·obtain⟨_,e1⟩:=back hj;obtain⟨_,e2⟩:=back hk;exact r.one j jj _ _ _ _ _ _ m hjk e1 e2
theorem SR.oth (r:SR Z B F H σ ρ){p:Addr}{u:HO}(h1:¬F p)(h2:¬Ow σ ρ p):Keep F F H (upd H p u)/\SR Z B F (upd H p u) σ ρ:=by
 have kp:Keep F F H (upd H p u):=fun a q=>⟨q,jad fun z=>h1 (z ▸ q)⟩;refine⟨kp,fun a q=>?_,r.len,fun j d hj=>?_,fun j o f k hj=>?_,r.one,fun b hb=>r.base b (by
  unfold upd at hb;split at hb
  ·cases hb
  ·exact hb)⟩
 ·obtain⟨u,e⟩:=r.dom a q;exact⟨u,(kp a q).2.trans e⟩
 ·obtain⟨v,e1,e2⟩:=r.dat j d hj;exact⟨v,e1,e2.mono kp⟩
 ·obtain⟨l',e1,e2,e3,e4⟩:=r.own j o f k hj;refine⟨l',e1,e2,e3.mono kp (jad fun z=>?_),e4⟩;subst z;exact h2 ⟨j,o,f,k,hj,e1⟩
end
end DJ
namespace DJ
open PySem PySem.Spec PyProof.Rows L2
theorem R.bind_assoc {α β γ:Type}(r:R α)(f:α->R β)(g:β->R γ):(r.bind f).bind g=r.bind fun a=>(f a).bind g:=by cases r <;> rfl
theorem R.bind_ok' {α β:Type}(a:α)(f:α->R β):(R.ok a).bind f=f a:=rfl
theorem R.bind_ok {α β:Type}{r:R α}{f:α->R β}{b:β}(h:r.bind f=.ok b):∃a,r=.ok a/\f a=.ok b:=by
 cases r with
 |ok a=>exact⟨a,rfl,h⟩
 |err c=>cases h
 |stk=>cases h
noncomputable def Ok {α:Type}(W:Nat->Prop)(r:R α)(Q:α->Prop):Prop:=match r with
 |.ok d=>Q d
 |.err c=>W c
 |.stk=>False
theorem Ok.bind {α β:Type}{W:Nat->Prop}{r:R α}{f:α->R β}{Q:β->Prop}(h:Ok W (r.bind f) Q):Ok W r fun a=>Ok W (f a) Q:=by
 cases r with
 |ok a=>exact h
 |err c=>exact h
 |stk=>exact h
theorem Ok.imp {α:Type}{W W':Nat->Prop}{r:R α}{Q Q':α->Prop}(h:Ok W r Q)(w:∀c,W c->W' c)(k:∀a,Q a->Q' a):Ok W' r Q':=by
 cases r with
 |ok a=>exact k a h
 |err c=>exact w c h
 |stk=>exact h
theorem Ok.pure {α:Type}{W:Nat->Prop}{r:R α}{Q:α->Prop}(h:Ok W r Q)(hn:∀c,r≠.err c):∃a,r=.ok a/\Q a:=by
 cases r with
 |ok a=>exact⟨a,rfl,h⟩
 |err c=>exact absurd rfl (hn c)
 |stk=>exact h.elim
structure FlyC (X:Cx)(pins:List (Addr×Obj))(ea:Addr)(cls:Value)(H':Hp)(s':Shared):Prop where
 ex:∃a0 B,FlyA B X.stack ea cls a0 s'.heap/\(∀b o,X.s₀.heap.get? b=some o->b ∉ frs X.stack->b ∉ X.ex->∃o',B.get? b=some o')/\(∀x c,X.fn x=true->X.env.cells.lookup x=some c->∃o',B.get? c=some o') /\
  (∀p∈X.pn++pins,∃o',B.get? p.1=some o')/\(∀a o,H' a=some o->∃o',B.get? a=some o')
 free:H' ea=none
structure Stl (σ:L2.St)(ρ:Rho)(H H':Hp):Prop where
 stay:∀b o,H b=some o->¬Mb σ ρ b->H' b=some o
 there:∀b o,H b=some o->∃o',H' b=some o'
noncomputable def XW (Z:Kn)(X:Cx)(σ:L2.St)(ρ:Rho)(H:Hp)(c:Nat):Prop:=∀(pins:List (Addr×Obj)) (H':Hp) (s':Shared) (ea C:Addr),Z.cl[c]?=some C->Inv X pins σ H' s'->Stl σ ρ H H'->FlyC X pins ea (.ref C) H' s'->X.xe (.ref ea) s'
theorem Stl.go {σ σ1:L2.St}{ρ ρ1:Rho}{F F1:Addr->Prop}{H H1 H2:Hp}(g:Go σ ρ F H σ1 ρ1 F1 H1)(s:Stl σ1 ρ1 H1 H2):Stl σ ρ H H2 where
 stay b o e n:=s.stay b o (g.stay b o e n) fun m=>by
  rcases g.mb m with q | q
  ·exact n q
  ·rw[e]at q;cases q
 there b o e:=by
  obtain⟨o1,e1⟩:=g.there b o e;exact s.there b o1 e1
theorem XW.mono {Z:Kn}{X:Cx}{σ:L2.St}{ρ ρ1:Rho}{F F1:Addr->Prop}{H H1:Hp}{c:Nat}(h:XW Z X σ ρ H c)(g:Go σ ρ F H σ ρ1 F1 H1):XW Z X σ ρ1 H1 c:=
 fun pins H' s' ea C e I q y=>h pins H' s' ea C e I (q.go g) y
noncomputable def RV (Z:Kn)(F':Addr->Prop)(H0 H':Hp)(σ:L2.St)(ρ':Rho):Vl->V->Prop
 |.dat d,v=>Rep Z F' H' d v
 |.tmp o,v=>∃l,v=.ref l/\¬F' l/\¬Ow σ ρ' l/\H0 l=none/\HasO Z F' H' l o
 |.slot i,v=>σ[i]?=some (some v)
noncomputable def Post (Z:Kn)(B:Bs)(σ:L2.St)(ρ:Rho)(F:Addr->Prop)(H:Hp)(Q:VK)(p:Vl×Rho):Prop:=∀v F' H',Go σ ρ F H σ p.2 F' H'->SR Z B F' H' σ p.2->RV Z F' H H' σ p.2 p.1 v->Q v H'
inductive tE_I (Z:Kn) (X:Cx) (B:Bs) (f:Rho->R (Vl×Rho)) (σ:L2.St) (H:L2.Hp) (Q:L2.VK):Prop
 |mk (F:_) (ρ:_):(SR Z B F H σ ρ)->(Ok (XW Z X σ ρ H) (f ρ) (Post Z B σ ρ F H Q))->tE_I Z X B f σ H Q
noncomputable def tE (Z:Kn)(X:Cx)(B:Bs)(f:Rho->R (Vl×Rho)):TE:=fun σ H Q=>tE_I Z X B f σ H Q
inductive tT_I (Z:Kn) (X:Cx) (B:Bs) (f:Rho->R (Bool×Rho)) (σ:L2.St) (H:L2.Hp) (Q:(Bool->L2.Hp->Prop)):Prop
 |mk (F:_) (ρ:_):(SR Z B F H σ ρ)->(Ok (XW Z X σ ρ H) (f ρ) fun p=>∀F' H',Go σ ρ F H σ p.2 F' H'->SR Z B F' H' σ p.2->Q p.1 H')->tT_I Z X B f σ H Q
noncomputable def tT (Z:Kn)(X:Cx)(B:Bs)(f:Rho->R (Bool×Rho)):TT:=fun σ H Q=>tT_I Z X B f σ H Q
theorem PE.imp {X:Cx}{e:Expr}{t t':TE}(h:PE X e t)(k:∀σ H Q,t' σ H Q->t σ H Q):PE X e t':=fun pins s σ H Q I q=>h pins s σ H Q I (k σ H Q q)
theorem PT.imp {X:Cx}{e:Expr}{t t':TT}(h:PT X e t)(k:∀σ H Q,t' σ H Q->t σ H Q):PT X e t':=fun pins s σ H Q I q=>h pins s σ H Q I (k σ H Q q)
theorem PI.imp {X:Cx}{tg e:Expr}{t t':TI}(h:PI X tg e t)(k:∀σ H R,t' σ H R->t σ H R):PI X tg e t':=fun pins s σ H R I q=>h pins s σ H R I (k σ H R q)
theorem PO.imp {X:Cx}{e:Option Expr}{t t':TO}(h:PO X e t)(k:∀σ H Q,t' σ H Q->t σ H Q):PO X e t':=fun pins s σ H Q I q=>h pins s σ H Q I (k σ H Q q)
theorem PS.imp {X:Cx}{e:Stmt}{t t':TS}(h:PS X e t)(k:∀D σ H,t' D σ H->t D σ H):PS X e t':=fun pins s σ H D I q=>h pins s σ H D I (k D σ H q)
theorem PSs.imp {X:Cx}{e:List Stmt}{t t':TS}(h:PSs X e t)(k:∀D σ H,t' D σ H->t D σ H):PSs X e t':=fun pins s σ H D I q=>h pins s σ H D I (k D σ H q)
section
variable {Z:Kn}{X:Cx}{B:Bs}{σ:L2.St}{ρ ρ1:Rho}{F F1:Addr->Prop}{H H1:Hp}
theorem tE.congr {f g:Rho->R (Vl×Rho)}(h:∀ρ,f ρ=g ρ):tE Z X B f=tE Z X B g:=by rw[show f=g from funext h]
theorem tT.congr {f g:Rho->R (Bool×Rho)}(h:∀ρ,f ρ=g ρ):tT Z X B f=tT Z X B g:=by rw[show f=g from funext h]
theorem Post.ext {Q:VK}{p:Vl×Rho}(h:Post Z B σ ρ F H Q p)(g:Go σ ρ F H σ ρ1 F1 H1):Post Z B σ ρ1 F1 H1 Q p:=fun v F' H' g' r' q=>by
 refine h v F' H' (g.trans g') r' ?_;obtain⟨w,ρ'⟩:=p;cases w with
 |dat d=>exact q
 |tmp o=>obtain⟨l,e,h1,h2,h3,h4⟩:=q;exact⟨l,e,h1,h2,g.free h3,h4⟩
 |slot i=>exact q
end
end DJ
namespace DJ
open PySem PySem.Spec PyProof.Rows L2
inductive TgsOk (X:Cx):List Expr->List Nat->Prop where
 |nil:TgsOk X [] []
 |cons {x:Str}{pos:Pos}{i:Nat}{es:List Expr}{is:List Nat}:X.N[i]?=some x->Loc X.env.scope x->(X.fn x=true\/X.env.scope.names.lookup x=some .local)->TgsOk X es is->TgsOk X (.Name x pos::es) (i::is)
inductive TgOk (X:Cx):Expr->List Nat->Bool->Prop where
 |one {x:Str}{pos:Pos}{i:Nat}:X.N[i]?=some x->Loc X.env.scope x->(X.fn x=true\/X.env.scope.names.lookup x=some .local)->TgOk X (.Name x pos) [i] true
 |many {es:List Expr}{k:Nat}{pos:Pos}{is:List Nat}:TgsOk X es is->TgOk X (.Tuple es k pos) is false
noncomputable def gNs:List Nat->TGs
 |[]=>jqA
 |i::is=>jnQ (jlF i) (gNs is)
noncomputable def jjl (is:List Nat)(vs:List V)(σ:L2.St):L2.St:=(is.zip vs).foldl (fun r p=>r.set p.1 (some p.2)) σ
theorem jhW:∀{is:List Nat}{vs:List V}{σ:L2.St}{H:Hp}{Q:L2.St->Hp->Prop},is.length=vs.length->Q (jjl is vs σ) H->gNs is vs σ H Q
 |[],[],_,_,_,_,q=>⟨rfl,q⟩
 |[],_::_,_,_,_,e,_=>by simp at e
 |_::_,[],_,_,_,e,_=>by simp at e
 |i::is,v::vs,σ,H,Q,e,q=>⟨v,vs,rfl,jhW (is:=is) (vs:=vs) (σ:=σ.set i (some v)) (H:=H) (Q:=Q) (by simpa using e) q⟩
theorem TgsOk.pgs {X:Cx}(nd:X.N.Nodup){es:List Expr}{is:List Nat}(h:TgsOk X es is):PGs X es (gNs is):=by
 induction h with
 |nil=>exact jlG
 |cons h1 h2 h3 _ ih=>exact jjr (jhn nd h1 h2 h3) ih
theorem TgsOk.lens {X:Cx}{es:List Expr}{is:List Nat}(h:TgsOk X es is):(assignEach es X.env).length=is.length/\(assignEach es X.env).findIdx? (·.1)=none:=by
 induction h with
 |nil=>exact⟨rfl,rfl⟩
 |@cons x pos i es is _ _ _ _ ih=>
  have e:assignEach (Expr.Name x pos::es) X.env=(false,assign (.Name x pos) X.env)::assignEach es X.env:=rfl;rw[e];refine⟨by simp[ih.1],?_⟩
  rw[List.findIdx?_cons];simp[ih.2]
section
variable {Z:Kn}{B:Bs}{F:Addr->Prop}{H:Hp}
theorem SR.putN:∀{is:List Nat}{ds:List D}{vs:List V}{σ:L2.St}{ρ:Rho},SR Z B F H σ ρ->Reps Z F H ds vs ->
  SR Z B F H (jjl is vs σ) ((is.zip ds).foldl (fun r p=>r.set p.1 (.dat p.2)) ρ)/\Go σ ρ F H (jjl is vs σ) ((is.zip ds).foldl (fun r p=>r.set p.1 (.dat p.2)) ρ) F H
 |[],_,_,_,_,r,_=>by simpa[jjl] using⟨r,Go.refl⟩
 |_::_,[],vs,_,_,r,h=>by
  simp only[Reps]at h;subst h;simpa[jjl] using⟨r,Go.refl⟩
 |i::is,d::ds,vs,σ,ρ,r,h=>by
  simp only[Reps]at h;obtain⟨v,us,rfl,h1,h2⟩:=h;simp only[jjl,List.zip_cons_cons,List.foldl_cons];obtain⟨a,b⟩:=SR.putN (is:=is) (r.put (i:=i) h1) h2;exact⟨a,Go.put.trans b⟩
end
theorem jfS:∀{is:List Nat}{vs:List V}{σ:L2.St}{j:Nat},j ∉ is->(jjl is vs σ)[j]?=σ[j]?
 |[],_,_,_,_=>by simp[jjl]
 |_::_,[],_,_,_=>by simp[jjl]
 |i::is,v::vs,σ,j,h=>by
  simp only[jrt,not_or]at h;have:=jfS (is:=is) (vs:=vs) (σ:=σ.set i (some v)) h.2;simp only[jjl,List.zip_cons_cons,List.foldl_cons]at this ⊢;rw[this,jrJ (Ne.symm h.1)]
theorem jrd {Z:Kn}{X:Cx}{tg:Expr}{tgs:List Nat}{one:Bool}(hZ:X.K=Z.K)(hc:one=false->X.calm=true)(nd:X.N.Nodup)(T:TgOk X tg tgs one){pins:List (Addr×Obj)}{s:Shared}{σ:L2.St}{ρ ρ':Rho}{B:Bs}{F:Addr->Prop}{H:Hp}{d:D}{v:V}{u:Value}
  (I:Inv X pins σ H s) (r:SR Z B F H σ ρ) (rp:Rep Z F H d v) (rv:RelV v u) (hp:putT tgs one d ρ=.ok ρ') :
  wpAny (model X.prog X.w) X.A (assign tg X.env u) (fun _ s'=>∃σ',Inv X pins σ' H s'/\SR Z B F H σ' ρ'/\Go σ ρ F H σ' ρ' F H/\∀i:Nat,i ∉ tgs->σ'[i]?=σ[i]?) X.xe s:=by
 cases T with
 |@one x pos i h1 h2 h3=>
  simp only[putT]at hp;cases hp;refine thn (jhn nd h1 h2 h3 pins s σ H v u (fun σ' H'=>(SR Z B F H σ' (ρ.set i (.dat d))/\Go σ ρ F H σ' (ρ.set i (.dat d)) F H/\∀j:Nat,j ∉ [i]->σ'[j]?=σ[j]?)/\H'=H) I rv ⟨⟨r.put rp,Go.put,fun j hj=>jrJ (fun z=>hj (by simp[z]))⟩,rfl⟩) fun _ s' ⟨σ',H',I',q,e⟩=>?_
  subst e;exact⟨σ',I',q⟩
 |many h=>
  cases d with
  |tup ds=>
   simp only[putT]at hp;split at hp
   ·rename_i hl;cases hp;simp only[Rep]at rp;obtain⟨a,vs,rfl,ft,rs⟩:=rp;have hvl:vs.length=tgs.length:=by rw[hl,rs.length]
    refine thn (jkZ (n:=tgs.length) (hc rfl) (h.pgs nd) h.lens.1 h.lens.2 pins s σ H (.ref a) u (fun σ' H'=>(SR Z B F H σ' ((tgs.zip ds).foldl (fun r p=>r.set p.1 (.dat p.2)) ρ)/\Go σ ρ F H σ' ((tgs.zip ds).foldl (fun r p=>r.set p.1 (.dat p.2)) ρ) F H/\∀j:Nat,j ∉ tgs->σ'[j]?=σ[j]?)/\H'=H) I rv ⟨a,vs,rfl,(by rw[hZ];exact ft.sq),hvl,jhW hvl.symm ⟨⟨(r.putN rs).1,(r.putN rs).2,fun j hj=>jfS hj⟩,rfl⟩⟩) fun _ s' hzz=>?_
    obtain⟨σ',H',I',q,e⟩:=hzz;subst e;exact⟨σ',I',q⟩
   ·cases hp
  |_=>simp only[putT]at hp <;> cases hp
structure GK (F0:Addr->Prop)(H0:Hp)(ls:List Addr)(F:Addr->Prop)(H:Hp):Prop where
 keep:Keep F0 F H0 H
 ls:∀l∈ls,H l=H0 l
theorem GK.refl {F0:Addr->Prop}{H0:Hp}{ls:List Addr}:GK F0 H0 ls F0 H0:=⟨Keep.refl,fun _ _=>rfl⟩
theorem GK.ext {F0 F F1:Addr->Prop}{H0 H H1:Hp}{ls:List Addr}(g:GK F0 H0 ls F H)(d:Dom F H)(hl:∀l∈ls,∃o,H0 l=some o)(e:Ext F H F1 H1):GK F0 H0 ls F1 H1:=
 ⟨g.keep.trans (e.keep d),fun l h=>by
  obtain⟨o,q⟩:=hl l h;rw[e.same l o ((g.ls l h).trans q),q]⟩
theorem GK.go {Z:Kn}{B:Bs}{F0 F F1:Addr->Prop}{H0 H H1:Hp}{ls:List Addr}{σ σ1:L2.St}{ρ ρ1:Rho}(g:GK F0 H0 ls F H)(hl:∀l∈ls,∃o,H0 l=some o)(r:SR Z B F H σ ρ)(e:Go σ ρ F H σ1 ρ1 F1 H1)(hm:∀l∈ls,¬Mb σ ρ l):GK F0 H0 ls F1 H1:=
 ⟨g.keep.trans (e.keep r),fun l h=>by
  obtain⟨o,q⟩:=hl l h;rw[e.stay l o ((g.ls l h).trans q) (hm l h),q]⟩
noncomputable def ItmG (Z:Kn)(G:(Addr->Prop)->Hp->Prop)(J:L2.It)(xs:List D):Prop:=xs.length<=sizeLine/\∀F H,G F H->Dom F H ->
 (∀(i:Nat) (x:D),xs[i]?=some x->J.go i H/\∀v H2,J.yld i H v H2->∃F2,Ext F H F2 H2/\Rep Z F2 H2 x v)/\J.stop xs.length H
structure Wk (P:Program)(w:World)(Z:Kn)(tg:Expr)(F0:Addr->Prop)(H0:Hp)(ls:List Addr)(xs:List D)(fp:List Addr)(it:Addr)(tn:Nat->Heap->Prop):Prop where
 mem:it∈fp
 len:xs.length<=sizeLine
 lst:∀l∈ls,∃o,H0 l=some o
 obj:∀i h,tn i h->∀b∈fp,∃o,h.get? b=some o/\∀v,o.data≠.cell v
 keep:∀i h h',tn i h->(∀b∈fp,∀o,h.get? b=some o->h'.get? b=some o)->tn i h'
 self:∀(A:Around) (i:Nat) (s:Shared) (Q:Value->Shared->Prop) (E:Value->Shared->Prop),tn i s.heap->Q (.ref it) s->wpAny (model P w) A (pyIter (.ref it)) Q E s
 take:∀(X:Cx),X.prog=P->X.w=w->X.K=Z.K->X.calm=true->X.N.Nodup->∀tgs one,TgOk X tg tgs one ->
  ∀(i:Nat) (pins:List (Addr×Obj)) (s:Shared) (σ:L2.St) (ρ ρ':Rho) (B:Bs) (F:Addr->Prop) (H:Hp) (x:D),Inv X pins σ H s->SR Z B F H σ ρ->GK F0 H0 ls F H->(∀b∈fp,FpOk X pins H b)->tn i s.heap->xs[i]?=some x->putT tgs one x ρ=.ok ρ' ->
  wpAny (model P w) X.A (pyNext (.ref it)) (fun r s1=>∃u,r=some u/\wpAny (model P w) X.A (letOwnedTupleGo tg (.ref it) u) (fun _ s2=>wpAny (model P w) X.A (assign tg X.env u)
   (fun _ s3=>∃σ3 F3 H3,Inv X pins σ3 H3 s3/\SR Z B F3 H3 σ3 ρ'/\Go σ ρ F H σ3 ρ' F3 H3/\GK F0 H0 ls F3 H3/\tn (i + 1) s3.heap/\(∀b∈fp,H3 b=none)/\∀j:Nat,j ∉ tgs->σ3[j]?=σ[j]?) X.xe s2) X.xe s1) X.xe s
 done:∀(X:Cx),X.prog=P->X.w=w->X.K=Z.K->X.calm=true->∀(pins:List (Addr×Obj)) (s:Shared) (σ:L2.St) (F:Addr->Prop) (H:Hp),Inv X pins σ H s->Dom F H->GK F0 H0 ls F H->(∀b∈fp,FpOk X pins H b)->tn xs.length s.heap ->
  wpAny (model P w) X.A (pyNext (.ref it)) (fun r s1=>r=none/\Inv X pins σ H s1) X.xe s
theorem ItmG.wk {P:Program}{w:World}{Z:Kn}{K:Frag}{tg:Expr}{F0:Addr->Prop}{H0:Hp}{ls:List Addr}{J:L2.It}{xs:List D}{fp:List Addr}{it:Addr}{tn:Nat->Heap->Prop}(h:ItmG Z (GK F0 H0 ls) J xs)(hK:K=Z.K)(hl:∀l∈ls,∃o,H0 l=some o)(T:Turn P w K tg J fp it tn):Wk P w Z tg F0 H0 ls xs fp it tn where
 mem:=T.mem
 len:=h.1
 lst:=hl
 obj:=T.obj
 keep:=T.keep
 self:=T.self
 done:=fun X h1 h2 h3 hc pins s σ F H I dm g fo st=>T.done X h1 h2 (h3.trans hK.symm) hc _ pins s σ H X.xe I fo st (h.2 F H g dm).2
 take:=by
  intro X h1 h2 h3 hc nd tgs one tk i pins s σ ρ ρ' B F H x I r g fo st hx hp;obtain⟨g1,g2⟩:=(h.2 F H g r.dom).1 i x hx;refine thn (T.item X h1 h2 (h3.trans hK.symm) hc i pins s σ H X.xe I fo st g1) fun o s1 hz=>?_;obtain⟨u,ho,h⟩:=hz;refine⟨u,ho,thn h fun _ s2 hz=>?_⟩;obtain⟨v,H2,I2,rv,y,st2,fr2⟩:=hz;obtain⟨F2,ex,rp⟩:=g2 v H2 y;subst h1 h2;have fo2:∀b∈fp,FpOk X pins H2 b:=fun b hb=>⟨fr2 b hb,(fo b hb).2⟩;have I2':=I2.pinned fo2 (T.obj _ _ st2);refine thn (jrd h3 (fun _=>hc) nd tk I2' (r.ext ex) rp rv hp) fun _ s3 hzz=>?_;obtain⟨σ3,I3,r3,g3,ho3⟩:=hzz;refine⟨σ3,F2,H2,I3.unpinned,r3,ex.go.trans g3,g.ext r.dom hl ex,T.keep _ _ _ st2 fun b hb o e=>(I3.pin (b,o) (jrB _ (jrB _ (jbj hb e)))).1,fr2,ho3⟩
section
variable {K:Frag}{F F':Addr->Prop}{H H':Hp}
theorem FL.keep {a:Addr}{xs:List V}(k:Keep F F' H H')(h:FL K F H a xs):FL K F' H' a xs:=h.imp k.rd id
theorem FT.keep {a:Addr}{xs:List V}(k:Keep F F' H H')(h:FT K F H a xs):FT K F' H' a xs:=h.imp k.rd id
end
theorem jjQ {Z:Kn}{G:(Addr->Prop)->Hp->Prop}{xs:List D}{vs:List V}{a:Addr}(len:xs.length<=sizeLine)(hG:∀F H,G F H->Dom F H->SqL Z.K H a vs/\Reps Z F H xs vs):ItmG Z G (Itl Z.K a) xs:=
 ⟨len,fun F H g dm=>by
  obtain⟨q,r⟩:=hG F H g dm;refine⟨fun i x hx=>?_,⟨vs,q,by rw[r.length];exact jr1 _⟩⟩
  obtain⟨v,e,rp⟩:=r.get hx;refine⟨⟨vs,v,q,e⟩,fun u H2 y=>?_⟩;obtain⟨rfl,y⟩:=y;have:=y vs q;rw[e]at this;cases this;exact⟨F,Ext.refl dm,rp⟩⟩
theorem jl4 {Z:Kn}{G:(Addr->Prop)->Hp->Prop}{xs:List D}{vs:List V}{a:Addr}(len:xs.length<=sizeLine)(hG:∀F H,G F H->Dom F H->SqT Z.K H a vs/\Reps Z F H xs vs):ItmG Z G (Itt Z.K a) xs:=
 ⟨len,fun F H g dm=>by
  obtain⟨q,r⟩:=hG F H g dm;refine⟨fun i x hx=>?_,⟨vs,q,by rw[r.length];exact jr1 _⟩⟩
  obtain⟨v,e,rp⟩:=r.get hx;refine⟨⟨vs,v,q,e⟩,fun u H2 y=>?_⟩;obtain⟨rfl,y⟩:=y;have:=y vs q;rw[e]at this;cases this;exact⟨F,Ext.refl dm,rp⟩⟩
theorem jl5 (lo:Int)(n:Nat):(jgC lo n).length=n:=by unfold jgC;rw[jrz,List.length_range]
theorem jl6 {Z:Kn}{G:(Addr->Prop)->Hp->Prop}{lo:Int}{n:Nat}(hn:n<=sizeLine):ItmG Z G (Itr lo n) (jgC lo n):=by
 have hl:=jl5 lo n;refine⟨by rw[hl];exact hn,fun F H g dm=>⟨fun i x hx=>?_,by rw[hl];exact jr1 n⟩⟩
 unfold jgC at hx;rw[jrw]at hx;cases e:(List.range n)[i]? with
 |none=>rw[e]at hx;cases hx
 |some k=>
  rw[e]at hx;obtain⟨h1,h2⟩:=List.getElem?_eq_some_iff.mp e;rw[List.length_range]at h1;rw[List.getElem_range]at h2;subst h2;cases hx;refine⟨h1,fun u H2 y=>?_⟩;obtain⟨rfl,rfl⟩:=y;exact⟨F,Ext.refl dm,by simp only[Rep]⟩
end DJ
namespace DJ
open PySem PySem.Spec PyProof.Rows L2
noncomputable def RepB (Z:Kn)(F:Addr->Prop)(H:Hp)(d:D)(v:V):Prop:=Rep Z F H d v\/∃l o,v=.ref l/\d=o.toD/\HasO Z F H l o
section
variable {Z:Kn}{X:Cx}{B:Bs}{σ:L2.St}{ρ ρ1 ρ2:Rho}{F F1 F2:Addr->Prop}{H H0 H1 H2:Hp}{w:Vl}{v:V}
theorem RV.go (h:RV Z F1 H0 H1 σ ρ1 w v)(r:SR Z B F1 H1 σ ρ1)(g:Go σ ρ1 F1 H1 σ ρ2 F2 H2):RV Z F2 H0 H2 σ ρ2 w v:=by
 cases w with
 |dat d=>exact Rep.mono (g.keep r) h
 |tmp o=>
  obtain⟨l,e,h1,h2,h3,h4⟩:=h;obtain⟨u,hu⟩:=h4.some;obtain⟨a,b,c⟩:=g.side hu h1 h2;exact⟨l,e,b,c,h3,h4.mono (g.keep r) (a.trans hu.symm)⟩
 |slot i=>exact h
theorem RV.base (h:RV Z F1 H0 H1 σ ρ1 w v)(k:∀l,H0 l=none->H l=none):RV Z F1 H H1 σ ρ1 w v:=by
 cases w with
 |dat d=>exact h
 |tmp o=>obtain⟨l,e,h1,h2,h3,h4⟩:=h;exact⟨l,e,h1,h2,k l h3,h4⟩
 |slot i=>exact h
theorem ja0 {d:D}(h:RV Z F1 H0 H1 σ ρ1 w v)(r:SR Z B F1 H1 σ ρ1)(hd:deref w ρ1=.ok d):RepB Z F1 H1 d v:=by
 cases w with
 |dat d'=>cases hd;exact .inl h
 |tmp o=>cases hd;obtain⟨l,e,_,_,_,h4⟩:=h;exact .inr ⟨l,o,e,rfl,h4⟩
 |slot i=>
  simp only[deref]at hd;split at hd
  ·rename_i o f k e;cases hd;obtain⟨l,e1,_,e3,_⟩:=r.own i o f k e;have h:σ[i]?=some (some v):=h;rw[h]at e1;cases e1;exact .inr ⟨l,o,rfl,rfl,e3⟩
  ·cases hd
theorem jaL {c:Nat}:deref w ρ1≠.err c:=by
 cases w with
 |dat d=>intro z;cases z
 |tmp o=>intro z;cases z
 |slot i=>
  simp only[deref];split <;> (intro z;cases z)
theorem O.rep {l:Addr}{o:O}(h:HasO Z F H l o)(hF:F l):Rep Z F H o.toD (.ref l):=by
 cases o with
 |l xs=>
  obtain⟨vs,e,q⟩:=h;simp only[O.toD,Rep];exact⟨l,vs,rfl,.inl ⟨hF,.inl e⟩,q⟩
 |d ks vs=>
  obtain⟨e1,e2,e3⟩:=h;simp only[O.toD,Rep];exact⟨l,rfl,hF,e1,e2,e3⟩
theorem SR.frzT (r:SR Z B F1 H1 σ ρ1){l:Addr}{o:O}(hO:¬Ow σ ρ1 l)(h:HasO Z F1 H1 l o):SR Z B (fun a=>F1 a\/a=l) H1 σ ρ1/\Rep Z (fun a=>F1 a\/a=l) H1 o.toD (.ref l):=by
 have kp:Keep F1 (fun a=>F1 a\/a=l) H1 H1:=fun a q=>⟨.inl q,rfl⟩;refine⟨⟨fun a q=>q.elim (r.dom a) fun (e:a=l)=>by rw[e];exact h.some,r.len,fun i d e=>let ⟨v,e1,e2⟩:=r.dat i d e;⟨v,e1,e2.mono kp⟩,fun i o f k e=>?_,r.one,r.base⟩,O.rep (h.mono kp rfl) (.inr rfl)⟩
 obtain⟨l',e1,e2,e3,e4⟩:=r.own i o f k e;refine⟨l',e1,fun z=>z.elim e2 fun z=>?_,e3.mono kp rfl,e4⟩;subst z;exact hO ⟨i,o,f,k,e,e1⟩
theorem Go.frzT (g:Go σ ρ F H σ ρ1 F1 H1){l:Addr}(hn:H l=none):Go σ ρ F H σ ρ1 (fun a=>F1 a\/a=l) H1:=
 ⟨g.stay,fun a h=>.inl (g.sub a h),fun a h=>h.elim (g.new a) fun (e:a=l)=>.inr (.inl (by rw[e];exact hn)),g.ow,g.there⟩
theorem jej {d:D}(h:RV Z F1 H H1 σ ρ1 w v)(r:SR Z B F1 H1 σ ρ1)(g:Go σ ρ F H σ ρ1 F1 H1)(hd:toD w ρ1=.ok (d,ρ2)):∃F2,Go σ ρ F H σ ρ2 F2 H1/\SR Z B F2 H1 σ ρ2/\Rep Z F2 H1 d v/\Keep F1 F2 H1 H1:=by
 cases w with
 |dat d'=>cases hd;exact⟨F1,g,r,h,Keep.refl⟩
 |tmp o=>
  cases hd;obtain⟨l,rfl,h1,h2,h3,h4⟩:=h;obtain⟨a,b⟩:=r.frzT h2 h4;exact⟨_,g.frzT h3,a,b,fun a q=>⟨.inl q,rfl⟩⟩
 |slot i=>
  have h:σ[i]?=some (some v):=h;simp only[toD]at hd;split at hd
  ·rename_i o e;cases hd;obtain⟨l,e1,_⟩:=r.own i o _ _ e;rw[h]at e1;cases e1;obtain⟨a,b,c⟩:=r.frz e h;exact⟨_,g.trans (Go.frz e h),b,c,a⟩
  ·cases hd
theorem jcg {c:Nat}:toD w ρ1≠.err c:=by
 cases w with
 |dat d=>intro z;cases z
 |tmp o=>intro z;cases z
 |slot i=>
  simp only[toD];split <;> (intro z;cases z)
end
section
variable {Z:Kn}{F F1:Addr->Prop}{H H1:Hp}{x:V}
theorem RepB.flat {d:D}(h:RepB Z F H d x)(hd:∀o:O,d≠o.toD):Rep Z F H d x:=by
 rcases h with h | ⟨_,o,_,e,_⟩
 ·exact h
 ·exact absurd e (hd o)
theorem RepB.int {i:Int}(h:RepB Z F H (.int i) x):x=.int i:=by have:=h.flat (fun o z=>by cases o <;> cases z);simpa only[Rep] using this
theorem RepB.bl {b:Bool}(h:RepB Z F H (.bl b) x):x=.bl b:=by have:=h.flat (fun o z=>by cases o <;> cases z);simpa only[Rep] using this
theorem RepB.str {s:Str}(h:RepB Z F H (.str s) x):x=.str s:=by have:=h.flat (fun o z=>by cases o <;> cases z);simpa only[Rep] using this
theorem RepB.non (h:RepB Z F H .non x):x=.non:=by have:=h.flat (fun o z=>by cases o <;> cases z);simpa only[Rep] using this
theorem RepB.tup {ds:List D}(h:RepB Z F H (.tup ds) x):∃a vs,x=.ref a/\FT Z.K F H a vs/\Reps Z F H ds vs:=by have:=h.flat (fun o z=>by cases o <;> cases z);simpa only[Rep] using this
theorem RepB.lst {ds:List D}(h:RepB Z F H (.lst ds) x):∃a vs,x=.ref a/\SqL Z.K H a vs/\Reps Z F H ds vs:=by
 rcases h with h | ⟨l,o,e1,e2,e3⟩
 ·simp only[Rep]at h;obtain⟨a,vs,e,q,r⟩:=h;exact⟨a,vs,e,q.sq,r⟩
 ·cases o with
  |l xs=>
   cases e2;obtain⟨vs,e,q⟩:=e3;exact⟨l,vs,e1,SqL.of e,q⟩
  |d ks vs=>cases e2
theorem RepB.dct {ks vs:List D}(h:RepB Z F H (.dct ks vs) x):∃a,x=.ref a/\ks=[]/\vs=[]/\H a=some (.dK []):=by
 rcases h with h | ⟨l,o,e1,e2,e3⟩
 ·simp only[Rep]at h;obtain⟨a,e,_,h1,h2,h3⟩:=h;exact⟨a,e,h1,h2,h3⟩
 ·cases o with
  |l xs=>cases e2
  |d ks' vs'=>cases e2;exact⟨l,e1,e3⟩
theorem jdI {d:D}{xs:List D}(h:RepB Z F H d x)(hs:ja6 d=.ok xs):∃p vs,x=.ref p/\(SqL Z.K H p vs\/SqT Z.K H p vs)/\Reps Z F H xs vs:=by
 cases d with
 |tup ds=>cases hs;obtain⟨a,vs,e,ft,r⟩:=h.tup;exact⟨a,vs,e,.inr ft.sq,r⟩
 |lst ds=>cases hs;obtain⟨a,vs,e,ft,r⟩:=h.lst;exact⟨a,vs,e,.inl ft,r⟩
 |_=>cases hs
end
noncomputable def PostV (Z:Kn)(F:Addr->Prop)(H:Hp)(Q:VK)(w:Vl):Prop:=∀v F' H',Ext F H F' H'->(∀σ ρ B,SR Z B F H σ ρ->RV Z F' H H' σ ρ w v)->Q v H'
section
variable {Z:Kn}{B:Bs}{σ:L2.St}{ρ:Rho}{F:Addr->Prop}{H:Hp}{Q:VK}
theorem PostV.sc {d:D}{v:V}(h:PostV Z F H Q (.dat d))(dm:Dom F H)(r:Rep Z F H d v):Q v H:=h v F H (Ext.refl dm) fun _ _ _ _=>r
theorem PostV.int {i:Int}(h:PostV Z F H Q (.dat (.int i)))(dm:Dom F H):Q (.int i) H:=h.sc dm (by simp only[Rep])
theorem PostV.bl {i:Bool}(h:PostV Z F H Q (.dat (.bl i)))(dm:Dom F H):Q (.bl i) H:=h.sc dm (by simp only[Rep])
theorem PostV.tupOld {ds:List D}{a:Addr}{vs:List V}(h:PostV Z F H Q (.dat (.tup ds)))(dm:Dom F H)(f:FT Z.K F H a vs)(r:Reps Z F H ds vs):Q (.ref a) H:=h.sc dm (by simp only[Rep];exact⟨a,vs,rfl,f,r⟩)
theorem PostV.tup {ds:List D}{vs:List V}(h:PostV Z F H Q (.dat (.tup ds)))(dm:Dom F H)(r:Reps Z F H ds vs):∀p,H p=none->Q (.ref p) (upd H p (.tup vs)):=fun p hp=>by
 have ex:=Ext.newF (o:=.tup vs) dm hp;refine h _ _ _ ex fun _ _ _ _=>?_;show Rep _ _ _ _ _;simp only[Rep];exact⟨p,vs,rfl,.inl ⟨.inr rfl,.inl jan⟩,r.mono (ex.keep dm)⟩
theorem PostV.lst {ds:List D}{vs:List V}(h:PostV Z F H Q (.tmp (.l ds)))(dm:Dom F H)(r:Reps Z F H ds vs):∀p,H p=none->Q (.ref p) (upd H p (.lst vs)):=fun p hp=>by
 have ex:=Ext.newO (o:=.lst vs) dm hp;refine h _ _ _ ex fun σ ρ B sr=>⟨p,rfl,fun z=>?_,fun z=>?_,hp,vs,jan,r.mono (ex.keep dm)⟩
 ·obtain⟨o,e⟩:=dm p z;rw[hp]at e;cases e
 ·obtain⟨u,e⟩:=sr.there z;rw[hp]at e;cases e
end
theorem Post.toV {Z:Kn}{B:Bs}{σ:L2.St}{ρ ρ1:Rho}{F F1:Addr->Prop}{H H1:Hp}{Q:VK}{w:Vl}(h:Post Z B σ ρ F H Q (w,ρ1))(g:Go σ ρ F H σ ρ1 F1 H1)(r:SR Z B F1 H1 σ ρ1)(hw:∀i,w≠.slot i):PostV Z F1 H1 Q w:=fun v F' H' e q=>by
 refine h v F' H' (g.trans e.go) (r.ext e) ?_;exact(q σ ρ1 B r).base fun l z=>g.free z
inductive rD2_I (Z:Kn) (g:D->D->R Vl) (x:L2.V) (y:L2.V) (H:L2.Hp) (Q:L2.VK):Prop
 |mk (F:_) (dx:_) (dy:_) (w:_):(Dom F H)->(RepB Z F H dx x)->(RepB Z F H dy y)->(g dx dy=.ok w)->(PostV Z F H Q w)->rD2_I Z g x y H Q
noncomputable def rD2 (Z:Kn)(g:D->D->R Vl):R2:=fun x y H Q=>rD2_I Z g x y H Q
inductive rD1_I (Z:Kn) (g:D->R Vl) (x:V) (H:Hp) (Q:VK):Prop
 |mk (F:_) (dx:_) (w:_):(Dom F H)->(RepB Z F H dx x)->(g dx=.ok w)->(PostV Z F H Q w)->rD1_I Z g x H Q
noncomputable def rD1 (Z:Kn)(g:D->R Vl):V->Hp->VK->Prop:=fun x H Q=>rD1_I Z g x H Q
section
variable {Z:Kn}{X:Cx}{B:Bs}{σ:L2.St}{H:Hp}{Q:VK}
theorem tE.two {fa fb:Rho->R (Vl×Rho)}{g:D->D->R Vl}(hg:∀x y c,g x y≠.err c)(hs:∀x y i,g x y≠.ok (.slot i))
  (h:tE Z X B (fun ρ=>(fa ρ).bind fun p=>(fb p.2).bind fun q=>(deref p.1 q.2).bind fun x=>(deref q.1 q.2).bind fun y=>(g x y).bind fun v=>.ok (v,q.2)) σ H Q) :
  tOp (rD2 Z g) (tE Z X B fa) (tE Z X B fb) σ H Q:=by
 obtain⟨F,ρ,r,h⟩:=h;refine⟨F,ρ,r,h.bind.imp (fun _ w=>w) fun p h1 v F1 H1 g1 r1 q1=>⟨F1,p.2,r1,h1.bind.imp (fun c w=>w.mono g1) fun q h2 u F2 H2 g2 r2 q2=>?_⟩⟩;obtain⟨x,ex,h3⟩:=h2.bind.pure fun c=>jaL;obtain⟨y,ey,h4⟩:=h3.bind.pure fun c=>jaL;obtain⟨w,ew,h5⟩:=h4.bind.pure fun c=>hg x y c;have g12:=g1.trans g2;exact⟨F2,x,y,w,r2.dom,ja0 (q1.go r1 g2) r2 ex,ja0 q2 r2 ey,ew,Post.toV h5 g12 r2 fun i z=>hs x y i (by rw[ew,z])⟩
theorem tE.one {fa:Rho->R (Vl×Rho)}{g:D->R Vl}(hg:∀x c,g x≠.err c)(hs:∀x i,g x≠.ok (.slot i))(h:tE Z X B (fun ρ=>(fa ρ).bind fun p=>(deref p.1 p.2).bind fun x=>(g x).bind fun v=>.ok (v,p.2)) σ H Q):tUn (rD1 Z g) (tE Z X B fa) σ H Q:=by
 obtain⟨F,ρ,r,h⟩:=h;refine⟨F,ρ,r,h.bind.imp (fun _ w=>w) fun p h1 v F1 H1 g1 r1 q1=>?_⟩;obtain⟨x,ex,h3⟩:=h1.bind.pure fun c=>jaL;obtain⟨w,ew,h5⟩:=h3.bind.pure fun c=>hg x c;exact⟨F1,x,w,r1.dom,ja0 q1 r1 ex,ew,Post.toV h5 g1 r1 fun i z=>hs x i (by rw[ew,z])⟩
end
end DJ
namespace DJ
open PySem PySem.Spec PyProof.Rows L2
noncomputable def jgE (env:Env):List (Str×NameKind)->List (Str×Addr)->List (Str×Addr)
 |[],cs=>cs
 |(n,k)::r,cs=>jgE env r (if k == .free then (n,(env.cells.lookup n).getD 0)::cs else cs)
theorem jl7 {env:Env}:∀(names:List (Str×NameKind)) (cs:List (Str×Addr)),(∀x∈names,x.2=.free->∃c,env.cells.lookup x.1=some c) ->
  (forIn names cs fun (x:Str×NameKind) (cs:List (Str×Addr))=>(match x with
   |(name,kind)=>if (kind == NameKind.free)=true then (do let a <-cellOf env name;pure (ForInStep.yield ((name,a)::cs)))else pure (ForInStep.yield cs):Sem (ForInStep (List (Str×Addr)))))=(pure (jgE env names cs):Sem _):=by
 intro names;induction names with
 |nil=>intro cs _;rfl
 |cons x r ih=>
  intro cs h;obtain⟨n,k⟩:=x;rw[List.forIn_cons];have ih':=fun cs=>ih cs fun x hx=>h x (jrr _ hx);by_cases hk:(k == NameKind.free)=true
  ·obtain⟨c,hc⟩:=h (n,k) jrs (by simpa using hk)
   have e1:cellOf env n=pure c:=by
    have hc:env.cells.lookup n=some c:=hc;unfold cellOf;rw[hc]
   simp only[hk,if_true,e1];have hc:env.cells.lookup n=some c:=hc;simp only[jgE,hk,if_true,hc,Option.getD_some];exact ih' _
  ·simp only[hk,jgE];exact ih' _
theorem jhX {scope:Scope}{env:Env}(h:∀x∈scope.names,x.2=.free->∃c,env.cells.lookup x.1=some c):closureFor scope env=pure (jgE env scope.names []):=by
 have:=jl7 scope.names [] h;unfold closureFor;simp only;rw[this];rfl
theorem jbn {env:Env}:∀(names:List (Str×NameKind)) (cs:List (Str×Addr)),(∀x∈names,x.2=.free->∃c,env.cells.lookup x.1=some c)->(∀n c,cs.lookup n=some c->env.cells.lookup n=some c) ->
  ∀n c,(jgE env names cs).lookup n=some c->env.cells.lookup n=some c
 |[],_,_,h2,n,c,e=>h2 n c e
 |(y,k)::r,cs,h1,h2,n,c,e=>by
  refine jbn r _ (fun x hx=>h1 x (jrr _ hx)) (fun m b q=>?_) n c e;by_cases hk:(k == NameKind.free)=true
  ·rw[if_pos hk]at q;obtain⟨b',hb⟩:=h1 (y,k) jrs (by simpa using hk)
   have hb:env.cells.lookup y=some b':=hb;rw[hb,List.lookup_cons]at q;by_cases e:m=y
   ·subst e;simp at q;subst q;exact hb
   ·have:(m == y)=false:=by simpa using e
    rw[this]at q;exact h2 m b q
  ·rw[if_neg hk]at q;exact h2 m b q
theorem jdJ {env:Env}:∀(names:List (Str×NameKind)) (cs:List (Str×Addr)) (n:Str),(∃c,cs.lookup n=some c)\/(n,NameKind.free)∈names->∃c,(jgE env names cs).lookup n=some c
 |[],cs,n,h=>h.elim id fun h=>by simp at h
 |(y,k)::r,cs,n,h=>by
  refine jdJ r _ n ?_;have keep:(∃c,cs.lookup n=some c)->∃c,(if k == NameKind.free then (y,(env.cells.lookup y).getD 0)::cs else cs).lookup n=some c:=fun ⟨c,e⟩=>by
   split
   ·rw[List.lookup_cons];split
    ·exact⟨_,rfl⟩
    ·exact⟨c,e⟩
   ·exact⟨c,e⟩
  rcases h with h | h
  ·exact .inl (keep h)
  ·rcases List.mem_cons.mp h with h | h
   ·cases h;refine .inl ⟨(env.cells.lookup y).getD 0,?_⟩;rw[if_pos (by rfl),List.lookup_cons]
    simp
   ·exact .inr h
theorem ja3 {c:Str->NameKind->Bool}{x:Str}:∀(names:List (Str×NameKind)),(names.map fun (p:Str×NameKind)=>match p with | (n,k)=>if c n k=true then (n,NameKind.cell)else (n,k)).lookup x=(names.lookup x).map fun k=>if c x k=true then NameKind.cell else k
 |[]=>rfl
 |(n,k)::r=>by
  rw[jrx,List.lookup_cons];have ih:=ja3 (c:=c) (x:=x) r;by_cases e:x=n
  ·subst e;by_cases hc:c x k=true
   ·simp[hc]
   ·simp[hc]
  ·have e':(x == n)=false:=by simpa using e
   by_cases hc:c n k=true
   ·simp only[hc,if_true,List.lookup_cons,e'];exact ih
   ·simp only[hc,jr7,if_false,List.lookup_cons,e'];exact ih
section
variable {x:Str}{c:Addr}
theorem jbS (n:Nat)(y:Str)(k:NameKind)(r:List (Str×NameKind))(cs:List (Str×Addr)):cellsFrom n ((y,k)::r) cs=if k == .cell then cellsFrom (n + 1) r ((y,n)::cs)else cellsFrom n r cs:=rfl
theorem jhY (h:Heap)(y:Str)(k:NameKind)(r:List (Str×NameKind)):pushCells h ((y,k)::r)=if k == .cell then pushCells (h.push { cls:=.type "cell",data:=.cell none }) r else pushCells h r:=rfl
theorem jbT {y:Str}{n:Addr}{cs:List (Str×Addr)}(h:((y,n)::cs).lookup x=some c):(x=y/\c=n)\/(x≠y/\cs.lookup x=some c):=by
 rw[List.lookup_cons]at h;by_cases e:x=y
 ·subst e;simp at h;exact .inl ⟨rfl,h.symm⟩
 ·have:(x == y)=false:=by simpa using e
  rw[this]at h;exact .inr ⟨e,h⟩
theorem jcz:∀(names:List (Str×NameKind)) (n:Nat) (cs:List (Str×Addr)),(cellsFrom n names cs).lookup x=some c->n<=c\/cs.lookup x=some c
 |[],n,cs,h=>.inr h
 |(y,k)::r,n,cs,h=>by
  rw[jbS]at h;split at h
  ·rcases jcz r _ _ h with h | h
   ·exact .inl (by omega)
   ·rcases jbT h with ⟨_,e⟩ | ⟨_,h⟩
    ·exact .inl (e ▸ jr1 _)
    ·exact .inr h
  ·exact jcz r _ _ h
theorem jhZ:∀(names:List (Str×NameKind)) (n:Nat) (cs:List (Str×Addr)),(∀x c,cs.lookup x=some c->c < n)->(∀x y c,cs.lookup x=some c->cs.lookup y=some c->x=y)->∀x y c,(cellsFrom n names cs).lookup x=some c->(cellsFrom n names cs).lookup y=some c->x=y
 |[],n,cs,_,h=>h
 |(y,k)::r,n,cs,h1,h2=>by
  rw[jbS];split
  ·refine jhZ r (n + 1) _ (fun a b q=>?_) fun a a' b q q'=>?_
   ·rcases jbT q with ⟨_,e⟩ | ⟨_,q⟩
    ·rw[e];exact Nat.lt_succ_self _
    ·exact Nat.lt_succ_of_lt (h1 a b q)
   ·rcases jbT q with ⟨e,e1⟩ | ⟨_,q⟩ <;> rcases jbT q' with ⟨e',e2⟩ | ⟨_,q'⟩
    ·rw[e,e']
    ·exact absurd (h1 a' b q') (by rw[e1];exact jr5 _)
    ·exact absurd (h1 a b q) (by rw[e2];exact jr5 _)
    ·exact h2 a a' b q q'
  ·exact jhZ r n cs h1 h2
theorem je0:∀(names:List (Str×NameKind)) (h:Heap) (cs:List (Str×Addr)),(∀x c,cs.lookup x=some c->∃v,h.IsCell c v)->∀x c,(cellsFrom h.objs.size names cs).lookup x=some c->∃v,(pushCells h names).IsCell c v
 |[],h,cs,k=>k
 |(y,k)::r,h,cs,q=>by
  rw[jbS,jhY];split
  ·have e:h.objs.size + 1=(h.push { cls:=.type "cell",data:=.cell none }).objs.size:=by rw[Heap.size_push]
   rw[e];refine je0 r _ _ fun a b z=>?_;rcases jbT z with ⟨_,e⟩ | ⟨_,z⟩
   ·subst e;exact⟨none,_,jrZ _ rfl,rfl⟩
   ·obtain⟨v,z⟩:=q a b z;exact⟨v,z.keeps fun b o e=>jrX _ e⟩
  ·exact je0 r h cs q
theorem jh0:∀(names:List (Str×NameKind)) (n:Nat) (cs:List (Str×Addr)),(∀y∈names,y.1=x->y.2≠.cell)->(cellsFrom n names cs).lookup x=cs.lookup x
 |[],n,cs,_=>rfl
 |(y,k)::r,n,cs,h=>by
  rw[jbS];split
  ·rename_i hk;rw[jh0 r _ _ fun z hz=>h z (jrr _ hz),List.lookup_cons];have hne:x≠y:=fun e=>h (y,k) jrs e.symm (by simpa using hk)
   have:(x == y)=false:=by simpa using hne
   rw[this]
  ·exact jh0 r _ _ fun z hz=>h z (jrr _ hz)
theorem jl8 {n0:Nat}:∀(names:List (Str×NameKind)) (n:Nat) (cs:List (Str×Addr)),n0<=n->(∀c,cs.lookup x=some c->n0<=c)->(cellsFrom n names cs).lookup x=some c->n0<=c
 |[],n,cs,_,h,e=>h c e
 |(y,k)::r,n,cs,hn,h,e=>by
  rw[jbS]at e;split at e
  ·refine jl8 r _ _ (by omega) (fun b z=>?_) e
   rcases jbT z with ⟨_,e⟩ | ⟨_,z⟩
   ·rw[e];exact hn
   ·exact h b z
  ·exact jl8 r _ _ hn h e
theorem jh1:∀(names:List (Str×NameKind)) (n:Nat) (cs:List (Str×Addr)),(x,NameKind.cell)∈names->(cellsFrom n names cs).lookup x=some c->n<=c
 |[],n,cs,h,_=>by cases h
 |(y,k)::r,n,cs,h,e=>by
  rw[jbS]at e;rcases List.mem_cons.mp h with h | h
  ·cases h;rw[if_pos (by rfl)]at e
   refine jl8 r _ _ (Nat.le_succ _) (fun b z=>?_) e;rcases jbT z with ⟨_,e⟩ | ⟨z,_⟩
   ·rw[e];exact jr1 _
   ·exact absurd rfl z
  ·split at e
   ·exact Nat.le_of_succ_le (jh1 r _ _ h e)
   ·exact jh1 r _ _ h e
theorem jcN {M:Model}{A:Around}{E:Value->Shared->Prop}{Q:List (Str×Addr)->Shared->Prop}:∀(names:List (Str×NameKind)) (cs:List (Str×Addr)) (s:Shared),Q (cellsFrom s.heap.objs.size names cs) { s with heap:=pushCells s.heap names } ->
  wpAny M A (forIn names cs fun (x:Str×NameKind) (__s:List (Str×Addr))=>(match x with
    |(name,kind)=>if (kind == NameKind.cell)=true then (do let a <-alloc { cls:=.type "cell",data:=.cell none };pure (ForInStep.yield ((name,a)::__s)))else pure (ForInStep.yield __s):Sem (ForInStep (List (Str×Addr))))) Q E s
 |[],cs,s,h=>jrS h
 |(y,k)::r,cs,s,h=>by
  rw[jbS,jhY]at h;rw[List.forIn_cons];by_cases hk:(k == NameKind.cell)=true
  ·rw[if_pos hk,if_pos hk]at h;simp only[hk,if_true];refine jrR (jrR (wpAny_alloc (jrS ?_)));have:=jcN (M:=M) (A:=A) (E:=E) (Q:=Q) r ((y,s.heap.objs.size)::cs) { s with heap:=s.heap.push { cls:=.type "cell",data:=.cell none } } (by rw[Heap.size_push];exact h)
   exact this
  ·rw[if_neg hk,if_neg hk]at h;simp only[hk];exact jrR (jrS (jcN r cs s h))
theorem jgF {M:Model}{A:Around}{E:Value->Shared->Prop}{s:Shared}{scope:Scope}{g:Addr}{cl:List (Str×Addr)}{qual:Str}{env:Env}{Q:Env->Shared->Prop}
  (h:Q (newEnv scope s.heap.objs.size g (cellsFrom (s.heap.objs.size + 1) scope.names cl) qual none .none (some env) builtinsNs) { s with heap:=pushCells (s.heap.push { cls:=.type "dict",data:=.dict #[] }) scope.names }) :
  wpAny M A (newFunctionEnv scope g cl [] qual none .none (some env)) Q E s:=by
 unfold newFunctionEnv;refine jrR (wpAny_alloc ?_);refine jrR (jcN scope.names cl _ ?_);refine jrR (jrS (jrS ?_));rw[Heap.size_push];exact h
end
noncomputable def cxComp (X:Cx)(N:List Str)(scope:Scope)(s:Shared)(H:Hp)(fp:List Addr)(xe:Value->Shared->Prop):Cx:=
 { X with N:=N,s₀:=s,H₀:=H,env:=compEnvC scope (cellsFrom (s.heap.objs.size + 1) scope.names (jgE X.env scope.names [])) s.heap.objs.size X.env,outer:=X.stack,ex:=fp,fn:=fun x=>scope.names.lookup x == some .cell,pn:=[],xe:=xe }
structure CompOk (X:Cx)(scope:Scope)(N cn:List Str)(nt:Nat)(caps:List Nat):Prop where
 kind:scope.kind=.function
 cell:∀y∈scope.names,y.2=.cell->scope.names.lookup y.1=some .cell
 names:∀y∈scope.names,y.2=.local->scope.names.lookup y.1=some .local
 free:∀y∈scope.names,y.2=.free->X.env.scope.names.lookup y.1=some .cell\/X.env.scope.names.lookup y.1=some .free
 nd:N.Nodup
 split:∃tn,N=tn++cn/\tn.length=nt
 clen:cn.length=caps.length
 at_:∀(k j:Nat) (x:Str),cn[k]?=some x->caps[k]?=some j->X.N[j]?=some x/\scope.names.lookup x=some .free
section
variable {X:Cx}{scope:Scope}{N cn:List Str}{nt:Nat}{caps:List Nat}{pins:List (Addr×Obj)}{σ:L2.St}{H:Hp}{s:Shared}{fp:List Addr}{E:Value->Shared->Prop}
noncomputable def jjR (nt:Nat)(caps:List Nat)(σ:L2.St):L2.St:=List.replicate nt none++caps.map fun j=>(σ[j]?).getD none
theorem CompOk.cells (C:CompOk X scope N cn nt caps)(I:Inv X pins σ H s):∀y∈scope.names,y.2=.free->∃c,X.env.cells.lookup y.1=some c:=fun y hy e=>I.ok.has y.1 (C.free y hy e)
theorem jh2 (C:CompOk X scope N cn nt caps)(I:Inv X pins σ H s)(fo:∀b∈fp,FpOk X pins H b)(ft:∀b∈fp,b < s.heap.objs.size):(cxComp X N scope s H fp E).Ok where
 mod:=I.ok.mod
 kind:=C.kind
 glob:=I.ok.glob
 blt:=I.ok.blt
 above:=jr1 _
 inj:=jhZ _ _ _ (fun x c h=>by
  obtain⟨v,z⟩:=I.cell x c (jbn _ _ (C.cells I) (fun _ _ z=>by simp at z) _ _ h)
  obtain⟨o,e,_⟩:=z;exact Nat.lt_succ_of_lt (jrY e)) fun x y c h1 h2=>I.ok.inj x y c (jbn _ _ (C.cells I) (fun _ _ z=>by simp at z) _ _ h1) (jbn _ _ (C.cells I) (fun _ _ z=>by simp at z) _ _ h2)
 has:=fun x hx=>by
  have fin:(x,NameKind.free)∈scope.names\/scope.names.lookup x=some .cell->∃c,(cellsFrom (s.heap.objs.size + 1) scope.names (jgE X.env scope.names [])).lookup x=some c:=fun z=>by
   refine Option.isSome_iff_exists.mp (PySem.W.cellsFrom_some _ _ _ ?_);rcases z with z | z
   ·obtain⟨c,e⟩:=jdJ (env:=X.env) scope.names [] x (.inr z);exact .inr (by rw[e];rfl)
   ·exact .inl z
  refine fin ?_;have hx':(relabel scope X.env).names.lookup x=some .cell\/(relabel scope X.env).names.lookup x=some .free:=hx;unfold relabel at hx';simp only at hx';rw[ja3 (c:=fun n k=>k == .free && X.env.scope.kind == .function && X.env.kindOf n == some .cell)]at hx';cases e:scope.names.lookup x with
  |none=>rw[e]at hx';simp at hx'
  |some k=>
   have hm:=PySem.mem_of_lookup e;by_cases hk:k=.free
   ·subst hk;exact .inl hm
   ·rw[e]at hx';have hk':(k == NameKind.free)=false:=by simpa using hk
    simp only[hk',Bool.false_and,jr7,if_false,Option.map_some,Option.some.injEq]at hx';rcases hx' with hx' | hx'
    ·subst hx';exact .inr rfl
    ·exact absurd hx' hk
 cab:=fun x c h hc=>by
  have h:(scope.names.lookup x == some .cell)=true:=h;exact Nat.le_of_succ_le (jh1 _ _ _ (PySem.mem_of_lookup (by simpa using h)) hc)
 hd:=I.ok.hd
 frames:=I.ok.frames
 stk:=.inl rfl
 exf:=fun b hb=>⟨jr3 (ft b hb),fun x c h=>by
  rcases jcz _ _ _ h with h | h
  ·intro z;subst z;exact absurd (Nat.lt_trans (ft c hb) (Nat.lt_of_succ_le h)) (jr5 _)
  ·exact(fo b hb).2.2.2.2.1 x c (jbn _ _ (C.cells I) (fun _ _ z=>by simp at z) _ _ h)⟩
 bs:=I.bs
 bsz:=jr4 I.ok.bsz I.sz
 noex:=fun b o e hb=>by
  rcases (fo b hb).2.2.2.1 with z | z
  ·exact I.ok.noex b o e z
  ·exact absurd (jr2 (jrY e) (jr4 I.ok.bsz z)) (jr5 _)
 exfs:=fun b hb hs=>by
  rcases List.mem_cons.mp (I.stkSub b hs)with z | z
  ·exact(fo b hb).2.1 z
  ·exact(fo b hb).2.2.1 z
 funs:=I.stack
 frf:=I.stkFree
theorem jjS (C:CompOk X scope N cn nt caps)(I:Inv X pins σ H s)(fo:∀b∈fp,FpOk X pins H b)(ft:∀b∈fp,b < s.heap.objs.size){h1:Heap}{m0:Str->Option Value}{tk:Nat}(hns:h1.Ns s.heap.objs.size m0)
  (kp:∀b o,s.heap.get? b=some o->h1.get? b=some o) (hcl:∀x c,(cellsFrom (s.heap.objs.size + 1) scope.names (jgE X.env scope.names [])).lookup x=some c->∃v,h1.IsCell c v):Inv (cxComp X N scope s H fp E) [] (jjR nt caps σ) H { s with heap:=h1,toks:=tk }:=by
 have sub:=jbn (env:=X.env) scope.names [] (C.cells I) (fun _ _ z=>by simp at z)
 refine⟨jh2 C I fo ft,rfl,I.bare,Un.kept kp,⟨m0,hns,fun i x v h1' h2 h3=>?_⟩,fun x c e=>?_,I.hok.fresh (jr1 _),fun x c e=>(jcz _ _ _ e).elim (fun z=>I.hok.fresh (Nat.le_of_succ_le z)) fun e=>I.freeC x c (sub x c e),fun p hp=>absurd (show p∈([]:List (Addr×Obj))from hp) (by simp),I.hok.kept kp,?_⟩
 ·obtain⟨tn,eN,hl⟩:=C.split;have h1':N[i]?=some x:=h1';have hi:nt<=i:=by
   refine Nat.le_of_not_lt fun hlt=>?_;unfold jjR at h2;rw[jrI (by simpa using hlt),List.getElem?_replicate,if_pos hlt]at h2
   cases h2
  unfold jjR at h2;rw[jrE (by simpa using hi),List.length_replicate,jrw]at h2
  rw[eN,jrE (by omega),hl]at h1'
  cases e:caps[i - nt]? with
  |none=>rw[e]at h2;cases h2
  |some j=>
   rw[e]at h2;obtain⟨hj,hf⟩:=C.at_ _ j x h1' e;have h2':(σ[j]?).getD none=some v:=Option.some.inj h2;have h2'':σ[j]?=some (some v):=by
    cases q:σ[j]? with
    |none=>rw[q]at h2';cases h2'
    |some o=>rw[q]at h2';simp at h2';rw[h2']
   have hm:=PySem.mem_of_lookup hf;have hk:=C.free _ hm rfl;obtain⟨m,hn,hl'⟩:=I.loc;obtain⟨u,r,lk⟩:=hl' j x v hj h2'' (.inr hk);refine⟨u,r,?_⟩;rcases lk with ⟨k1,_⟩ | ⟨_,c,hc,hcell⟩
   ·have k1:X.env.scope.names.lookup x=some .local:=k1;rw[k1]at hk;rcases hk with z | z <;> cases z
   ·obtain⟨c',hc'⟩:=jdJ (env:=X.env) scope.names [] x (.inr hm);have hcc:=sub x c' hc';rw[hc]at hcc;cases hcc;refine .inr ⟨?_,c,(jh0 _ _ _ fun y hy ey z=>?_).trans hc',?_⟩
    ·show (relabel scope X.env).names.lookup x=some .cell\/(relabel scope X.env).names.lookup x=some .free;unfold relabel;simp only;rw[ja3 (c:=fun n k=>k == .free && X.env.scope.kind == .function && X.env.kindOf n == some .cell),hf];simp only[Option.map_some];split
     ·exact .inl rfl
     ·exact .inr rfl
    ·have:=C.cell y hy z;rw[ey,hf]at this;cases this
    ·exact hcell.keeps kp
 ·exact hcl x c e
 ·obtain⟨tn,eN,hl⟩:=C.split;show (jjR nt caps σ).length=N.length;unfold jjR;rw[eN,jrF,jrF,List.length_replicate,jrz,hl,C.clen]
end
theorem jek {prog:Program}{w:World}{A:Around}{R:Result->Shared->Prop}{s:Shared}{elt target iter:Expr}{ifs:List Expr}{scope:Scope}{pos:Pos}{it acc:Value}{env:Env}(I:Nat->Shared->Prop)
  (turn:∀n s,I n s->wpAny (model prog w) A (pyNext it) (fun r s₁=>match r with
   |none=>R (.ok .next) s₁
   |some v=>wpAny (model prog w) A (letOwnedTupleGo target it v) (fun _ s₁'=>wpAny (model prog w) A (assign target env v) (fun _ s₂=>
     wpAny (model prog w) A (forIn ifs true fun c r=>if r=true then do let ok <-isTrue c env (eval c env);pure (ForInStep.yield ok)else pure (ForInStep.yield r)) (fun ok s₃=>
      if ok=true then wpAny (model prog w) A (eval elt env) (fun x s₄=>
       wpAny (model prog w) A (call (.builtin "list.append") [acc,x]) (fun _ s₅=>∃m,m < n/\I m s₅) (notedBy (model prog w) A env fun e s'=>R (.error e) s') s₄) (notedBy (model prog w) A env fun e s'=>R (.error e) s') s₃
      else ∃m,m < n/\I m s₃) (notedBy (model prog w) A env fun e s'=>R (.error e) s') s₂) (notedBy (model prog w) A env fun e s'=>R (.error e) s') s₁') (notedBy (model prog w) A env fun e s'=>R (.error e) s') s₁) (notedBy (model prog w) A env fun e s'=>R (.error e) s') s)
  (n:Nat) (h:I n s) :
  codeAny (model prog w) A (.compLoop (.ListComp elt [⟨target,iter,ifs,0⟩] scope pos) 0 it acc env) R s:=by
 refine codeAny_loop rfl I (fun n s hI=>?_) n h;show wpAny _ A ((compTurn (.ListComp elt [⟨target,iter,ifs,0⟩] scope pos) 0 it acc env).onRaise (fun x=>do noteFrame x env;theTreesLotGoes x)) _ _ s
 refine wpAny_noted ?_;rw[compTurn_list];refine jrR (wpAny_standAt (jrR (jrW (turn n s hI) (fun r s₁ h₁=>?_) fun _ _ h'=>h')));cases r with
 |none=>exact jrS h₁
 |some v=>
  refine jrR (jrW h₁ (fun _ s₁' h₁'=>?_) fun _ _ h'=>h');refine jrR (jrW h₁' (fun _ s₂ h₂=>jrR (jrW h₂ (fun ok s₃ h₃=>?_) fun _ _ h'=>h')) fun _ _ h'=>h');cases ok with
  |false=>exact jrS ⟨rfl,h₃⟩
  |true=>
   exact jrR (jrR (jrW h₃ (fun x s₄ h₄=>jrR (jrW h₄ (fun _ s₅ h₅=>jrS (jrS ⟨rfl,h₅⟩)) fun _ _ h'=>h')) fun _ _ h'=>h'))
theorem jdK {tgs:List Nat}{one:Bool}{x:D}{ρ:Rho}{c:Nat}:putT tgs one x ρ≠.err c:=by
 unfold putT;split
 ·intro z;cases z
 ·split <;> (intro z;cases z)
 ·intro z;cases z
theorem jjT {tgs:List Nat}{one:Bool}{x:D}{ρ ρ':Rho}(h:putT tgs one x ρ=.ok ρ'):ρ'.length=ρ.length/\∀i:Nat,i ∉ tgs->ρ'[i]?=ρ[i]?:=by
 have fold:∀(ps:List (Nat×D)) (ρ:Rho),(ps.foldl (fun r p=>r.set p.1 (.dat p.2)) ρ).length=ρ.length/\∀i:Nat,i ∉ ps.map (·.1)->(ps.foldl (fun r p=>r.set p.1 (Sl.dat p.2)) ρ)[i]?=ρ[i]?:=by
  intro ps;induction ps with
  |nil=>intro ρ;exact⟨rfl,fun _ _=>rfl⟩
  |cons p ps ih=>
   intro ρ;obtain⟨e1,e2⟩:=ih (ρ.set p.1 (.dat p.2));refine⟨by rw[List.foldl_cons,e1,jrO],fun i hi=>?_⟩
   rw[jrx,jrt,not_or]at hi;rw[List.foldl_cons,e2 i hi.2,jrJ (Ne.symm hi.1)]
 unfold putT at h;split at h
 ·cases h;refine⟨jrO ..,fun i hi=>?_⟩;rw[jrJ];intro z;exact hi (by simp[z])
 ·split at h
  ·cases h;rename_i hl;obtain⟨e1,e2⟩:=fold (tgs.zip _) ρ;refine⟨e1,fun i hi=>e2 i ?_⟩;rw[List.map_fst_zip (Nat.le_of_eq hl)];exact hi
  ·cases h
 ·cases h
theorem jfT {nt:Nat}{caps:List Nat}{ρ:Rho}{i:Nat}(h:i < nt):(jdf nt caps ρ)[i]?=some .no:=by
 unfold jdf;rw[jrI (by simpa using h),List.getElem?_replicate,if_pos h]
theorem jel {nt:Nat}{caps:List Nat}{ρ:Rho}{k j:Nat}(h:caps[k]?=some j):(jdf nt caps ρ)[nt + k]?=some (match ρ[j]? with | some s=>s | none=>.no):=by
 unfold jdf jbg;rw[jrE (by simp),List.length_replicate,Nat.add_sub_cancel_left,jrw,h]
 rfl
theorem jcA {nt:Nat}{caps:List Nat}{ρ:Rho}:(jdf nt caps ρ).length=nt + caps.length:=by unfold jdf jbg;simp
theorem jh3 {nt:Nat}{caps:List Nat}{σ:L2.St}{k j:Nat}(h:caps[k]?=some j):(jjR nt caps σ)[nt + k]?=some ((σ[j]?).getD none):=by
 unfold jjR;rw[jrE (by simp),List.length_replicate,Nat.add_sub_cancel_left,jrw,h]
 rfl
theorem jaT:∀{caps:List Nat}{k:Nat}{inn ρ:Rho}{j:Nat},j ∉ caps->(jaK caps k inn ρ)[j]?=ρ[j]?
 |[],_,_,_,_,_=>rfl
 |i::r,k,inn,ρ,j,h=>by
  rw[jrt,not_or]at h;simp only[jaK];rw[jaT h.2];split
  ·rw[jrJ (Ne.symm h.1)]
  ·rfl
theorem jem:∀{caps:List Nat}{k:Nat}{inn ρ:Rho},(jaK caps k inn ρ).length=ρ.length
 |[],_,_,_=>rfl
 |i::r,k,inn,ρ=>by
  simp only[jaK];rw[jem];split
  ·rw[jrO]
  ·rfl
theorem jfU:∀{caps:List Nat}{k m:Nat}{inn ρ:Rho}{j:Nat}{s:Sl},caps.Nodup->caps[m]?=some j->j < ρ.length->inn[k + m]?=some s->(jaK caps k inn ρ)[j]?=some s
 |[],_,_,_,_,_,_,_,h,_,_=>by simp at h
 |i::r,k,0,inn,ρ,j,s,nd,h,hj,hs=>by
  have e:i=j:=by simpa using h
  subst e;simp only[jaK];rw[jaT (List.nodup_cons.mp nd).1];rw[Nat.add_zero]at hs;rw[hs];simp only;rw[List.getElem?_set_self hj]
 |i::r,k,m + 1,inn,ρ,j,s,nd,h,hj,hs=>by
  simp only[jaK];refine jfU (m:=m) (List.nodup_cons.mp nd).2 (by simpa using h) ?_ (by rw[show k + 1 + m=k + (m + 1)by omega];exact hs)
  split
  ·rw[jrO];exact hj
  ·exact hj
section
variable {X:Cx}{scope:Scope}{N cn:List Str}{nt:Nat}{caps:List Nat}{pins:List (Addr×Obj)}{Z:Kn}{σ σ':L2.St}{ρ:Rho}{B:Bs}{F:Addr->Prop}{H:Hp}{s:Shared}{fp:List Addr}
theorem CompOk.capsNd (C:CompOk X scope N cn nt caps):caps.Nodup:=by
 refine List.pairwise_iff_getElem.mpr fun i j hi hj hij z=>?_;have h1:caps[i]?=some caps[i]:=jrq hi;have h2:caps[j]?=some caps[i]:=by rw[z];exact jrq hj
 have li:i < cn.length:=by rw[C.clen];exact hi
 have lj:j < cn.length:=by rw[C.clen];exact hj
 have c1:cn[i]?=some cn[i]:=jrq (by rw[C.clen];exact hi)
 have c2:cn[j]?=some cn[j]:=jrq (by rw[C.clen];exact hj)
 have e1:=(C.at_ i _ _ c1 h1).1;have e2:=(C.at_ j _ _ c2 h2).1;rw[e1]at e2;have e3:cn[i]=cn[j]:=Option.some.inj e2;obtain⟨tn,eN,hl⟩:=C.split;have f1:N[tn.length + i]?=some cn[i]:=by rw[eN,jrE (by omega),Nat.add_sub_cancel_left];exact c1
 have f2:N[tn.length + j]?=some cn[i]:=by rw[eN,jrE (by omega),Nat.add_sub_cancel_left,e3];exact c2
 have:=jcw C.nd f1 f2;omega
noncomputable def jcO (nt:Nat)(caps:List Nat)(B:Bs):Bs:=⟨B.hp,fun k=>if nt<=k then (caps[k - nt]?).bind B.lent else none⟩
theorem jbG {i:Nat}{o:O}{f k:Bool}(h:(jdf nt caps ρ)[i]?=some (.own o f k)):∃m j,i=nt + m/\caps[m]?=some j/\ρ[j]?=some (.own o f k):=by
 have hn:nt<=i:=by
  refine Nat.le_of_not_lt fun hlt=>?_;rw[jfT hlt]at h;cases h
 obtain⟨m,rfl⟩:∃m,i=nt + m:=⟨i - nt,by omega⟩
 cases e:caps[m]? with
 |none=>
  have:=(List.getElem?_eq_some_iff.mp h).1;rw[jcA]at this;have:=List.getElem?_eq_none_iff.mp e;omega
 |some j=>
  rw[jel e]at h;refine⟨m,j,rfl,e,?_⟩;cases q:ρ[j]? with
  |none=>rw[q]at h;cases h
  |some t=>rw[q]at h;cases h;rfl
theorem jjU {i:Nat}{d:D}(h:(jdf nt caps ρ)[i]?=some (.dat d)):∃m j,i=nt + m/\caps[m]?=some j/\ρ[j]?=some (.dat d):=by
 have hn:nt<=i:=by
  refine Nat.le_of_not_lt fun hlt=>?_;rw[jfT hlt]at h;cases h
 obtain⟨m,rfl⟩:∃m,i=nt + m:=⟨i - nt,by omega⟩
 cases e:caps[m]? with
 |none=>
  have:=(List.getElem?_eq_some_iff.mp h).1;rw[jcA]at this;have:=List.getElem?_eq_none_iff.mp e;omega
 |some j=>
  rw[jel e]at h;refine⟨m,j,rfl,e,?_⟩;cases q:ρ[j]? with
  |none=>rw[q]at h;cases h
  |some t=>rw[q]at h;cases h;rfl
noncomputable def Agr (nt:Nat)(caps:List Nat)(σ σ':L2.St):Prop:=σ'.length=nt + caps.length/\∀m j,caps[m]?=some j->σ'[nt + m]?=some ((σ[j]?).getD none)
theorem Agr.at (a:Agr nt caps σ σ'){m j:Nat}{v:V}(h:caps[m]?=some j):σ'[nt + m]?=some (some v)↔σ[j]?=some (some v):=by
 rw[a.2 m j h];constructor
 ·intro z;cases q:σ[j]? with
  |none=>rw[q]at z;cases z
  |some o=>rw[q]at z;simp at z;rw[z]
 ·intro z;rw[z];rfl
theorem jh4 (nd:caps.Nodup)(a:Agr nt caps σ σ')(r:SR Z B F H σ ρ):SR Z (jcO nt caps B) F H σ' (jdf nt caps ρ):=by
 refine⟨r.dom,by rw[jcA,a.1],fun i d h=>?_,fun i o f k h=>?_,fun i j o o' f k f' k' l hij h1 h2 q1 q2=>?_,r.base⟩
 ·obtain⟨m,j,rfl,hc,e⟩:=jjU h;obtain⟨v,e1,e2⟩:=r.dat j d e;exact⟨v,(a.at hc).mpr e1,e2⟩
 ·obtain⟨m,j,rfl,hc,e⟩:=jbG h;obtain⟨l,e1,e2,e3,e4,e5⟩:=r.own j o f k e;refine⟨l,(a.at hc).mpr e1,e2,e3,fun z=>?_,e5⟩;simp only[jcO,if_pos (Nat.le_add_right nt m),Nat.add_sub_cancel_left,hc,Option.bind_some];exact e4 z
 ·obtain⟨m1,j1,rfl,c1,e1⟩:=jbG h1;obtain⟨m2,j2,rfl,c2,e2⟩:=jbG h2;refine r.one j1 j2 o o' f k f' k' l (fun z=>hij ?_) e1 e2 ((a.at c1).mp q1) ((a.at c2).mp q2);subst z;have h1:=(List.getElem?_eq_some_iff.mp c1).1;have:=(List.getElem?_inj h1 nd).mp (c1.trans c2.symm);omega
theorem je1 (a:Agr nt caps σ σ'){b:Addr}(h:Mb σ' (jdf nt caps ρ) b):Mb σ ρ b:=by
 obtain⟨i,o,f,h1,h2⟩:=h;obtain⟨m,j,rfl,hc,e⟩:=jbG h1;exact⟨j,o,f,e,(a.at hc).mp h2⟩
theorem jh5 (nd:caps.Nodup){σ4:L2.St}{inn:Rho}{F4:Addr->Prop}{H4:Hp}(a:Agr nt caps σ σ')(a4:Agr nt caps σ σ4)(r:SR Z B F H σ ρ)(hc:∀j∈caps,j < ρ.length)
  (r4:SR Z (jcO nt caps B) F4 H4 σ4 inn) (g:Go σ' (jdf nt caps ρ) F H σ4 inn F4 H4):SR Z B F4 H4 σ (jaK caps nt inn ρ)/\Go σ ρ F H σ (jaK caps nt inn ρ) F4 H4:=by
 have r0:=jh4 nd a r;have kp:=g.keep r0;have hlen:inn.length=nt + caps.length:=by rw[r4.len,a4.1]
 have inB:∀{m j:Nat},caps[m]?=some j->∃s,inn[nt + m]?=some s/\(jaK caps nt inn ρ)[j]?=some s:=fun {m j} h=>by
  have hm:=(List.getElem?_eq_some_iff.mp h).1;have e:inn[nt + m]?=some inn[nt + m]:=jrq (by omega)
  exact⟨_,e,jfU nd h (hc j (jrD h)) e⟩
 have side:∀{j:Nat}{o:O}{f k:Bool}{l:Addr},j ∉ caps->ρ[j]?=some (.own o f k)->σ[j]?=some (some (.ref l))->¬Ow σ' (jdf nt caps ρ) l:=fun {j o f k l} hj h1 h2 z=>by
  obtain⟨i,o',f',k',q1,q2⟩:=z;obtain⟨m,j',rfl,hc',e⟩:=jbG q1;refine r.one j j' _ _ _ _ _ _ l (fun z=>hj (by rw[z];exact jrD hc')) h1 e h2 ((a.at hc').mp q2)
 have ow:∀(j:Nat) (o:O) (f k:Bool) (b:Addr),(jaK caps nt inn ρ)[j]?=some (.own o f k)->σ[j]?=some (some (.ref b))->(∃o0 k0,ρ[j]?=some (.own o0 f k0)/\σ[j]?=some (some (.ref b))/\(k0=true->k=true))\/H b=none:=fun j o f k b h1 h2=>by
  by_cases hj:j∈caps
  ·obtain⟨m,hm⟩:=List.mem_iff_getElem?.mp hj;obtain⟨sl,e1,e2⟩:=inB hm;rw[h1]at e2;cases e2;rcases g.ow _ o f k b e1 ((a4.at hm).mpr h2)with ⟨o0,k0,q1,q2,q3⟩ | z
   ·obtain⟨m',j',e,hc',q⟩:=jbG q1;have:m'=m:=by omega
    subst this;rw[hm]at hc';cases hc';exact .inl ⟨o0,k0,q,h2,q3⟩
   ·exact .inr z
  ·rw[jaT hj]at h1;exact Go.self h1 h2
 refine⟨⟨r4.dom,by rw[jem];exact r.len,fun j d h=>?_,fun j o f k h=>?_,fun i j o o' f k f' k' l hij h1 h2 q1 q2=>?_,r4.base⟩,⟨fun b o h n=>g.stay b o h fun m=>n (je1 a m),g.sub,fun b h=>(g.new b h).imp id fun z=>z.imp id (je1 a),ow,g.there⟩⟩
 ·by_cases hj:j∈caps
  ·obtain⟨m,hm⟩:=List.mem_iff_getElem?.mp hj;obtain⟨sl,e1,e2⟩:=inB hm;rw[h]at e2;cases e2;obtain⟨v,q1,q2⟩:=r4.dat _ d e1;exact⟨v,(a4.at hm).mp q1,q2⟩
  ·rw[jaT hj]at h;obtain⟨v,q1,q2⟩:=r.dat j d h;exact⟨v,q1,q2.mono kp⟩
 ·by_cases hj:j∈caps
  ·obtain⟨m,hm⟩:=List.mem_iff_getElem?.mp hj;obtain⟨sl,e1,e2⟩:=inB hm;rw[h]at e2;cases e2;obtain⟨l,q1,q2,q3,q4,q5⟩:=r4.own _ o f k e1;refine⟨l,(a4.at hm).mp q1,q2,q3,fun z=>?_,q5⟩;have:=q4 z;simpa only[jcO,if_pos (Nat.le_add_right nt m),Nat.add_sub_cancel_left,hm,Option.bind_some] using this
  ·rw[jaT hj]at h;obtain⟨l,q1,q2,q3,q4⟩:=r.own j o f k h;obtain⟨u,hu⟩:=q3.some;obtain⟨s1,s2,s3⟩:=g.side hu q2 (side hj h q1);exact⟨l,q1,s2,q3.mono kp (s1.trans hu.symm),q4⟩
 ·by_cases hi:i∈caps
  ·obtain⟨m,hm⟩:=List.mem_iff_getElem?.mp hi;obtain⟨sl,e1,e2⟩:=inB hm;rw[h1]at e2;cases e2;by_cases hj:j∈caps
   ·obtain⟨m',hm'⟩:=List.mem_iff_getElem?.mp hj;obtain⟨sl',e1',e2'⟩:=inB hm';rw[h2]at e2';cases e2';refine r4.one (nt + m) (nt + m') _ _ _ _ _ _ l (fun z=>hij ?_) e1 e1' ((a4.at hm).mpr q1) ((a4.at hm').mpr q2);have:m=m':=by omega
    subst this;rw[hm]at hm';cases hm';rfl
   ·rw[jaT hj]at h2;rcases ow i o f k l (by rw[<-h1]) q1 with ⟨o0,k0,z1,z2,_⟩ | z
    ·exact r.one i j _ _ _ _ _ _ l hij z1 h2 z2 q2
    ·obtain⟨l',w1,_,w3,_⟩:=r.own j _ _ _ h2;rw[q2]at w1;cases w1;obtain⟨u,hu⟩:=w3.some;rw[hu]at z;cases z
  ·rw[jaT hi]at h1;by_cases hj:j∈caps
   ·rcases ow j o' f' k' l h2 q2 with ⟨o0,k0,z1,z2,_⟩ | z
    ·exact r.one i j _ _ _ _ _ _ l hij h1 z1 q1 z2
    ·obtain⟨l',w1,_,w3,_⟩:=r.own i _ _ _ h1;rw[q1]at w1;cases w1;obtain⟨u,hu⟩:=w3.some;rw[hu]at z;cases z
   ·rw[jaT hj]at h2;exact r.one i j _ _ _ _ _ _ l hij h1 h2 q1 q2
theorem jh6 {E:Value->Shared->Prop}(C:CompOk X scope N cn nt caps)(I:Inv X pins σ H s)(fo:∀b∈fp,FpOk X pins H b)(ft:∀b∈fp,b < s.heap.objs.size){pins':List (Addr×Obj)}{H':Hp}(hp:∀b∈fp,∀p∈pins',p.1≠b)(hn:∀b∈fp,H' b=none) :
  ∀b∈fp,FpOk (cxComp X N scope s H fp E) pins' H' b:=fun b hb=>by
 have ok:=jh2 (E:=E) C I fo ft;exact⟨hn b hb,(fun e=>(ok.exf b hb).1 e),fun z=>ok.exfs b hb z,.inl hb,fun x c h=>(ok.exf b hb).2 x c h,fun p h=>hp b hb p (by simpa[cxComp] using h)⟩
end
end DJ
namespace DJ
open PySem PySem.Spec PyProof.Rows L2
noncomputable def jcP (tgs:List Nat)(one:Bool)(nt:Nat)(caps:List Nat)(fc:Option (Rho->R (Bool×Rho)))(fe:Rho->R (Vl×Rho))(x:D)(r:Rho):R (Option D×Rho):=
 (putT tgs one x (jdf nt caps r)).bind fun r'=>match fc with
  |none=>(fe r').bind fun p=>(toD p.1 p.2).bind fun q=>.ok (some q.1,jaK caps nt q.2 r)
  |some g=>(g r').bind fun b=>if b.1 then (fe b.2).bind fun p=>(toD p.1 p.2).bind fun q=>.ok (some q.1,jaK caps nt q.2 r)else .ok (none,jaK caps nt b.2 r)
section
variable {X:Cx}{scope:Scope}{N cn:List Str}{nt:Nat}{caps:List Nat}{pins:List (Addr×Obj)}{Z:Kn}{σ:L2.St}{ρ:Rho}{B:Bs}{F:Addr->Prop}{H:Hp}{s:Shared}{fp:List Addr}
inductive CompI (X:Cx) (N:List Str) (scope:Scope) (fp:List Addr) (nt:Nat) (caps:List Nat) (σ:L2.St) (Z:Kn) (B:Bs) (ρ:Rho) (F:Addr->Prop) (H:Hp) (ls:List Addr) (tn:Nat->Heap->Prop) (f:D->Rho->R (Option D×Rho)) (xs:List D) (rs:R (List D×Rho)) (s3:Shared) (H3:Hp) (E:Value->Shared->Prop) (l:Addr) (k:Nat) (s':Shared):Prop
 |mk (i:Nat) (σ':L2.St) (F':Addr->Prop) (H':Hp) (ρ1:Rho) (yi:List D) (vs:List V):k=xs.length + 1 - i->i<=xs.length->Inv (cxComp X N scope s3 H3 fp E) [] σ' H' s'->Agr nt caps σ σ'->SR Z B F' H' σ ρ1 ->
    Go σ ρ F H σ ρ1 F' H'->GK F H ls F' H'->tn i s'.heap->(∀b∈fp,H' b=none)->((compGo f (xs.drop i) ρ1).bind fun q=>.ok (yi++q.1,q.2))=rs->¬F' l->¬Ow σ ρ1 l->H' l=some (.lst vs)->Reps Z F' H' yi vs->yi.length<=i->CompI X N scope fp nt caps σ Z B ρ F H ls tn f xs rs s3 H3 E l k s'
theorem jfV {elt tg iter:Expr}{ks:List Expr}{pos:Pos}{tgs:List Nat}{one:Bool}{fc:Option (Rho->R (Bool×Rho))}{fe:Rho->R (Vl×Rho)}{xs:List D}{rs:R (List D×Rho)}{ls:List Addr}{it:Addr}{tn:Nat->Heap->Prop}{RR:Value->Addr->Result->Shared->Prop}
  (hZ:X.K=Z.K) (hc:X.calm=true) (C:CompOk X scope N cn nt caps) (I:Inv X pins σ H s) (r:SR Z B F H σ ρ) (W:Wk X.prog X.w Z tg F H ls xs fp it tn) (hls:∀l∈ls,¬Mb σ ρ l) (st0:tn 0 s.heap) (fo:∀b∈fp,FpOk X pins H b)
  (hT:∀s' H' E,TgOk (cxComp X N scope s' H' fp E) tg tgs one) (hlow:∀i∈tgs,i < nt) (hcap:∀j∈caps,j < ρ.length)
  (hE:∀s' H' E B',PE (cxComp X N scope s' H' fp E) elt (tE Z (cxComp X N scope s' H' fp E) B' fe))
  (hK:(ks=[]/\fc=none)\/∃k g,ks=[k]/\fc=some g/\∀s' H' E B',PT (cxComp X N scope s' H' fp E) k (tT Z (cxComp X N scope s' H' fp E) B' g))
  (hY:compGo (jcP tgs one nt caps fc fe) xs ρ=rs) (hk:rs≠.stk)
  (hRR:∀(ys:List D) (ρE:Rho) (E:Value->Shared->Prop) (s3:Shared) (l:Addr) (σ':L2.St) (F':Addr->Prop) (H':Hp) (s':Shared) (vs:List V),rs=.ok (ys,ρE)->H l=none->Inv X pins σ (upd H l (.lst [])) s3->Inv (cxComp X N scope s3 (upd H l (.lst [])) fp E) [] σ' H' s'->Go σ ρ F H σ ρE F' H'->SR Z B F' H' σ ρE->¬F' l->¬Ow σ ρE l->H' l=some (.lst vs)->Reps Z F' H' ys vs ->
   RR (.ref l) s3.heap.objs.size (.ok .next) s')
  (hRX:∀(c:Nat) (E:Value->Shared->Prop) (s3:Shared) (l:Addr) (σ':L2.St) (H':Hp) (s':Shared) (pins':List (Addr×Obj)) (ea Cc:Addr),rs=.err c->H l=none->Inv X pins σ (upd H l (.lst [])) s3->Z.cl[c]?=some Cc->Inv (cxComp X N scope s3 (upd H l (.lst [])) fp E) pins' σ' H' s'->Stl σ ρ H H'->FlyC (cxComp X N scope s3 (upd H l (.lst [])) fp E) pins' ea (.ref Cc) H' s' ->
   notedBy (model X.prog X.w) X.A (cxComp X N scope s3 (upd H l (.lst [])) fp E).env (fun e s''=>RR (.ref l) s3.heap.objs.size (.error e) s'') (.ref ea) s') {E:Value->Shared->Prop} :
  wpAny (model X.prog X.w) X.A (newList []) (fun acc s₃=>wpAny (model X.prog X.w) X.A (newFunctionEnv scope X.env.globals (jgE X.env scope.names []) [] X.env.qual none .none (some X.env)) (fun cenv s₄=>
   codeAny (model X.prog X.w) X.A (.compStart (.ListComp elt [⟨tg,iter,ks,0⟩] scope pos) 0 (.ref it) acc { cenv with scope:=relabel scope X.env }) (RR acc cenv.locals) s₄) E s₃) E s:=by
 have nd:=C.capsNd;refine jrT ?_;have ft:∀b∈fp,b < s.heap.objs.size:=fun b hb=>by
  obtain⟨o,e,_⟩:=W.obj _ _ st0 b hb;exact jrY e
 have hl:H s.heap.objs.size=none:=I.hok.fresh (jr1 _);have I3:Inv X pins σ (upd H s.heap.objs.size (.lst [])) { s with heap:=s.heap.push { cls:=.type "list",dict:=none,data:=.seq ([]:List Value).toArray } }:=
  I.laid (t':=s.toks) (fun b u e=>jrX _ e) (jr1 _) ⟨Nat.zero_le _,[],0,.nil,jrZ _ rfl⟩
 have ex3:Ext F H F (upd H s.heap.objs.size (.lst [])):=Ext.newO r.dom hl;have r3:SR Z B F (upd H s.heap.objs.size (.lst [])) σ ρ:=r.ext ex3;have fo3:∀b∈fp,FpOk X pins (upd H s.heap.objs.size (.lst [])) b:=fun b hb=>⟨by rw[jad (jr3 (ft b hb))];exact(fo b hb).1,(fo b hb).2⟩
 have st3:tn 0 (s.heap.push { cls:=.type "list",dict:=none,data:=.seq ([]:List Value).toArray }):=W.keep _ _ _ st0 fun b hb o e=>jrX _ e;have nFl:¬F s.heap.objs.size:=fun z=>by
  obtain⟨o,e⟩:=r.dom _ z;rw[hl]at e;cases e
 have nOl:¬Ow σ ρ s.heap.objs.size:=fun z=>by
  obtain⟨o,e⟩:=r.there z;rw[hl]at e;cases e
 have ft3:∀b∈fp,b < (s.heap.push { cls:=.type "list",dict:=none,data:=.seq ([]:List Value).toArray }).objs.size:=fun b hb=>by
  rw[Heap.size_push];exact Nat.lt_succ_of_lt (ft b hb)
 revert I3 r3 ex3 fo3 st3 ft3
 generalize hs3:({ s with heap:=s.heap.push { cls:=.type "list",dict:=none,data:=.seq ([]:List Value).toArray } }:Shared)=s3
 have e3:s3.heap=s.heap.push { cls:=.type "list",dict:=none,data:=.seq ([]:List Value).toArray }:=by rw[<-hs3]
 rw[<-e3];generalize hl0:s.heap.objs.size=l at hl nFl nOl;generalize hH3:upd H l (.lst [])=H3;intro I3 ex3 r3 fo3 st3 ft3;have hl3:H3 l=some (.lst []):=by rw[<-hH3];exact jan
 refine jgF ?_;have hsb₁:∀b o,(s3.heap.push { cls:=.type "dict",data:=.dict #[] }).get? b=some o->(pushCells (s3.heap.push { cls:=.type "dict",data:=.dict #[] }) scope.names).get? b=some o:=pushCells_keeps _ _;have hcl:∀x c,(cellsFrom (s3.heap.objs.size + 1) scope.names (jgE X.env scope.names [])).lookup x=some c->∃v,(pushCells (s3.heap.push { cls:=.type "dict",data:=.dict #[] }) scope.names).IsCell c v:=by
  have:=je0 scope.names (s3.heap.push { cls:=.type "dict",data:=.dict #[] }) (jgE X.env scope.names []) fun x c e=>by
   obtain⟨v,z⟩:=I3.cell x c (jbn _ _ (C.cells I3) (fun _ _ z=>by simp at z) _ _ e)
   exact⟨v,z.keeps fun b o e=>jrX _ e⟩
  rwa [Heap.size_push]at this
 have hns₁:(pushCells (s3.heap.push { cls:=.type "dict",data:=.dict #[] }) scope.names).Ns s3.heap.objs.size fun _=>none:=Heap.Ns.keeps ⟨_,_,_,jrZ _ rfl,rfl,(fun e he=>by simp at he),fun _=>rfl⟩ hsb₁
 revert hsb₁ hcl hns₁
 generalize hh1:pushCells (s3.heap.push { cls:=.type "dict",data:=.dict #[] }) scope.names=h₁;intro hsb₁ hcl hns₁;have kp:∀b o,s3.heap.get? b=some o->h₁.get? b=some o:=fun b o e=>hsb₁ b o (jrX _ e);let EE:Value->Shared->Prop:=notedBy (model X.prog X.w) X.A (cxComp X N scope s3 H3 fp (fun _ _=>False)).env (fun e s''=>RR (.ref l) s3.heap.objs.size (.error e) s'');have IY:=jjS (fp:=fp) (E:=EE) C I3 fo3 ft3 (tk:=s3.toks) hns₁ kp hcl;have aY:Agr nt caps σ (jjR nt caps σ):=⟨by unfold jjR;simp,fun m j h=>jh3 h⟩
 have hrl:ρ.length=σ.length:=r.len;have loop:∀s₄:Shared,s₄={ s3 with heap:=h₁,toks:=s3.toks } ->
   codeAny (model X.prog X.w) X.A (.compLoop (.ListComp elt [⟨tg,iter,ks,0⟩] scope pos) 0 (.ref it) (.ref l) (cxComp X N scope s3 H3 fp EE).env) (RR (.ref l) s3.heap.objs.size) s₄:=by
  rintro s₄ rfl;let P:=CompI X N scope fp nt caps σ Z B ρ F H ls tn (jcP tgs one nt caps fc fe) xs rs s3 H3 EE l;refine jek P ?_ (xs.length + 1)
   ⟨0,_,F,H3,ρ,[],[],rfl,Nat.zero_le _,IY,aY,r3,ex3.go,GK.refl.ext r.dom W.lst ex3,W.keep _ _ _ st3 (fun b _ o e=>kp b o e),fun b hb=>(fo3 b hb).1,(by rw[List.drop_zero,hY];cases rs with | ok q=>rfl | err c=>rfl | stk=>rfl),nFl,nOl,hl3,.nil,jr1 _⟩
  rintro k s' ⟨i,σ',F',H',ρ1,yi,vs,rfl,hi,I',a',r',g',gk',st',fr',hZ',nF',nO',hl',rep',hyi⟩;have fo':=jh6 (E:=EE) C I3 fo3 ft3 (pins':=[]) (H':=H') (fun b _ p h=>by simp at h) fr'
  by_cases hlt:i < xs.length
  ·have hx:xs[i]?=some xs[i]:=jrq hlt;let rest (p:Option D×Rho):R (List D×Rho):=(compGo (jcP tgs one nt caps fc fe) (xs.drop (i + 1)) p.2).bind fun q=>.ok (yi++(match p.1 with | some d=>d::q.1 | none=>q.1),q.2)
   have hZ2:(jcP tgs one nt caps fc fe xs[i] ρ1).bind rest=rs:=by
    rw[<-hZ',List.drop_eq_getElem_cons hlt];simp only[compGo,R.bind_assoc,R.bind_ok',rest] <;> rfl
   clear hZ';unfold jcP at hZ2;cases hp:putT tgs one xs[i] (jdf nt caps ρ1)with
   |err c=>exact absurd hp jdK
   |stk=>rw[hp]at hZ2;exact absurd hZ2.symm hk
   |ok ρ2=>
   rw[hp,R.bind_ok']at hZ2;have r0:=jh4 nd a' r';refine jrW (W.take (cxComp X N scope s3 H3 fp EE) rfl rfl hZ hc C.nd tgs one (hT s3 H3 EE) i [] s' σ' _ ρ2 _ F' H' _ I' r0 gk' fo' st' hx hp) (fun q s1 hzz=>?_) fun _ _ z=>z;obtain⟨u,hq,h1⟩:=hzz;subst hq;refine jrW h1 (fun _ s2 h2=>jrW h2 (fun _ s4 hzz=>?_) fun _ _ z=>z) fun _ _ z=>z;obtain⟨σ4,F4,H4,I4,r4,g4,gk4,st4,fr4,ag4⟩:=hzz;have foY:∀b∈fp,FpOk (cxComp X N scope s3 H3 fp EE) [] H4 b:=jh6 C I3 fo3 ft3 (pins':=[]) (H':=H4) (fun b _ p h=>by simp at h) fr4
   have I4p:=I4.pinned foY (W.obj _ _ st4);obtain⟨pl,pg⟩:=jjT hp;have a4:Agr nt caps σ σ4:=by
    refine⟨?_,fun m j h=>?_⟩
    ·rw[<-r4.len,pl,jcA]
    ·rw[ag4 (nt + m) fun z=>absurd (hlow _ z) (by omega)];exact a'.2 m j h
   have hc1:∀j∈caps,j < ρ1.length:=fun j hj=>by rw[r'.len,<-hrl];exact hcap j hj
   have hls1:∀l∈ls,¬Mb σ ρ1 l:=fun l hl z=>by
    rcases g'.mb z with z | z
    ·exact hls l hl z
    ·obtain⟨o,e⟩:=W.lst l hl;rw[e]at z;cases z
   have back:∀{inn:Rho}{F5:Addr->Prop}{H5:Hp},SR Z (jcO nt caps B) F5 H5 σ4 inn->Go σ4 ρ2 F4 H4 σ4 inn F5 H5->SR Z B F5 H5 σ (jaK caps nt inn ρ1)/\Go σ ρ1 F' H' σ (jaK caps nt inn ρ1) F5 H5:=fun {inn F5 H5} r5 g5=>jh5 nd a' a4 r' hc1 r5 (g4.trans g5);have pinK:∀{s5:Shared}{H5:Hp},Inv (cxComp X N scope s3 H3 fp EE) ([]++jbO fp s4.heap) σ4 H5 s5->tn (i + 1) s5.heap/\∀b∈fp,H5 b=none:=fun {s5 H5} I5=>by
    refine⟨W.keep _ _ _ st4 fun b hb o e=>(I5.pin (b,o) (jrB _ (jrB _ (jbj hb e)))).1,fun b hb=>?_⟩;obtain⟨ob,e,_⟩:=W.obj _ _ st4 b hb;exact(I5.pin (b,ob) (jrB _ (jrB _ (jbj hb e)))).2.1
   have exc:∀{c:Nat}{ρ5:Rho}{F5:Addr->Prop}{H5:Hp},rs=.err c->Go σ4 ρ2 F4 H4 σ4 ρ5 F5 H5->XW Z (cxComp X N scope s3 H3 fp EE) σ4 ρ5 H5 c:=fun {c ρ5 F5 H5} e g5 pins' H6 s6 ea Cc hC I6 stl fly=>by
    have st2:Stl σ' (jdf nt caps ρ1) H' H6:=Stl.go g4 (Stl.go g5 stl);have st1:Stl σ ρ1 H' H6:=⟨fun b o e n=>st2.stay b o e fun m=>n (je1 a' m),st2.there⟩;subst hH3;exact hRX c EE s3 l σ4 H6 s6 pins' ea Cc e hl I3 hC I6 (Stl.go g' st1) fly
   have skip:∀(s5:Shared) (inn:Rho) (F5:Addr->Prop) (H5:Hp),Inv (cxComp X N scope s3 H3 fp EE) ([]++jbO fp s4.heap) σ4 H5 s5->SR Z (jcO nt caps B) F5 H5 σ4 inn->Go σ4 ρ2 F4 H4 σ4 inn F5 H5->rest (none,jaK caps nt inn ρ1)=rs->∃m,m < xs.length + 1 - i/\P m s5:=by
    intro s5 inn F5 H5 I5 r5 g5 eo;obtain⟨rB,gB⟩:=back r5 g5;obtain⟨st5,fr5⟩:=pinK I5;obtain⟨l1,l2,l3⟩:=gB.side hl' nF' nO';exact⟨xs.length + 1 - (i + 1),Nat.sub_lt_sub_left (Nat.lt_succ_of_lt hlt) (Nat.lt_succ_self i),i + 1,σ4,F5,H5,_,yi,vs,rfl,hlt,I5.unpinned,a4,rB,g'.trans gB,gk'.go W.lst r' gB hls1,st5,fr5,eo,l2,l3,l1,rep'.mono (gB.keep r'),by omega⟩
   have elt_:∀(s5:Shared) (ρ5:Rho) (F5:Addr->Prop) (H5:Hp),Inv (cxComp X N scope s3 H3 fp EE) ([]++jbO fp s4.heap) σ4 H5 s5->SR Z (jcO nt caps B) F5 H5 σ4 ρ5->Go σ4 ρ2 F4 H4 σ4 ρ5 F5 H5 ->
     ((fe ρ5).bind fun p=>(toD p.1 p.2).bind fun q=>(.ok (some q.1,jaK caps nt q.2 ρ1):R (Option D×Rho))).bind rest=rs ->
     wpAny (model X.prog X.w) X.A (eval elt (cxComp X N scope s3 H3 fp EE).env) (fun x s₄=>wpAny (model X.prog X.w) X.A (call (.builtin "list.append") [.ref l,x]) (fun _ s₅=>∃m,m < xs.length + 1 - i/\P m s₅) EE s₄) EE s5:=by
    intro s5 ρ5 F5 H5 I5 r5 g5 ho;refine jrW (hE s3 H3 EE (jcO nt caps B) ([]++jbO fp s4.heap) s5 σ4 H5 (fun v H6=>∃(q:D×Rho) (F6:Addr->Prop),rest (some q.1,jaK caps nt q.2 ρ1)=rs/\Go σ4 ρ2 F4 H4 σ4 q.2 F6 H6/\SR Z (jcO nt caps B) F6 H6 σ4 q.2/\Rep Z F6 H6 q.1 v) I5 ⟨F5,ρ5,r5,?_⟩) (fun u s6 hzz=>?_) fun _ _ z=>z
    ·cases hd:fe ρ5 with
     |stk=>rw[hd]at ho;exact absurd ho.symm hk
     |err c=>rw[hd]at ho;exact exc ho.symm g5
     |ok p=>
      rw[hd,R.bind_ok']at ho;intro v F6 H6 g6 r6 rv6;cases hq:toD p.1 p.2 with
      |stk=>rw[hq]at ho;exact absurd ho.symm hk
      |err c=>exact absurd hq jcg
      |ok q=>
       rw[hq,R.bind_ok',R.bind_ok']at ho;obtain⟨F7,g7,r7,rp,_⟩:=jej (rv6.base fun l z=>g5.free z) r6 (g5.trans g6) hq;exact⟨q,F7,ho,g7,r7,rp⟩
    ·obtain⟨v,H6,I6,rv,q,F6,ho,g6,r6,rp6⟩:=hzz;obtain⟨rB,gB⟩:=back r6 g6;obtain⟨l1,l2,l3⟩:=gB.side hl' nF' nO';have hvl:vs.length < sizeLine:=by
      have:=rep'.length;have:=W.len;omega
     refine jrW (jee (X:=cxComp X N scope s3 H3 fp EE) ([]++jbO fp s4.heap) s6 σ4 H6 (.ref l) [v] (.ref l) [u] (fun _ H7=>H7=upd H6 l (.lst (vs++[v]))) I6 rfl (.cons rv .nil) ⟨l,vs,v,rfl,rfl,l1,hvl,rfl⟩) (fun _ s7 hzz=>?_) fun _ _ z=>z;obtain⟨_,H7,I7,_,e7⟩:=hzz;subst e7;obtain⟨kp7,r7⟩:=rB.oth (u:=.lst (vs++[v])) l2 l3;obtain⟨st7,fr7⟩:=pinK I7;have gA:Go σ ρ F H σ (jaK caps nt q.2 ρ1) F6 (upd H6 l (.lst (vs++[v]))):=by
      have g0:=g'.trans gB;refine⟨fun b ob e n=>?_,g0.sub,g0.new,g0.ow,fun b ob e=>?_⟩
      ·rw[jad (jab e hl)];exact g0.stay b ob e n
      ·rw[jad (jab e hl)];exact g0.there b ob e
     have gkA:GK F H ls F6 (upd H6 l (.lst (vs++[v]))):=by
      have gk0:=gk'.go W.lst r' gB hls1;refine⟨gk0.keep.trans kp7,fun b hb=>?_⟩;obtain⟨ob,e⟩:=W.lst b hb;rw[jad (jab e hl)];exact gk0.ls b hb
     refine⟨xs.length + 1 - (i + 1),Nat.sub_lt_sub_left (Nat.lt_succ_of_lt hlt) (Nat.lt_succ_self i),i + 1,σ4,F6,_,_,yi++[q.1],vs++[v],rfl,hlt,I7.unpinned,a4,r7,gA,gkA,st7,fr7,?_,l2,l3,jan,((rep'.mono (gB.keep r')).mono kp7).append (.one (rp6.mono kp7)),by rw[jrF,List.length_singleton];omega⟩
     rw[<-ho];simp only[rest,List.append_assoc,List.cons_append,List.nil_append]
   rcases hK with ⟨rfl,rfl⟩ | ⟨k,g,rfl,rfl,hkc⟩
   ·refine wpAny_tests_nil ?_;rw[if_pos rfl];exact elt_ s4 ρ2 F4 H4 I4p r4 Go.refl hZ2
   ·refine wpAny_tests_one ?_;refine jrW (hkc s3 H3 EE (jcO nt caps B) ([]++jbO fp s4.heap) s4 σ4 H4 (fun b' H5=>∃(b:Bool×Rho) (F5:Addr->Prop),b'=b.1/\((if b.1 then (fe b.2).bind fun p=>(toD p.1 p.2).bind fun q=>.ok (some q.1,jaK caps nt q.2 ρ1)else .ok (none,jaK caps nt b.2 ρ1):R (Option D×Rho))).bind rest=rs/\Go σ4 ρ2 F4 H4 σ4 b.2 F5 H5/\SR Z (jcO nt caps B) F5 H5 σ4 b.2) I4p ⟨F4,ρ2,r4,?_⟩) (fun b' s5 hzz=>?_) fun _ _ z=>z
    ·dsimp only at hZ2;cases hb:g ρ2 with
     |stk=>rw[hb]at hZ2;exact absurd hZ2.symm hk
     |err c=>rw[hb]at hZ2;exact exc hZ2.symm Go.refl
     |ok b=>
      rw[hb,R.bind_ok']at hZ2;exact fun F5 H5 g5 r5=>⟨b,F5,rfl,hZ2,g5,r5⟩
    ·obtain⟨H5,I5,b,F5,eb,ho,g5,r5⟩:=hzz;subst eb;cases hb1:b.1 with
     |true=>
      rw[if_pos rfl];rw[hb1,if_pos rfl]at ho;exact elt_ s5 b.2 F5 H5 I5 r5 g5 ho
     |false=>
      rw[if_neg (by decide)]
      rw[hb1,if_neg (by decide),R.bind_ok']at ho
      exact skip s5 b.2 F5 H5 I5 r5 g5 ho
  ·have hie:i=xs.length:=by omega
   subst hie;rw[List.drop_eq_nil_of_le (jr1 _)]at hZ';have hZ':(.ok (yi++[],ρ1):R (List D×Rho))=rs:=hZ';rw[jrP]at hZ';refine jrW (W.done (cxComp X N scope s3 H3 fp EE) rfl rfl hZ hc [] s' σ' F' H' I' r'.dom gk' fo' st') (fun q s1 hzz=>?_) fun _ _ z=>z;obtain⟨hq,I1⟩:=hzz;subst hq;subst hH3;exact hRR yi ρ1 EE s3 l σ' F' H' s1 vs hZ'.symm hl I3 I1 g' r' nF' nO' hl' rep'
 exact codeAny_compStart_list (loop _ rfl) (W.self _ 0 _ _ _ (W.keep _ _ _ st3 fun b _ o e=>kp b o e) (loop _ rfl))
end
end DJ
namespace DJ
open PySem PySem.Spec PyProof.Rows L2
theorem jaO {n:Nat}(h:fits n=true):n<=sizeLine:=by
 unfold fits at h;rw[sizeLine_eq];simpa using h
noncomputable def Op.py:Op->Operator
 |.add=>.Add | .sub=>.Sub | .mul=>.Mult | .fdiv=>.FloorDiv | .mod=>.Mod | .pow=>.Pow
noncomputable def jla:R Vl->Prop
 |.ok (.slot _)=>False
 |.err _=>False
 |_=>True
theorem jbH {c:Prop}[Decidable c]{r:R Vl}(h:jla r):jla (if c then r else .stk):=by
 split
 ·exact h
 ·trivial
theorem jjV {a b:Int}{o:Op}:jla (opZ a b o):=by
 cases o <;> first | trivial | exact jbH trivial
theorem jdL {v:R Vl}{o:Op}(h:jla v):jla (opC v o):=by
 cases o <;> first | exact h | trivial
theorem jfW {v:R Vl}{o:Op}(h:jla v):jla (opM v o):=by
 cases o <;> first | exact h | trivial
theorem jfX {o:Op}{x y:D}:jla (opD o x y):=by
 cases x with
 |int a=>cases y with
  |int b=>exact jjV
  |_=>trivial
 |tup a=>cases y with
  |tup b=>exact jdL (jbH trivial)
  |_=>trivial
 |lst a=>cases y with
  |lst b=>exact jdL (jbH trivial)
  |int b=>exact jfW (jbH trivial)
  |_=>trivial
 |str a=>cases y with
  |int b=>exact jfW (jbH trivial)
  |str b=>exact jdL (jbH trivial)
  |_=>trivial
 |_=>trivial
theorem jl9 {o:Op}{x y:D}{c:Nat}:opD o x y≠.err c:=fun h=>by
 have:=jfX (o:=o) (x:=x) (y:=y);rw[h]at this;exact this
theorem jjW {o:Op}{x y:D}{i:Nat}:opD o x y≠.ok (.slot i):=fun h=>by
 have:=jfX (o:=o) (x:=x) (y:=y);rw[h]at this;exact this
theorem jcp {w:Vl}{p:Prop}(h:(.stk:R Vl)=.ok w):p:=nomatch h
theorem jbh {c:Prop}[Decidable c]{v w:Vl}(h:(if c then .ok v else .stk:R Vl)=.ok w):c/\v=w:=by
 split at h
 ·cases h;exact⟨‹_›,rfl⟩
 ·exact jcp h
theorem jh7 {v:R Vl}{w:Vl}{o:Op}(h:opC v o=.ok w):o=.add/\v=.ok w:=by
 cases o with
 |add=>exact⟨rfl,h⟩
 |_=>exact jcp h
theorem jlb {v:R Vl}{w:Vl}{o:Op}(h:opM v o=.ok w):o=.mul/\v=.ok w:=by
 cases o with
 |mul=>exact⟨rfl,h⟩
 |_=>exact jcp h
section
variable {Z:Kn}{X:Cx}
noncomputable def jpM (i j:Int):Prop:=0 < j/\j < 2 ^ 64
theorem jjX:OpR X (binaryOp .FloorDiv) (rI jpM fun i j=>.int (i / j)):=opI fun i j _ _ _ _ _ hc q=>by
 have h1:(0:Int) < j:=hc.1;have h2:j < 2 ^ 64:=hc.2;refine floordiv_int (by omega) (by rw[Int.fdiv_eq_ediv_of_nonneg i (by omega)];exact q) (.inl (PyProof.noPylong_of_log2 ?_))
 have h3:j.natAbs < 2 ^ 64:=by omega
 have h4:j.natAbs.log2 < 64:=(Nat.log2_lt (by omega)).mpr h3
 omega
theorem jpN (hZ:X.K=Z.K)(o:Op):OpR X (binaryOp o.py) (rD2 Z (opD o)):=by
 intro pins s σ H x y v u Q I rx ry h;obtain⟨F,dx,dy,w,dm,bx,by_,hw,h⟩:=h;have sqT:∀{a:Addr}{vs:List V},FT Z.K F H a vs->SqT X.K H a vs:=fun q=>by rw[hZ];exact q.sq
 cases dx with
 |int i=>
  cases dy with
  |int j=>
   cases bx.int;cases by_.int;cases o with
   |add=>cases hw;exact jnU pins s σ H _ _ v u Q I rx ry ⟨_,_,rfl,rfl,h.int dm⟩
   |sub=>cases hw;exact jnV pins s σ H _ _ v u Q I rx ry ⟨_,_,rfl,rfl,h.int dm⟩
   |mul=>obtain⟨hf,rfl⟩:=jbh hw;exact jnW pins s σ H _ _ v u Q I rx ry ⟨_,_,rfl,rfl,hf,h.int dm⟩
   |fdiv=>obtain⟨hf,rfl⟩:=jbh hw;exact jjX pins s σ H _ _ v u Q I rx ry ⟨_,_,rfl,rfl,hf,h.int dm⟩
   |mod=>obtain⟨hf,rfl⟩:=jbh hw;exact jnX pins s σ H _ _ v u Q I rx ry ⟨_,_,rfl,rfl,hf,h.int dm⟩
   |pow=>obtain⟨hf,rfl⟩:=jbh hw;exact jnY pins s σ H _ _ v u Q I rx ry ⟨_,_,rfl,rfl,hf,h.int dm⟩
  |_=>exact jcp hw
 |tup as=>
  cases dy with
  |tup bs=>
   obtain⟨rfl,hw⟩:=jh7 hw;obtain⟨hf,rfl⟩:=jbh hw;obtain⟨a,vs,rfl,ft,ra⟩:=bx.tup;obtain⟨b,us,rfl,fu,rb⟩:=by_.tup;have hl:vs.length + us.length<=sizeLine:=by rw[<-ra.length,<-rb.length];exact jaO hf
   by_cases hv:vs=[]
   ·subst hv;have ea:as=[]:=List.eq_nil_of_length_eq_zero (by rw[ra.length];rfl)
    subst ea;exact jjE pins s σ H _ _ v u Q I rx ry ⟨a,b,us,rfl,rfl,sqT ft,sqT fu,h.tupOld dm fu rb⟩
   ·refine jlP pins s σ H _ _ v u Q I rx ry ⟨a,b,vs,us,rfl,rfl,sqT ft,sqT fu,hv,hl,fun e=>?_,fun _=>h.tup dm (ra.append rb)⟩;subst e;have eb:bs=[]:=List.eq_nil_of_length_eq_zero (by rw[rb.length];rfl)
    subst eb;rw[jrP]at h;exact h.tupOld dm ft ra
  |_=>exact jcp hw
 |lst as=>
  cases dy with
  |lst bs=>
   obtain⟨rfl,hw⟩:=jh7 hw;obtain⟨hf,rfl⟩:=jbh hw;obtain⟨a,vs,rfl,ft,ra⟩:=bx.lst;obtain⟨b,us,rfl,fu,rb⟩:=by_.lst;have hl:vs.length + us.length<=sizeLine:=by rw[<-ra.length,<-rb.length];exact jaO hf
   exact jlU pins s σ H _ _ v u Q I rx ry ⟨a,b,vs,us,rfl,rfl,(by rw[hZ];exact ft),(by rw[hZ];exact fu),hl,h.lst dm (ra.append rb)⟩
  |int k=>
   obtain⟨rfl,hw⟩:=jlb hw;obtain⟨hf,rfl⟩:=jbh hw;obtain⟨h0,h1,h2⟩:=hf;obtain⟨a,vs,rfl,ft,ra⟩:=bx.lst;cases by_.int;exact jlW pins s σ H _ _ v u Q I rx ry ⟨a,k,vs,rfl,rfl,(by rw[hZ];exact ft),h0,h1,by rw[<-ra.length];exact jaO h2,h.lst dm (ra.rep k.toNat)⟩
  |_=>exact jcp hw
 |str x=>
  cases dy with
  |int k=>
   obtain⟨rfl,hw⟩:=jlb hw;obtain⟨hf,rfl⟩:=jbh hw;obtain⟨h0,h1,h2⟩:=hf;cases bx.str;cases by_.int;obtain⟨t,rfl⟩:=rx;obtain⟨t',rfl⟩:=ry;refine SB.mul ⟨?_,fun hn _=>?_,fun hn _=>?_⟩ fun t' k'=>⟨.str _,H,I.tok k',⟨t',rfl⟩,h.sc dm (by simp only[Rep])⟩
   ·rw[decide_eq_false (by omega),decide_eq_false (by omega)];rfl
   ·have h3:(x.length:Int) * k<=1000 * 1000:=Int.mul_le_mul (by omega) h1 h0 (by omega)
    have h4:(x.length:Int)<=(2 ^ 63 - 1) / k:=Int.le_ediv_of_mul_le (by omega) (by omega)
    omega
   ·have h3:x.length * k.toNat<=1000 * 1000:=Nat.mul_le_mul h2 (by omega)
    exact decide_eq_false (by rw[sizeLine_eq];omega)
  |str y=>
   obtain⟨rfl,hw⟩:=jh7 hw;obtain⟨hf,rfl⟩:=jbh hw;cases bx.str;cases by_.str;exact jgt pins s σ H _ _ v u Q I rx ry ⟨_,_,rfl,rfl,jaO hf,h.sc dm (by simp only[Rep])⟩
  |_=>exact jcp hw
 |_=>exact jcp hw
end
section
variable {Z:Kn}{X:Cx}{pins:List (Addr×Obj)}{s:Shared}{σ:L2.St}{H:Hp}{F:Addr->Prop}
theorem RepB.isTup (hZ:X.K=Z.K)(I:Inv X pins σ H s){ds:List D}{v:V}{u:Value}(h:RepB Z F H (.tup ds) v)(r:RelV v u):∃a vs its,u=.ref a/\Reps Z F H ds vs/\Vals vs its/\s.heap.IsTuple a its.toArray:=by
 obtain⟨a,vs,rfl,ft,rr⟩:=h.tup;cases r;obtain⟨its,rv,p,_⟩:=I.tuple (show SqT X.K H a vs by rw[hZ];exact ft.sq)
 exact⟨a,vs,its,rfl,rr,rv,p⟩
theorem RepB.isLst (hZ:X.K=Z.K)(I:Inv X pins σ H s){ds:List D}{v:V}{u:Value}(h:RepB Z F H (.lst ds) v)(r:RelV v u):∃a vs its,u=.ref a/\Reps Z F H ds vs/\Vals vs its/\s.heap.IsList a its.toArray:=by
 obtain⟨a,vs,rfl,ft,rr⟩:=h.lst;cases r;obtain⟨its,rv,p,_⟩:=I.list (show SqL X.K H a vs by rw[hZ];exact ft)
 exact⟨a,vs,its,rfl,rr,rv,p.isList⟩
theorem jh8 {h:Heap}{a:Addr}{x y:Array Value}(p:h.IsTuple a x)(q:h.IsTuple a y):x=y:=by
 obtain⟨o,e,_,n,d⟩:=p;obtain⟨o',e',_,n',d'⟩:=q;rw[e]at e';cases e';rw[d]at d';cases d';rfl
theorem jh9 {h:Heap}{a:Addr}{x y:Array Value}(p:h.IsList a x)(q:h.IsList a y):x=y:=by
 obtain⟨o,e,_,n,d⟩:=p;obtain⟨o',e',_,n',d'⟩:=q;rw[e]at e';cases e';rw[d]at d';cases d';rfl
mutual
theorem jcB (hZ:X.K=Z.K)(I:Inv X pins σ H s):∀{d e:D}{v w:V}{u:Value},RepB Z F H d v->RepB Z F H e w->RelV v u->RelV w u->jbM d=true->jbM e=true->d=e
 |.non,e,v,w,u,hd,he,rv,rw',cd,ce=>by
  cases hd.non;cases rv;cases e with
  |non=>rfl
  |bl b=>cases he.bl;cases rw'
  |int i=>cases he.int;obtain⟨t,z⟩:=rw';cases z
  |str x=>cases he.str;obtain⟨t,z⟩:=rw';cases z
  |tup xs=>obtain⟨a,vs,its,z,_⟩:=he.isTup hZ I rw';cases z
  |lst xs=>obtain⟨a,vs,its,z,_⟩:=he.isLst hZ I rw';cases z
  |dct _ _=>cases ce
  |exc _=>cases ce
 |.bl b,e,v,w,u,hd,he,rv,rw',cd,ce=>by
  cases hd.bl;cases rv;cases e with
  |non=>cases he.non;cases rw'
  |bl b'=>cases he.bl;cases rw';rfl
  |int i=>cases he.int;obtain⟨t,z⟩:=rw';cases z
  |str x=>cases he.str;obtain⟨t,z⟩:=rw';cases z
  |tup xs=>obtain⟨a,vs,its,z,_⟩:=he.isTup hZ I rw';cases z
  |lst xs=>obtain⟨a,vs,its,z,_⟩:=he.isLst hZ I rw';cases z
  |dct _ _=>cases ce
  |exc _=>cases ce
 |.int i,e,v,w,u,hd,he,rv,rw',cd,ce=>by
  cases hd.int;obtain⟨t,rfl⟩:=rv;cases e with
  |non=>cases he.non;cases rw'
  |bl b'=>cases he.bl;cases rw'
  |int i=>cases he.int;obtain⟨t,z⟩:=rw';cases z;rfl
  |str x=>cases he.str;obtain⟨t,z⟩:=rw';cases z
  |tup xs=>obtain⟨a,vs,its,z,_⟩:=he.isTup hZ I rw';cases z
  |lst xs=>obtain⟨a,vs,its,z,_⟩:=he.isLst hZ I rw';cases z
  |dct _ _=>cases ce
  |exc _=>cases ce
 |.str i,e,v,w,u,hd,he,rv,rw',cd,ce=>by
  cases hd.str;obtain⟨t,rfl⟩:=rv;cases e with
  |non=>cases he.non;cases rw'
  |bl b'=>cases he.bl;cases rw'
  |int i=>cases he.int;obtain⟨t,z⟩:=rw';cases z
  |str x=>cases he.str;obtain⟨t,z⟩:=rw';cases z;rfl
  |tup xs=>obtain⟨a,vs,its,z,_⟩:=he.isTup hZ I rw';cases z
  |lst xs=>obtain⟨a,vs,its,z,_⟩:=he.isLst hZ I rw';cases z
  |dct _ _=>cases ce
  |exc _=>cases ce
 |.tup ds,e,v,w,u,hd,he,rv,rw',cd,ce=>by
  obtain⟨a,vs,its,rfl,rr,rs,p⟩:=hd.isTup hZ I rv;cases e with
  |non=>cases he.non;cases rw'
  |bl b'=>cases he.bl;cases rw'
  |int i=>cases he.int;obtain⟨t,z⟩:=rw';cases z
  |str x=>cases he.str;obtain⟨t,z⟩:=rw';cases z
  |tup xs=>
   obtain⟨b,vs',its',z,rr',rs',p'⟩:=he.isTup hZ I rw';cases z;have:=jh8 p p';have:its=its':=by simpa using this
   subst this;simp only[jbM]at cd ce;rw[reps_same hZ I rr rr' rs rs' cd ce]
  |lst xs=>obtain⟨b,vs',its',z,rr',rs',p'⟩:=he.isLst hZ I rw';cases z;exact absurd rfl (SeqAt.ne_of_list_tuple p' p)
  |dct _ _=>cases ce
  |exc _=>cases ce
 |.lst ds,e,v,w,u,hd,he,rv,rw',cd,ce=>by
  obtain⟨a,vs,its,rfl,rr,rs,p⟩:=hd.isLst hZ I rv;cases e with
  |non=>cases he.non;cases rw'
  |bl b'=>cases he.bl;cases rw'
  |int i=>cases he.int;obtain⟨t,z⟩:=rw';cases z
  |str x=>cases he.str;obtain⟨t,z⟩:=rw';cases z
  |tup xs=>obtain⟨b,vs',its',z,rr',rs',p'⟩:=he.isTup hZ I rw';cases z;exact absurd rfl (SeqAt.ne_of_list_tuple p p')
  |lst xs=>
   obtain⟨b,vs',its',z,rr',rs',p'⟩:=he.isLst hZ I rw';cases z;have:=jh9 p p';have:its=its':=by simpa using this
   subst this;simp only[jbM]at cd ce;rw[reps_same hZ I rr rr' rs rs' cd ce]
  |dct _ _=>cases ce
  |exc _=>cases ce
 |.dct _ _,_,_,_,_,_,_,_,_,cd,_=>by cases cd
 |.exc _,_,_,_,_,_,_,_,_,cd,_=>by cases cd
theorem reps_same (hZ:X.K=Z.K)(I:Inv X pins σ H s):∀{ds es:List D}{vs ws:List V}{us:List Value},Reps Z F H ds vs->Reps Z F H es ws->Vals vs us->Vals ws us->cmpDs ds=true->cmpDs es=true->ds=es
 |[],es,vs,ws,us,hd,he,rv,rw',cd,ce=>by
  simp only[Reps]at hd;subst hd;cases rv;cases rw';cases es with
  |nil=>rfl
  |cons e es=>obtain⟨_,_,z,_⟩:=he.uncons;cases z
 |d::ds,es,vs,ws,us,hd,he,rv,rw',cd,ce=>by
  obtain⟨v,vs',rfl,h1,h2⟩:=hd.uncons;cases rv with
  |cons r1 r2=>
   cases rw' with
   |cons q1 q2=>
    cases es with
    |nil=>simp only[Reps]at he;cases he
    |cons e es=>
     obtain⟨w,ws',z,g1,g2⟩:=he.uncons;cases z;simp only[cmpDs,jr6]at cd ce;rw[jcB hZ I (.inl h1) (.inl g1) r1 q1 cd.1 ce.1,reps_same hZ I h2 g2 r2 q2 cd.2 ce.2]
end
mutual
theorem jcC:∀{d:D},jbM d=true->eqD d d=true
 |.non,_=>rfl
 |.bl b,_=>by simp[eqD]
 |.int i,_=>by simp[eqD]
 |.str x,_=>by simp[eqD]
 |.tup xs,h=>by simp only[jbM]at h;simp only[eqD];exact eqDs_refl h
 |.lst xs,h=>by simp only[jbM]at h;simp only[eqD];exact eqDs_refl h
 |.dct _ _,h=>by cases h
 |.exc _,h=>by cases h
theorem eqDs_refl:∀{ds:List D},cmpDs ds=true->eqDs ds ds=true
 |[],_=>rfl
 |d::ds,h=>by
  simp only[cmpDs,jr6]at h;simp only[eqDs,jr6];exact⟨jcC h.1,eqDs_refl h.2⟩
end
theorem jbo:∀{ds es:List D},eqDs ds es=(decide (ds.length=es.length) && (List.range (min ds.length es.length)).all fun j=>eqD (ds.getD j .non) (es.getD j .non))
 |[],[]=>rfl
 |[],_::_=>by simp[eqDs]
 |_::_,[]=>by simp[eqDs]
 |d::ds,e::es=>by
  have ih:=jbo (ds:=ds) (es:=es);simp only[eqDs,ih,jrA,Nat.succ_min_succ,List.range_succ_eq_map,List.all_cons,List.getD_cons_zero,List.all_map,Function.comp_def,List.getD_cons_succ,Nat.add_right_cancel_iff];cases eqD d e <;> cases decide (ds.length=es.length) <;> simp
theorem Reps.vals {ds:List D}{vs:List V}{us:List Value}(h:Reps Z F H ds vs)(r:Vals vs us){j:Nat}(hj:j < us.length):∃v,Rep Z F H (ds.getD j .non) v/\RelV v us[j]/\ds.length=us.length:=by
 have l1:=h.length;have l2:=r.length;obtain⟨v,e1,e2⟩:=h.get (jrq (show j < ds.length by omega))
 obtain⟨u,e3,e4⟩:=r.get e1;rw[jrq hj]at e3;cases e3;refine⟨v,?_,e4,by omega⟩
 rw[jry,jrq (show j < ds.length by omega)]
 exact e2
theorem jaU:∀{ds:List D}{j:Nat},cmpDs ds=true->jbM (ds.getD j .non)=true
 |[],j,_=>by simp[jbM]
 |d::ds,0,h=>by simp only[cmpDs,jr6]at h;simpa using h.1
 |d::ds,j + 1,h=>by
  simp only[cmpDs,jr6]at h;rw[List.getD_cons_succ];exact jaU h.2
theorem jbC:∀{ds:List D}{j:Nat},deep (ds.getD j .non)<=deeps ds
 |[],j=>by simp[deep]
 |d::ds,0=>by simp only[deeps,List.getD_cons_zero];exact Nat.le_max_left _ _
 |d::ds,j + 1=>by
  rw[List.getD_cons_succ];simp only[deeps];exact jr4 jbC (Nat.le_max_right _ _)
open SeqAt in
theorem je2 (hZ:X.K=Z.K)(I:Inv X pins σ H s):∀(n:Nat) {A:Around}{d e:D}{v w:V}{u u':Value},deep d<=n->A.units + n < cLine->RepB Z F H d v->RepB Z F H e w->RelV v u->RelV w u'->jbM d=true->jbM e=true->RcAt A s u u' (eqD d e)/\EqAt A s u u' (eqD d e):=by
 intro n;induction n with
 |zero=>
  intro A d e v w u u' hn hu hd he rv rw' cd ce;have hu:A.units < cLine:=by omega
  cases d with
  |non=>
   cases hd.non;cases rv;cases e with
   |non=>cases he.non;cases rw';exact⟨RcAt.none_none,EqAt.same _⟩
   |bl b=>cases he.bl;cases rw';exact⟨RcAt.none_bool b,EqAt.none_bool b⟩
   |int i=>cases he.int;obtain⟨t,rfl⟩:=rw';exact⟨RcAt.none_int i t,EqAt.none_int i t⟩
   |str x=>cases he.str;obtain⟨t,rfl⟩:=rw';exact⟨RcAt.none_str x t,EqAt.none_str x t⟩
   |tup xs=>obtain⟨a,vs,its,rfl,_,_,p⟩:=he.isTup hZ I rw';exact⟨RcAt.none_tuple p hu,EqAt.none_tuple p hu⟩
   |lst xs=>obtain⟨a,vs,its,rfl,_,_,p⟩:=he.isLst hZ I rw';exact⟨RcAt.none_list p hu,EqAt.none_list p hu⟩
   |dct _ _=>cases ce
   |exc _=>cases ce
  |bl b0=>
   cases hd.bl;cases rv;cases e with
   |non=>cases he.non;cases rw';exact⟨RcAt.bool_none b0,EqAt.bool_none b0⟩
   |bl b=>cases he.bl;cases rw';exact⟨RcAt.bool_bool b0 b,EqAt.bool_bool b0 b⟩
   |int i=>cases he.int;obtain⟨t,rfl⟩:=rw';exact⟨RcAt.bool_int b0 i t,EqAt.bool_int b0 i t⟩
   |str x=>cases he.str;obtain⟨t,rfl⟩:=rw';exact⟨RcAt.bool_str b0 x t,EqAt.bool_str b0 x t⟩
   |tup xs=>obtain⟨a,vs,its,rfl,_,_,p⟩:=he.isTup hZ I rw';exact⟨RcAt.bool_tuple b0 p hu,EqAt.bool_tuple b0 p hu⟩
   |lst xs=>obtain⟨a,vs,its,rfl,_,_,p⟩:=he.isLst hZ I rw';exact⟨RcAt.bool_list b0 p hu,EqAt.bool_list b0 p hu⟩
   |dct _ _=>cases ce
   |exc _=>cases ce
  |int i0=>
   cases hd.int;obtain⟨t0,rfl⟩:=rv;cases e with
   |non=>cases he.non;cases rw';exact⟨RcAt.int_none i0 t0,EqAt.int_none i0 t0⟩
   |bl b=>cases he.bl;cases rw';exact⟨RcAt.int_bool i0 t0 b,EqAt.int_bool i0 t0 b⟩
   |int i=>cases he.int;obtain⟨t,rfl⟩:=rw';exact⟨RcAt.int_int i0 t0 i t,EqAt.int_int i0 t0 i t⟩
   |str x=>cases he.str;obtain⟨t,rfl⟩:=rw';exact⟨RcAt.int_str i0 t0 x t,EqAt.int_str i0 t0 x t⟩
   |tup xs=>obtain⟨a,vs,its,rfl,_,_,p⟩:=he.isTup hZ I rw';exact⟨RcAt.int_tuple i0 t0 p hu,EqAt.int_tuple i0 t0 p hu⟩
   |lst xs=>obtain⟨a,vs,its,rfl,_,_,p⟩:=he.isLst hZ I rw';exact⟨RcAt.int_list i0 t0 p hu,EqAt.int_list i0 t0 p hu⟩
   |dct _ _=>cases ce
   |exc _=>cases ce
  |str i0=>
   cases hd.str;obtain⟨t0,rfl⟩:=rv;cases e with
   |non=>cases he.non;cases rw';exact⟨RcAt.str_none i0 t0,EqAt.str_none i0 t0⟩
   |bl b=>cases he.bl;cases rw';exact⟨RcAt.str_bool i0 t0 b,EqAt.str_bool i0 t0 b⟩
   |int i=>cases he.int;obtain⟨t,rfl⟩:=rw';exact⟨RcAt.str_int i0 t0 i t,EqAt.str_int i0 t0 i t⟩
   |str x=>cases he.str;obtain⟨t,rfl⟩:=rw';exact⟨RcAt.str_str i0 t0 x t,EqAt.str_str i0 t0 x t⟩
   |tup xs=>obtain⟨a,vs,its,rfl,_,_,p⟩:=he.isTup hZ I rw';exact⟨RcAt.str_tuple i0 t0 p hu,EqAt.str_tuple i0 t0 p hu⟩
   |lst xs=>obtain⟨a,vs,its,rfl,_,_,p⟩:=he.isLst hZ I rw';exact⟨RcAt.str_list i0 t0 p hu,EqAt.str_list i0 t0 p hu⟩
   |dct _ _=>cases ce
   |exc _=>cases ce
  |tup _=>simp[deep]at hn
  |lst _=>simp[deep]at hn
  |dct _ _=>cases cd
  |exc _=>cases cd
 |succ n ih=>
  intro A d e v w u u' hn hu hd he rv rw' cd ce;have hu0:A.units < cLine:=by omega
  have hu1:A.in1.units + n < cLine:=by show A.units + 1 + n < cLine;omega
  have flat:deep d=0->RcAt A s u u' (eqD d e)/\EqAt A s u u' (eqD d e):=fun h0=>ih (by omega) (by omega) hd he rv rw' cd ce
  cases d with
  |non=>exact flat rfl
  |bl _=>exact flat rfl
  |int _=>exact flat rfl
  |str _=>exact flat rfl
  |dct _ _=>cases cd
  |exc _=>cases cd
  |tup ds=>
   obtain⟨a,vs,its,rfl,rr,rs,p⟩:=hd.isTup hZ I rv;cases e with
   |non=>cases he.non;cases rw';exact⟨RcAt.tuple_none p hu0,EqAt.tuple_none p hu0⟩
   |bl b=>cases he.bl;cases rw';exact⟨RcAt.tuple_bool b p hu0,EqAt.tuple_bool b p hu0⟩
   |int i=>cases he.int;obtain⟨t,rfl⟩:=rw';exact⟨RcAt.tuple_int i t p hu0,EqAt.tuple_int i t p hu0⟩
   |str x=>cases he.str;obtain⟨t,rfl⟩:=rw';exact⟨RcAt.tuple_str x t p hu0,EqAt.tuple_str x t p hu0⟩
   |lst xs=>obtain⟨b,vs',its',rfl,_,_,p'⟩:=he.isLst hZ I rw';exact⟨RcAt.tuple_list p p' hu0,EqAt.tuple_list p p' hu0⟩
   |dct _ _=>cases ce
   |exc _=>cases ce
   |tup es=>
    obtain⟨b,vs',its',rfl,rr',rs',p'⟩:=he.isTup hZ I rw';simp only[jbM]at cd ce;simp only[deep]at hn;have l1:ds.length=its.length:=by rw[rr.length,rs.length]
    have l2:es.length=its'.length:=by rw[rr'.length,rs'.length]
    have key:RcAt A s (.ref a) (.ref b) (eqD (.tup ds) (.tup es)):=by
     have:=RcAt.tuples (A:=A) (e:=fun j=>eqD (ds.getD j .non) (es.getD j .non)) p p' hu0 fun j h1 h2=>by
      obtain⟨v1,q1,q2,_⟩:=rr.vals rs (j:=j) (by simpa using h1)
      obtain⟨v2,q3,q4,_⟩:=rr'.vals rs' (j:=j) (by simpa using h2)
      exact(ih (jr4 jbC (by omega)) hu1 (.inl q1) (.inl q3) (by simpa using q2) (by simpa using q4) (jaU cd) (jaU ce)).2
     simp only[eqD];rw[jbo,Bool.and_comm];simp only[jru,<-l1,<-l2]at this;have e2:(ds.length == es.length)=decide (ds.length=es.length):=by rw[Bool.beq_eq_decide_eq]
     rw[<-e2];exact this
    refine⟨key,?_⟩;by_cases hab:a=b
    ·subst hab;rw[jcB hZ I hd he rv rw' (by simpa only[jbM] using cd) (by simpa only[jbM] using ce),jcC (by simpa only[jbM] using ce)]
     exact EqAt.same _
    ·exact EqAt.of_refs hab key
  |lst ds=>
   obtain⟨a,vs,its,rfl,rr,rs,p⟩:=hd.isLst hZ I rv;cases e with
   |non=>cases he.non;cases rw';exact⟨RcAt.list_none p hu0,EqAt.list_none p hu0⟩
   |bl b=>cases he.bl;cases rw';exact⟨RcAt.list_bool b p hu0,EqAt.list_bool b p hu0⟩
   |int i=>cases he.int;obtain⟨t,rfl⟩:=rw';exact⟨RcAt.list_int i t p hu0,EqAt.list_int i t p hu0⟩
   |str x=>cases he.str;obtain⟨t,rfl⟩:=rw';exact⟨RcAt.list_str x t p hu0,EqAt.list_str x t p hu0⟩
   |tup xs=>obtain⟨b,vs',its',rfl,_,_,p'⟩:=he.isTup hZ I rw';exact⟨RcAt.list_tuple p p' hu0,EqAt.list_tuple p p' hu0⟩
   |dct _ _=>cases ce
   |exc _=>cases ce
   |lst es=>
    obtain⟨b,vs',its',rfl,rr',rs',p'⟩:=he.isLst hZ I rw';simp only[jbM]at cd ce;simp only[deep]at hn;have l1:ds.length=its.length:=by rw[rr.length,rs.length]
    have l2:es.length=its'.length:=by rw[rr'.length,rs'.length]
    have key:RcAt A s (.ref a) (.ref b) (eqD (.lst ds) (.lst es)):=by
     by_cases hsz:its.length=its'.length
     ·have:=RcAt.lists (A:=A) (e:=fun j=>eqD (ds.getD j .non) (es.getD j .non)) p p' (by simpa using hsz) hu0 fun j h1 h2=>by
       obtain⟨v1,q1,q2,_⟩:=rr.vals rs (j:=j) (by simpa using h1)
       obtain⟨v2,q3,q4,_⟩:=rr'.vals rs' (j:=j) (by simpa using h2)
       exact(ih (jr4 jbC (by omega)) hu1 (.inl q1) (.inl q3) (by simpa using q2) (by simpa using q4) (jaU cd) (jaU ce)).2
      simp only[eqD];have hl:ds.length=es.length:=by omega
      rw[jbo,decide_eq_true hl,Bool.true_and,<-hl,Nat.min_self];simp only[jru,<-l1]at this;exact this
     ·have:=RcAt.lists_lengths (A:=A) p p' (by simpa using hsz) hu0
      simp only[eqD];rw[jbo,decide_eq_false (by omega),Bool.false_and]
      exact this
    refine⟨key,?_⟩;by_cases hab:a=b
    ·subst hab;rw[jcB hZ I hd he rv rw' (by simpa only[jbM] using cd) (by simpa only[jbM] using ce),jcC (by simpa only[jbM] using ce)]
     exact EqAt.same _
    ·exact EqAt.of_refs hab key
end
end DJ
namespace DJ
open PySem PySem.Spec PyProof.Rows L2
noncomputable def bD (g:D->D->R Bool):D->D->R Vl:=fun x y=>(g x y).bind fun c=>.ok (.dat (.bl c))
noncomputable def Cm.py:Cm->CmpOp
 |.eq=>.Eq | .ne=>.NotEq | .lt=>.Lt | .le=>.LtE | .gt=>.Gt | .ge=>.GtE | .isn=>.Is | .notn=>.IsNot
 |.isin=>.In | .notin=>.NotIn
theorem jfY:∀x y:List Int,lexLt x y=HT.lexLt x y
 |[],[]=>rfl
 |[],_::_=>rfl
 |_::_,[]=>rfl
 |x::xs,y::ys=>by
  rw[HT.jdp];simp only[lexLt];rw[jfY xs ys]
theorem jdM {Z:Kn}{F:Addr->Prop}{H:Hp}:∀{ds:List D}{ns:List Int}{vs:List V},jbl ds=some ns->Reps Z F H ds vs->vs=ns.map V.int
 |[],ns,vs,h,r=>by simp only[Reps]at r;cases h;exact r
 |d::ds,ns,vs,h,r=>by
  simp only[Reps]at r;obtain⟨v,us,rfl,r1,r2⟩:=r;cases d with
  |int i=>
   simp only[jbl]at h;cases q:jbl ds with
   |none=>rw[q]at h;cases h
   |some ms=>
    rw[q]at h;cases h;simp only[Rep]at r1;rw[r1,jdM q r2];rfl
  |_=>cases h
theorem jia {d:D}{c:Nat}:ja6 d≠.err c:=by cases d <;> (intro z;cases z)
theorem jib {x y:D}{c:Nat}:eqR x y≠.err c:=by unfold eqR;split <;> (intro z;cases z)
theorem jma {x y:D}{c:Nat}:inR x y≠.err c:=by
 intro h;unfold inR at h;cases e:ja6 y with
 |ok ys=>rw[e,R.bind_ok']at h;split at h <;> cases h
 |err c=>exact jia e
 |stk=>rw[e]at h;cases h
theorem jic {x y:D}{c:Nat}:inX x y≠.err c:=by
 cases y with
 |str y=>cases x <;> (intro h;cases h)
 |_=>exact jma
theorem jmb {x y:D}{c:Nat}:ltD x y≠.err c:=by
 intro h;unfold ltD at h;split at h <;> first | cases h | (split at h <;> cases h)
theorem jdN {f:Int->Int->Bool}{x y:D}{c:Nat}:joi f x y≠.err c:=by
 intro h;cases x with
 |int a=>cases y with
  |int b=>cases h
  |_=>cases h
 |_=>cases h
theorem je3 {f:Int->Int->Bool}{x y:D}{c:Bool}(h:joi f x y=.ok c):∃a b,x=.int a/\y=.int b/\c=f a b:=by
 cases x with
 |int a=>cases y with
  |int b=>cases h;exact⟨a,b,rfl,rfl,rfl⟩
  |_=>cases h
 |_=>cases h
theorem jid {r:R Bool}{c:Nat}(hr:r≠.err c):(r.bind fun c=>(.ok (!c):R Bool))≠.err c:=by
 intro h;cases r with
 |ok b=>cases h
 |err c'=>cases h;exact hr rfl
 |stk=>cases h
theorem jlc {x:D}(h:isN x=true):x=.non:=by
 cases x with
 |non=>rfl
 |_=>cases h
theorem jmc {o:Cm}{x y:D}{c:Nat}:cmD o x y≠.err c:=by
 cases o with
 |eq=>exact jib
 |ne=>exact jid jib
 |lt=>exact jmb
 |gt=>exact jdN
 |le=>exact jdN
 |ge=>exact jdN
 |isn=>intro h;unfold cmD at h;dsimp only at h;split at h <;> cases h
 |notn=>intro h;unfold cmD at h;dsimp only at h;split at h <;> cases h
 |isin=>exact jic
 |notin=>exact jid jic
section
variable {Z:Kn}{X:Cx}{pins:List (Addr×Obj)}{s:Shared}{σ:L2.St}{H:Hp}{F:Addr->Prop}
theorem jld {d e:D}{b:Bool}(h:eqR d e=.ok b):b=eqD d e/\jbM d=true/\jbM e=true/\deep d<=12/\deep e<=12:=by
 unfold eqR at h;split at h
 ·rename_i hc;simp only[jr6,decide_eq_true_eq]at hc;cases h;exact⟨rfl,hc.1.1.1,hc.1.1.2,hc.1.2,hc.2⟩
 ·cases h
theorem jok (hZ:X.K=Z.K)(hu:X.A.units + 64 < cLine)(I:Inv X pins σ H s){d e:D}{x y:V}{u w:Value}{b:Bool}(hd:RepB Z F H d x)(he:RepB Z F H e y)(rx:RelV x u)(ry:RelV y w)(hb:eqR d e=.ok b){Q:Value->Shared->Prop}{E:Value->Shared->Prop}(q:Q (.bool b) s) :
  wpAny (model X.prog X.w) X.A (compareOp .Eq u w) Q E s:=by
 obtain⟨rfl,c1,c2,d1,d2⟩:=jld hb;exact(je2 hZ I 12 (A:=X.A) d1 (by omega) hd he rx ry c1 c2).1 X.prog X.w E Q q
theorem jol (hZ:X.K=Z.K)(hu:X.A.units + 64 < cLine)(I:Inv X pins σ H s){d e:D}{x y:V}{u w:Value}{b:Bool}(hd:RepB Z F H d x)(he:RepB Z F H e y)(rx:RelV x u)(ry:RelV y w)(hb:inR d e=.ok b)(neg:Bool){Q:Value->Shared->Prop}{E:Value->Shared->Prop}(q:Q (.bool (if neg then !b else b)) s) :
  wpAny (model X.prog X.w) X.A (compareOp (if neg then .NotIn else .In) u w) Q E s:=by
 unfold inR at hb;obtain⟨ys,hs,hb⟩:=R.bind_ok hb;split at hb
 ·rename_i hc;simp only[jr6,decide_eq_true_eq]at hc;obtain⟨⟨⟨c1,c2⟩,d1⟩,d2⟩:=hc;cases hb;obtain⟨p,vs,rfl,hq,rr⟩:=jdI he hs;cases ry;have hj:∀(its:List Value),Vals vs its->∃ef:Value->Bool,(∀z,z∈its.toArray->SeqAt.EqAt X.A.in1 s z u (ef z))/\its.toArray.any ef=ys.any fun z=>eqD z d:=fun its rv=>by
   classical
   let Pz:Value->D->Prop:=fun z e0=>jbM e0=true/\deep e0<=12/\∃v0,Rep Z F H e0 v0/\RelV v0 z
   have uq:∀{z:Value}{e1 e2:D},Pz z e1->Pz z e2->e1=e2:=fun ⟨a1,_,v1,a3,a4⟩ ⟨b1,_,v2,b3,b4⟩=>jcB hZ I (.inl a3) (.inl b3) a4 b4 a1 b1;let ef:Value->Bool:=fun z=>if h:∃e0,Pz z e0 then eqD h.choose d else false;have efE:∀{z:Value}{e0:D},Pz z e0->ef z=eqD e0 d:=fun {z e0} h=>by
    have hx:∃e0,Pz z e0:=⟨e0,h⟩;simp only[ef,dif_pos hx];rw[uq hx.choose_spec h]
   have l1:ys.length=its.length:=by rw[rr.length,rv.length]
   have at_:∀j (hj:j < its.length),Pz its[j] (ys.getD j .non):=fun j hj=>by
    obtain⟨v1,q1,q2,_⟩:=rr.vals rv hj;exact⟨jaU c2,jr4 jbC d2,v1,q1,q2⟩
   refine⟨ef,fun z hz=>?_,?_⟩
   ·have hz:z∈its:=by simpa using hz
    obtain⟨j,hj,rfl⟩:=List.getElem_of_mem hz;have hp:=at_ j hj;rw[efE hp];obtain⟨a1,a2,v0,a3,a4⟩:=hp;exact(je2 hZ I 12 (A:=X.A.in1) a2 (by show X.A.units + 1 + 12 < cLine;omega) (.inl a3) hd a4 rx a1 c1).2
   ·rw[<-Array.any_toList];have hmap:its.map ef=ys.map fun z=>eqD z d:=by
     apply List.ext_getElem
     ·simp[l1]
     ·intro j h1 h2;rw[List.getElem_map,List.getElem_map];have h1:j < its.length:=by simpa using h1
      have:=efE (at_ j h1);rw[this,jry,jrq (by omega)]
      rfl
    have e1:its.any ef=(its.map ef).any id:=by rw[List.any_map];rfl
    have e2:(ys.any fun z=>eqD z d)=(ys.map fun z=>eqD z d).any id:=by rw[List.any_map];rfl
    rw[e2,<-hmap,<-e1]
  rcases hq with hq | hq
  ·obtain⟨its,rv,pl,_⟩:=I.list (show SqL X.K H p vs by rw[hZ];exact hq)
   obtain⟨ef,f1,f2⟩:=hj its rv;cases neg with
   |false=>exact SeqAt.in_listAt ef pl.isList f1 (by rw[f2];exact q)
   |true=>exact SeqAt.notIn_listAt ef pl.isList f1 (by rw[f2];exact q)
  ·obtain⟨its,rv,pl,_⟩:=I.tuple (show SqT X.K H p vs by rw[hZ];exact hq)
   obtain⟨ef,f1,f2⟩:=hj its rv;cases neg with
   |false=>exact SeqAt.in_tupleAt ef (show s.heap.IsTuple p its.toArray from pl) f1 (by rw[f2];exact q)
   |true=>exact SeqAt.notIn_tupleAt ef (show s.heap.IsTuple p its.toArray from pl) f1 (by rw[f2];exact q)
 ·cases hb
theorem jie (hZ:X.K=Z.K)(hu:X.A.units + 64 < cLine)(I:Inv X pins σ H s){d e:D}{x y:V}{u w:Value}{b:Bool}(hd:RepB Z F H d x)(he:RepB Z F H e y)(rx:RelV x u)(ry:RelV y w)(hb:inX d e=.ok b)(neg:Bool){Q:Value->Shared->Prop}{E:Value->Shared->Prop}(q:Q (.bool (if neg then !b else b)) s) :
  wpAny (model X.prog X.w) X.A (compareOp (if neg then .NotIn else .In) u w) Q E s:=by
 cases e with
 |str y=>
  cases d with
  |str x=>
   cases hb;cases hd.str;cases he.str;obtain⟨t,rfl⟩:=rx;obtain⟨t',rfl⟩:=ry;cases neg with
   |false=>exact SB.contains q
   |true=>exact SB.notContains q
  |_=>cases hb
 |_=>exact jol hZ hu I hd he rx ry hb neg q
open SeqAt in
theorem jpO (hZ:X.K=Z.K)(I:Inv X pins σ H s){A:Around}{d e:D}{v w:V}{u u':Value}(hn:deep d<=12)(hu:A.units + 13 < cLine)(hd:RepB Z F H d v)(he:RepB Z F H e w)(rv:RelV v u)(rw':RelV w u')(cd:jbM d=true)(ce:jbM e=true):RcNeAt A s u u' (!eqD d e):=by
 have hu0:A.units < cLine:=by omega
 have items:∀{ds es:List D}{vs vs':List V}{its its':List Value},Reps Z F H ds vs->Vals vs its->Reps Z F H es vs'->Vals vs' its'->deeps ds<=12->cmpDs ds=true->cmpDs es=true->∀j (h1:j < its.toArray.size) (h2:j < its'.toArray.size),EqAt A.in1 s its.toArray[j] its'.toArray[j] (eqD (ds.getD j .non) (es.getD j .non)):=fun rr rs rr' rs' hdp cds ces j h1 h2=>by
  obtain⟨v1,q1,q2,_⟩:=rr.vals rs (j:=j) (by simpa using h1)
  obtain⟨v2,q3,q4,_⟩:=rr'.vals rs' (j:=j) (by simpa using h2)
  exact(je2 hZ I 12 (jr4 jbC hdp) (by show A.units + 1 + 12 < cLine;omega) (.inl q1) (.inl q3) (by simpa using q2) (by simpa using q4) (jaU cds) (jaU ces)).2
 cases d with
 |non=>
  cases hd.non;cases rv;cases e with
  |non=>
   cases he.non;cases rw';exact RcNeAt.none_none
  |bl y=>
   cases he.bl;cases rw';exact RcNeAt.none_bool y
  |int y=>
   cases he.int;obtain⟨t2,rfl⟩:=rw';exact RcNeAt.none_int y t2
  |str y=>
   cases he.str;obtain⟨t2,rfl⟩:=rw';exact RcNeAt.none_str y t2
  |tup y=>
   obtain⟨a2,vs2,its2,rfl,rr2,rs2,p2⟩:=he.isTup hZ I rw';exact RcNeAt.none_tuple p2 hu0
  |lst y=>
   obtain⟨a2,vs2,its2,rfl,rr2,rs2,p2⟩:=he.isLst hZ I rw';exact RcNeAt.none_list p2 hu0
  |dct _ _=>cases ce
  |exc _=>cases ce
 |bl x=>
  cases hd.bl;cases rv;cases e with
  |non=>
   cases he.non;cases rw';exact RcNeAt.bool_none x
  |bl y=>
   cases he.bl;cases rw';exact RcNeAt.bool_bool x y
  |int y=>
   cases he.int;obtain⟨t2,rfl⟩:=rw';exact RcNeAt.bool_int x y t2
  |str y=>
   cases he.str;obtain⟨t2,rfl⟩:=rw';exact RcNeAt.bool_str x y t2
  |tup y=>
   obtain⟨a2,vs2,its2,rfl,rr2,rs2,p2⟩:=he.isTup hZ I rw';exact RcNeAt.bool_tuple x p2 hu0
  |lst y=>
   obtain⟨a2,vs2,its2,rfl,rr2,rs2,p2⟩:=he.isLst hZ I rw';exact RcNeAt.bool_list x p2 hu0
  |dct _ _=>cases ce
  |exc _=>cases ce
 |int x=>
  cases hd.int;obtain⟨t1,rfl⟩:=rv;cases e with
  |non=>
   cases he.non;cases rw';exact RcNeAt.int_none x t1
  |bl y=>
   cases he.bl;cases rw';exact RcNeAt.int_bool x t1 y
  |int y=>
   cases he.int;obtain⟨t2,rfl⟩:=rw';exact RcNeAt.int_int x t1 y t2
  |str y=>
   cases he.str;obtain⟨t2,rfl⟩:=rw';exact RcNeAt.int_str x t1 y t2
  |tup y=>
   obtain⟨a2,vs2,its2,rfl,rr2,rs2,p2⟩:=he.isTup hZ I rw';exact RcNeAt.int_tuple x t1 p2 hu0
  |lst y=>
   obtain⟨a2,vs2,its2,rfl,rr2,rs2,p2⟩:=he.isLst hZ I rw';exact RcNeAt.int_list x t1 p2 hu0
  |dct _ _=>cases ce
  |exc _=>cases ce
 |str x=>
  cases hd.str;obtain⟨t1,rfl⟩:=rv;cases e with
  |non=>
   cases he.non;cases rw';exact RcNeAt.str_none x t1
  |bl y=>
   cases he.bl;cases rw';exact RcNeAt.str_bool x t1 y
  |int y=>
   cases he.int;obtain⟨t2,rfl⟩:=rw';exact RcNeAt.str_int x t1 y t2
  |str y=>
   cases he.str;obtain⟨t2,rfl⟩:=rw';exact RcNeAt.str_str x t1 y t2
  |tup y=>
   obtain⟨a2,vs2,its2,rfl,rr2,rs2,p2⟩:=he.isTup hZ I rw';exact RcNeAt.str_tuple x t1 p2 hu0
  |lst y=>
   obtain⟨a2,vs2,its2,rfl,rr2,rs2,p2⟩:=he.isLst hZ I rw';exact RcNeAt.str_list x t1 p2 hu0
  |dct _ _=>cases ce
  |exc _=>cases ce
 |tup x=>
  obtain⟨a1,vs1,its1,rfl,rr1,rs1,p1⟩:=hd.isTup hZ I rv;cases e with
  |non=>
   cases he.non;cases rw';exact RcNeAt.tuple_none p1 hu0
  |bl y=>
   cases he.bl;cases rw';exact RcNeAt.tuple_bool y p1 hu0
  |int y=>
   cases he.int;obtain⟨t2,rfl⟩:=rw';exact RcNeAt.tuple_int y t2 p1 hu0
  |str y=>
   cases he.str;obtain⟨t2,rfl⟩:=rw';exact RcNeAt.tuple_str y t2 p1 hu0
  |tup y=>
   obtain⟨a2,vs2,its2,rfl,rr2,rs2,p2⟩:=he.isTup hZ I rw';simp only[jbM]at cd ce;simp only[deep]at hn;have l1:x.length=its1.length:=by rw[rr1.length,rs1.length]
   have l2:y.length=its2.length:=by rw[rr2.length,rs2.length]
   have:=RcNeAt.tuples (A:=A) (e:=fun j=>eqD (x.getD j .non) (y.getD j .non)) p1 p2 hu0 (items rr1 rs1 rr2 rs2 (by omega) cd ce)
   simp only[eqD];rw[jbo,Bool.and_comm];simp only[jru,<-l1,<-l2]at this;have e2:(x.length == y.length)=decide (x.length=y.length):=by rw[Bool.beq_eq_decide_eq]
   rw[<-e2];exact this
  |lst y=>
   obtain⟨a2,vs2,its2,rfl,rr2,rs2,p2⟩:=he.isLst hZ I rw';exact RcNeAt.tuple_list p1 p2 hu0
  |dct _ _=>cases ce
  |exc _=>cases ce
 |lst x=>
  obtain⟨a1,vs1,its1,rfl,rr1,rs1,p1⟩:=hd.isLst hZ I rv;cases e with
  |non=>
   cases he.non;cases rw';exact RcNeAt.list_none p1 hu0
  |bl y=>
   cases he.bl;cases rw';exact RcNeAt.list_bool y p1 hu0
  |int y=>
   cases he.int;obtain⟨t2,rfl⟩:=rw';exact RcNeAt.list_int y t2 p1 hu0
  |str y=>
   cases he.str;obtain⟨t2,rfl⟩:=rw';exact RcNeAt.list_str y t2 p1 hu0
  |tup y=>
   obtain⟨a2,vs2,its2,rfl,rr2,rs2,p2⟩:=he.isTup hZ I rw';exact RcNeAt.list_tuple p1 p2 hu0
  |lst y=>
   obtain⟨a2,vs2,its2,rfl,rr2,rs2,p2⟩:=he.isLst hZ I rw';simp only[jbM]at cd ce;simp only[deep]at hn;have l1:x.length=its1.length:=by rw[rr1.length,rs1.length]
   have l2:y.length=its2.length:=by rw[rr2.length,rs2.length]
   by_cases hsz:its1.length=its2.length
   ·have:=RcNeAt.lists (A:=A) (e:=fun j=>eqD (x.getD j .non) (y.getD j .non)) p1 p2 (by simpa using hsz) hu0 (items rr1 rs1 rr2 rs2 (by omega) cd ce)
    simp only[eqD];have hl:x.length=y.length:=by omega
    rw[jbo,decide_eq_true hl,Bool.true_and,<-hl,Nat.min_self];simp only[jru,<-l1]at this;exact this
   ·have:=RcNeAt.lists_lengths (A:=A) p1 p2 (by simpa using hsz) hu0
    simp only[eqD];rw[jbo,decide_eq_false (by omega),Bool.false_and]
    exact this
  |dct _ _=>cases ce
  |exc _=>cases ce
 |dct _ _=>cases cd
 |exc _=>cases cd
theorem jom (hZ:X.K=Z.K)(hu:X.A.units + 64 < cLine)(I:Inv X pins σ H s){d e:D}{x y:V}{u w:Value}{b:Bool}(hd:RepB Z F H d x)(he:RepB Z F H e y)(rx:RelV x u)(ry:RelV y w)(hb:eqR d e=.ok b){Q:Value->Shared->Prop}{E:Value->Shared->Prop}(q:Q (.bool (!b)) s) :
  wpAny (model X.prog X.w) X.A (compareOp .NotEq u w) Q E s:=by
 obtain⟨rfl,c1,c2,d1,d2⟩:=jld hb;exact jpO hZ I d1 (by omega) hd he rx ry c1 c2 X.prog X.w E Q q
theorem jpP (hZ:X.K=Z.K)(hu:X.A.units + 64 < cLine)(o:Cm):OpR X (compareOp o.py) (rD2 Z (bD (cmD o))):=by
 intro pins s σ H x y v u Q I rx ry h;obtain⟨F,dx,dy,w,dm,bx,by_,hw,h⟩:=h;unfold bD at hw;obtain⟨c,hc,hw⟩:=R.bind_ok hw;cases hw;have fin:∀k:Bool,k=c->EP X pins σ Q (.bool k) s:=fun k e=>by subst e;exact⟨.bl k,H,I,rfl,h.bl dm⟩
 have isn:isN dx=decide (x=.non):=by
  cases dx with
  |non=>cases bx.non;rfl
  |bl b=>cases bx.bl;rfl
  |int b=>cases bx.int;rfl
  |str b=>cases bx.str;rfl
  |tup b=>obtain⟨a,vs,rfl,_⟩:=bx.tup;rfl
  |lst b=>obtain⟨a,vs,rfl,_⟩:=bx.lst;rfl
  |dct ks vs=>obtain⟨a,rfl,_⟩:=bx.dct;rfl
  |exc b=>
   have:=bx.flat (fun o z=>by cases o <;> cases z)
   simp only[Rep]at this;obtain⟨a,C,rfl,_⟩:=this;rfl
 cases o with
 |eq=>exact jok hZ hu I bx by_ rx ry hc (fin _ rfl)
 |ne=>
  obtain⟨b,hb,hc⟩:=R.bind_ok hc;cases hc;exact jom hZ hu I bx by_ rx ry hb (fin _ rfl)
 |lt=>
  have hc:ltD dx dy=.ok c:=hc;unfold ltD at hc;split at hc
  ·cases hc;cases bx.int;cases by_.int;exact jpx pins s σ H _ _ v u Q I rx ry ⟨_,_,rfl,rfl,h.bl dm⟩
  ·split at hc
   ·rename_i as bs ns ms e1 e2;cases hc;obtain⟨a,vs,rfl,ft,ra⟩:=bx.tup;obtain⟨b,us,rfl,fu,rb⟩:=by_.tup;cases jdM e1 ra;cases jdM e2 rb;refine jn4 (by omega) pins s σ H _ _ v u Q I rx ry ⟨a,b,ns,ms,rfl,rfl,(by rw[hZ];exact ft.sq),(by rw[hZ];exact fu.sq),?_⟩
    rw[<-jfY];exact h.bl dm
   ·cases hc
  ·cases hc
 |gt=>
  obtain⟨_,_,rfl,rfl,rfl⟩:=je3 hc;cases bx.int;cases by_.int;exact jpz pins s σ H _ _ v u Q I rx ry ⟨_,_,rfl,rfl,h.bl dm⟩
 |le=>
  obtain⟨_,_,rfl,rfl,rfl⟩:=je3 hc;cases bx.int;cases by_.int;exact jpy pins s σ H _ _ v u Q I rx ry ⟨_,_,rfl,rfl,h.bl dm⟩
 |ge=>
  obtain⟨_,_,rfl,rfl,rfl⟩:=je3 hc;cases bx.int;cases by_.int;exact jpA pins s σ H _ _ v u Q I rx ry ⟨_,_,rfl,rfl,h.bl dm⟩
 |isn=>
  have hc:(if isN dy then .ok (isN dx)else .stk:R Bool)=.ok c:=hc;split at hc
  ·rename_i hn;cases jlc hn;cases hc;cases by_.non;refine jnZ pins s σ H _ _ v u Q I rx ry ⟨rfl,?_⟩;rw[<-isn];exact h.bl dm
  ·cases hc
 |notn=>
  have hc:(if isN dy then .ok (!isN dx)else .stk:R Bool)=.ok c:=hc;split at hc
  ·rename_i hn;cases jlc hn;cases hc;cases by_.non;refine jlH pins s σ H _ _ v u Q I rx ry ⟨rfl,?_⟩;rw[<-isn];exact h.bl dm
  ·cases hc
 |isin=>exact jie hZ hu I bx by_ rx ry hc false (fin _ rfl)
 |notin=>
  obtain⟨b,hb,hc⟩:=R.bind_ok hc;cases hc;exact jie hZ hu I bx by_ rx ry hb true (fin _ rfl)
end
end DJ
namespace L2
open PySem PySem.Spec PyProof.Rows
section
variable {X:Cx}
end
end L2
namespace DJ
open PySem PySem.Spec PyProof.Rows L2
theorem jb1 {Z:Kn}{F:Addr->Prop}{H:Hp}:∀{ds:List D}{bs:List Bool}{vs:List V},jaH ds=some bs->Reps Z F H ds vs->vs.map trV=bs.map some
 |[],ns,vs,h,r=>by simp only[Reps]at r;subst r;cases h;rfl
 |d::ds,ns,vs,h,r=>by
  simp only[Reps]at r;obtain⟨v,us,rfl,r1,r2⟩:=r;cases d with
  |int i=>
   simp only[jaH]at h;cases q:jaH ds with
   |none=>rw[q]at h;cases h
   |some ms=>
    rw[q]at h;cases h;simp only[Rep]at r1;subst r1;rw[jrx,jrx,jb1 q r2];rfl
  |bl i=>
   simp only[jaH]at h;cases q:jaH ds with
   |none=>rw[q]at h;cases h
   |some ms=>
    rw[q]at h;cases h;simp only[Rep]at r1;subst r1;rw[jrx,jrx,jb1 q r2];rfl
  |_=>cases h
section
variable {Z:Kn}{X:Cx}
theorem jmd (hZ:X.K=Z.K){H:Hp}{p:Addr}{vs:List V}(h:SqL Z.K H p vs\/SqT Z.K H p vs):SqL X.K H p vs\/SqT X.K H p vs:=by rw[hZ];exact h
theorem jon (hZ:X.K=Z.K):∀x H Q,rD1 Z (bfD .len) x H Q->(fun xs H Q=>(∃p ys,xs=[.ref p]/\(SqL X.K H p ys\/SqT X.K H p ys)/\Q (.int ys.length) H)\/(∃z,xs=[.str z]/\z.length<=sizeLine/\Q (.int z.length) H):List V->Hp->VK->Prop) [x] H Q:=by
 intro x H Q hz1;obtain⟨F,d,w,dm,rp,hw,h⟩:=hz1;have key:∀xs,ja6 d=.ok xs->w=.dat (.int xs.length)->(fun xs H Q=>(∃p ys,xs=[.ref p]/\(SqL X.K H p ys\/SqT X.K H p ys)/\Q (.int ys.length) H)\/(∃z,xs=[.str z]/\z.length<=sizeLine/\Q (.int z.length) H):List V->Hp->VK->Prop) [x] H Q:=fun xs hs e=>by
  subst e;obtain⟨p,vs,rfl,q,r⟩:=jdI rp hs;refine .inl ⟨p,vs,rfl,jmd hZ q,?_⟩;rw[<-r.length];exact h.int dm
 cases d with
 |str z=>
  simp only[bfD]at hw;split at hw
  ·rename_i hf;cases hw;cases rp.str;exact .inr ⟨z,rfl,jaO hf,h.int dm⟩
  ·cases hw
 |tup xs=>simp only[bfD,ja6,R.bind_ok']at hw;cases hw;exact key xs rfl rfl
 |lst xs=>simp only[bfD,ja6,R.bind_ok']at hw;cases hw;exact key xs rfl rfl
 |_=>simp only[bfD,ja6]at hw;cases hw
theorem jjY (hZ:X.K=Z.K):∀x H Q,rD1 Z (bfD .tuple) x H Q->(fun xs H Q=>∃p ys,xs=[.ref p]/\((SqL X.K H p ys/\∀l,H l=none->Q (.ref l) (upd H l (.tup ys)))\/(SqT X.K H p ys/\Q (.ref p) H)):List V->Hp->VK->Prop) [x] H Q:=by
 intro x H Q hz1;obtain⟨F,d,w,dm,rp,hw,h⟩:=hz1;simp only[bfD]at hw;obtain⟨xs,hs,hw⟩:=R.bind_ok hw;cases hw;cases d with
 |tup ds=>
  cases hs;obtain⟨a,vs,rfl,ft,r⟩:=rp.tup;exact⟨a,vs,rfl,.inr ⟨by rw[hZ];exact ft.sq,h.tupOld dm ft r⟩⟩
 |lst ds=>
  cases hs;obtain⟨a,vs,rfl,ft,r⟩:=rp.lst;exact⟨a,vs,rfl,.inl ⟨by rw[hZ];exact ft,h.tup dm r⟩⟩
 |_=>cases hs
theorem joo (hZ:X.K=Z.K)(all:Bool):∀x H Q,rD1 Z (bfD (if all then .all else .any)) x H Q->(fun xs H Q=>∃(p:Addr) (ys:List V) (bs:List Bool),xs=[.ref p]/\(SqL X.K H p ys\/SqT X.K H p ys)/\ys.map trV=bs.map some/\Q (.bl (if all then bs.all id else bs.any id)) H:List V->Hp->VK->Prop) [x] H Q:=by
 intro x H Q hz1;obtain⟨F,d,w,dm,rp,hw,h⟩:=hz1;cases all with
 |true=>
  simp only[if_true,bfD]at hw;obtain⟨xs,hs,hw⟩:=R.bind_ok hw;obtain⟨p,vs,rfl,q,r⟩:=jdI rp hs;cases e:jaH xs with
  |none=>rw[e]at hw;cases hw
  |some bs=>rw[e]at hw;cases hw;exact⟨p,vs,bs,rfl,jmd hZ q,jb1 e r,h.bl dm⟩
 |false=>
  simp only[jr7,if_false,bfD]at hw;obtain⟨xs,hs,hw⟩:=R.bind_ok hw;obtain⟨p,vs,rfl,q,r⟩:=jdI rp hs;cases e:jaH xs with
  |none=>rw[e]at hw;cases hw
  |some bs=>rw[e]at hw;cases hw;exact⟨p,vs,bs,rfl,jmd hZ q,jb1 e r,h.bl dm⟩
theorem jop:∀x H Q,rD1 Z (bfD .str) x H Q->(fun xs H Q=>∃i,xs=[.int i]/\i.natAbs.log2 < 1920/\Q (.str (Str.ofString (toString i))) H:List V->Hp->VK->Prop) [x] H Q:=by
 intro x H Q hz1;obtain⟨F,d,w,dm,rp,hw,h⟩:=hz1;cases d with
 |int i=>
  obtain⟨hf,rfl⟩:=jbh hw;cases rp.int;exact⟨i,rfl,hf,h.sc dm (by simp only[Rep])⟩
 |_=>cases hw
theorem joq:∀x H Q,rD1 Z (bfD .int) x H Q->(fun xs H Q=>((∃i,xs=[.int i]/\Q (.int i) H)\/∃k,xs=[.bl k]/\Q (.int (if k then 1 else 0)) H)\/∃z n,xs=[.str z]/\PySem.intText? z=some n/\z.length<=640/\Q (.int n) H:List V->Hp->VK->Prop) [x] H Q:=by
 intro x H Q hz1;obtain⟨F,d,w,dm,rp,hw,h⟩:=hz1;cases d with
 |int i=>cases hw;cases rp.int;exact .inl (.inl ⟨_,rfl,h.int dm⟩)
 |bl b=>cases hw;cases rp.bl;exact .inl (.inr ⟨_,rfl,h.int dm⟩)
 |str z=>
  simp only[bfD]at hw;split at hw
  ·split at hw
   ·cases hw;cases rp.str;exact .inr ⟨z,_,rfl,‹_›,‹_›,h.int dm⟩
   ·cases hw
  ·cases hw
 |_=>cases hw
noncomputable def jdO:R Vl->Prop
 |.ok (.slot _)=>False
 |.err _=>False
 |_=>True
theorem jdv (kss:List (List Int)):jdO (jhV kss):=by
 unfold jhV;split <;> trivial
theorem ja7 {c:Prop}[Decidable c]{r:R Vl}(h:jdO r):jdO (if c then r else .stk):=by
 split
 ·exact h
 ·trivial
theorem jaV {d:D}{f:List D->R Vl}(h:∀xs,jdO (f xs)):jdO ((ja6 d).bind f):=by
 cases d with
 |tup xs=>exact h xs
 |lst xs=>exact h xs
 |_=>trivial
theorem jen (f:Bf)(x:D):jdO (bfD f x):=by
 cases f with
 |abs=>cases x <;> trivial
 |int=>cases x with
  |str x=>
   refine ja7 ?_;cases PySem.intText? x <;> trivial
  |_=>trivial
 |len=>cases x with
  |str x=>exact ja7 trivial
  |_=>trivial
 |tuple=>exact jaV fun _=>trivial
 |list=>exact jaV fun _=>trivial
 |all=>
  refine jaV fun xs=>?_;cases jaH xs <;> trivial
 |any=>
  refine jaV fun xs=>?_;cases jaH xs <;> trivial
 |sum=>
  refine jaV fun xs=>?_;cases jbl xs <;> trivial
 |min=>
  refine jaV fun xs=>?_;cases jbl xs with
  |none=>trivial
  |some ns=>cases ns <;> trivial
 |max=>
  refine jaV fun xs=>?_;cases jbl xs with
  |none=>trivial
  |some ns=>cases ns <;> trivial
 |sorted=>cases x with
  |lst xs=>
   show jdO (match jdu xs with | some kss=>jhV kss | none=>.stk)
   cases jdu xs with
   |none=>trivial
   |some k=>exact jdv k
  |_=>trivial
 |ssorted=>
  refine jaV fun xs=>?_;cases jdu xs with
  |none=>trivial
  |some k=>exact ja7 (jdv _)
 |revl=>cases x <;> trivial
 |revt=>cases x <;> trivial
 |str=>cases x with
  |int i=>exact ja7 trivial
  |_=>trivial
 |isup=>cases x <;> trivial
 |lrng=>cases x with
  |int n=>exact ja7 trivial
  |_=>trivial
theorem jif {f:Bf}{x:D}{c:Nat}:bfD f x≠.err c:=by
 intro h;have:=jen f x;rw[h]at this;exact this
theorem jfZ {f:Bf}{x:D}{i:Nat}:bfD f x≠.ok (.slot i):=by
 intro h;have:=jen f x;rw[h]at this;exact this
end
end DJ
namespace DJ
open PySem PySem.Spec PyProof.Rows L2
structure Tab where
 defs:List Str
 flags:List (List Bool)
 cons:List (Str×D)
 excs:List Str
 quiet:Bool
 deep:Bool
structure TopX (X:Cx):Prop where
 fn:∀x,X.fn x=true
 st:X.stack=X.env::X.outer
 fr:X.env.frame=some X.env.locals
noncomputable def knd (sc:List (Str×NameKind))(x:Str):Nat:=match sc.lookup x with
 |some .local=>1
 |some .cell=>1
 |some .free=>1
 |some .globalImplicit=>2
 |_=>0
noncomputable def jcQ (N:List Str)(x:Str):Option Nat:=N.findIdx? (· == x)
noncomputable def mapO {α β:Type}(f:α->Option β):List α->Option (List β)
 |[]=>some []
 |a::as=>match f a,mapO f as with
  |some b,some bs=>some (b::bs)
  |_,_=>none
section
variable {α β γ δ ε:Type}
theorem jah {a:α}{p:Prop}(h:(none:Option α)=some a):p:=nomatch h
theorem jaq {a:Option α}{f:α->γ}{c:γ}(h:a.map f=some c):∃x,a=some x/\f x=c:=Option.map_eq_some_iff.mp h
theorem jac {a:Option α}{f:α->Option γ}{c:γ}(h:a.bind f=some c):∃x,a=some x/\f x=some c:=Option.bind_eq_some_iff.mp h
noncomputable def o2 (a:Option α)(b:Option β)(f:α->β->γ):Option γ:=a.bind fun x=>b.map (f x)
theorem jbD {a:Option α}{b:Option β}{f:α->β->γ}{c:γ}(h:o2 a b f=some c):∃x y,a=some x/\b=some y/\f x y=c:=by
 obtain⟨x,h1,h⟩:=jac h;obtain⟨y,h2,h⟩:=jaq h;exact⟨x,y,h1,h2,h⟩
noncomputable def o3 (a:Option α)(b:Option β)(c:Option γ)(f:α->β->γ->δ):Option δ:=a.bind fun x=>o2 b c (f x)
theorem jcq {a:Option α}{b:Option β}{c:Option γ}{f:α->β->γ->δ}{d:δ}(h:o3 a b c f=some d):∃x y z,a=some x/\b=some y/\c=some z/\f x y z=d:=by
 obtain⟨x,h1,h⟩:=jac h;obtain⟨y,z,h⟩:=jbD h;exact⟨x,y,z,h1,h⟩
noncomputable def o4 (a:Option α)(b:Option β)(c:Option γ)(d:Option δ)(f:α->β->γ->δ->ε):Option ε:=a.bind fun x=>o3 b c d (f x)
theorem jle {a:Option α}{b:Option β}{c:Option γ}{d:Option δ}{f:α->β->γ->δ->ε}{e:ε}(h:o4 a b c d f=some e):∃x y z w,a=some x/\b=some y/\c=some z/\d=some w/\f x y z w=e:=by
 obtain⟨x,h1,h⟩:=jac h;obtain⟨y,z,w,h⟩:=jcq h;exact⟨x,y,z,w,h1,h⟩
noncomputable def gd (b:Bool)(o:Option α):Option α:=if b then none else o
theorem jal {b:Bool}{o:Option α}{c:α}(h:gd b o=some c):b=false/\o=some c:=by
 cases b with
 |true=>exact jah h
 |false=>exact⟨rfl,h⟩
noncomputable def alt (b:Bool)(o o':Option α):Option α:=if b then o else o'
theorem jaC {b:Bool}{o o':Option α}{c:α}(h:alt b o o'=some c):b=true/\o=some c\/o'=some c:=by
 cases b with
 |true=>exact .inl ⟨rfl,h⟩
 |false=>exact .inr h
noncomputable def jlf (a:Option α)(f:α->Option β)(r:Option β):Option β:=match a with
 |some x=>f x
 |none=>r
theorem jbp {a:Option α}{f:α->Option β}{r:Option β}{c:β}(h:jlf a f r=some c):(∃x,a=some x/\f x=some c)\/r=some c:=by
 cases a with
 |some x=>exact .inl ⟨x,rfl,h⟩
 |none=>exact .inr h
noncomputable def jgG:List α->Option α
 |[a]=>some a
 |_=>none
theorem jaM {as:List α}{a:α}(h:jgG as=some a):as=[a]:=by
 cases as with
 |nil=>exact jah h
 |cons x r=>
  cases r with
  |nil=>cases h;rfl
  |cons y r=>exact jah h
theorem jaQ {as:List α}(h:(!as.isEmpty)=false):as=[]:=by
 cases as with
 |nil=>rfl
 |cons a r=>cases h
theorem jaZ {a b:Bool}(h:(a || b)=false):a=false/\b=false:=by
 cases a with
 |true=>cases h
 |false=>exact⟨rfl,h⟩
theorem ja8 {a:Bool}(h:(!a)=false):a=true:=by
 cases a with
 |true=>rfl
 |false=>cases h
end
theorem jeo {a b:Nat}(h:(a != b)=false):a=b:=by simpa using h
theorem jb2 {a b:Str}(h:(a == b)=true):a=b:=by simpa using h
noncomputable def jf0:Expr->Option Str
 |.Name x _=>some x
 |_=>none
theorem jaR {e:Expr}{x:Str}(h:jf0 e=some x):∃p,e=.Name x p:=by
 cases e with
 |Name y p=>cases h;exact⟨p,rfl⟩
 |_=>exact jah h
noncomputable def jjZ:Expr->Option (List Expr)
 |.Tuple es _ _=>some es
 |_=>none
theorem jcR {e:Expr}{p:List Expr}(h:jjZ e=some p):∃k q,e=.Tuple p k q:=by
 cases e with
 |Tuple es k q=>cases h;exact⟨k,q,rfl⟩
 |_=>exact jah h
noncomputable def jf1:List E->Es
 |[]=>.nil
 |e::es=>.cons e (jf1 es)
noncomputable def jc9 (x:Str):Bool:=x == "__debug__" || x == "__classdict__" || x == "__name__"
noncomputable def bltNames:List Str:=["isinstance","len","tuple","list","all","any","range","int","bool","str","dict","sum","min","max","sorted","set","abs","reversed","zip","ValueError","enumerate"]
inductive CXD_I (P:Program) (w:World) (outer:List PySem.Env) (H:L2.Hp) (s:PySem.Shared) (E:L2.XK) (e:PySem.Value) (s':PySem.Shared):Prop
 |mk (ea:Addr) (cls:Value) (a0:Value) (H':Hp) (B:Heap):(e=.ref ea)->(s'.os=s.os)->(AllBare s'.gens)->(Un (frs outer) [] H H' s.heap s'.heap)->(HOk P w H' s'.heap)->(Heap.FlyingW B outer ea cls a0 s'.heap)->((∀b o,s.heap.get? b=some o->b ∉ frs outer->∃o',B.get? b=some o'))->((∀a o,H' a=some o->∃o',B.get? a=some o'))->(H' ea=none)->(E cls none H')->CXD_I P w outer H s E e s'
noncomputable def CXD (P:Program)(w:World):CXT:=fun outer H s E e s'=>CXD_I P w outer H s E e s'
inductive spD_I (Z:Kn) (G:Calls) (i:Nat) (vs:List L2.V) (H:L2.Hp) (Q:L2.VK) (E:L2.XK):Prop
 |mk (B:Bs) (F:Addr->Prop) (sls:List Sl):(SR Z B F H (vs.map some) sls)->(B.hp=H)->((∀(k:Nat) (l:Addr),B.lent k=some l->(vs.map some)[k]?=some (some (.ref l))))->(Ok (fun c=>∀C H',Z.cl[c]?=some C->Stl (vs.map some) sls H H'->E (.ref C) none H') (G i sls) fun r=>∀v F' H',(∀i,r.1≠.slot i)->Go (vs.map some) sls F H (vs.map some) r.2 F' H'->SR Z B F' H' (vs.map some) r.2->RV Z F' H H' (vs.map some) r.2 r.1 v->Q v H')->spD_I Z G i vs H Q E
noncomputable def spD (Z:Kn)(G:Calls)(i:Nat):Sp:=fun vs H Q E=>spD_I Z G i vs H Q E
structure XD (T:Tab)(G:Calls)(U:Nat->Nat->Bool)(Z:Kn)(n:Nat)(X:Cx)(sc:List (Str×NameKind)):Prop where
 hK:X.K=Z.K
 calm:T.quiet=false->X.calm=true
 nd:X.N.Nodup
 room:T.quiet=false->Room n X.A
 un:X.A.units + 64 < cLine
 sc:∀x,X.env.scope.names.lookup x=sc.lookup x\/(sc.lookup x=some .free/\X.env.scope.names.lookup x=some .cell)
 blt:∀x∈bltNames,X.mg x=none
 defs:∀(i:Nat) (nm:Str),T.defs[i]?=some nm->∃f fd ps,X.mg nm=some (.ref f)/\PySem.W.keepIn X.K (.ref f)=true/\Binds X.K fd ps []/\FnOk X.prog X.w X.K X.mg X.base (CXD X.prog X.w) n f fd ps (spD Z G i)
 cons:∀x d,T.cons.lookup x=some d->∃u v,X.mg x=some u/\RelV v u/\∀F H,Rep Z F H d v
 excs:∀(i:Nat) (nm:Str),T.excs[i]?=some nm->∃C,Z.cl[i]?=some C/\X.mg nm=some (.ref C)
 ecl:∀C∈Z.cl,ECls X.K C
 sub:∀(i j:Nat) (C D:Addr),Z.cl[i]?=some C->Z.cl[j]?=some D->PySem.W.mroIn X.K C (.ref D)=some (U i j)
 top:T.deep=false->TopX X
section
variable {T:Tab}{G:Calls}{U:Nat->Nat->Bool}{Z:Kn}{n:Nat}{X:Cx}{sc:List (Str×NameKind)}
theorem XD.vis (D:XD T G U Z n X sc){x:Str}(h:knd sc x=1):Vis X.env.scope x:=by
 have h':sc.lookup x=some .local\/sc.lookup x=some .cell\/sc.lookup x=some .free:=by
  unfold knd at h;split at h <;> simp_all
 unfold Vis;rcases D.sc x with e | ⟨_,e⟩
 ·rw[e];exact h'
 ·exact .inr (.inl e)
theorem XD.gl (D:XD T G U Z n X sc){x:Str}(h:knd sc x=2):Gl X x:=by
 have h':sc.lookup x=some .globalImplicit:=by
  unfold knd at h;split at h <;> simp_all
 show X.env.scope.names.lookup x=some .globalImplicit;rcases D.sc x with e | ⟨e,_⟩
 ·rw[e];exact h'
 ·rw[h']at e;cases e
end
theorem jaG {N:List Str}{x:Str}{i:Nat}(h:jcQ N x=some i):N[i]?=some x:=by
 unfold jcQ at h;obtain⟨hi,h1,_⟩:=List.findIdx?_eq_some_iff_getElem.mp h;rw[jrq hi];simpa using h1
theorem jaD {α β:Type}{f:α->Option β}{a:α}{as:List α}{bs:List β}(h:mapO f (a::as)=some bs):∃b bs',f a=some b/\mapO f as=some bs'/\bs=b::bs':=by
 simp only[mapO]at h;split at h
 ·rename_i b bs' h1 h2;cases h;exact⟨b,bs',h1,h2,rfl⟩
 ·cases h
theorem jaf {e:Expr}{es:List Expr}{env:Env}(h:∀a p,e≠.Starred a p):starEach (e::es) env=(false,eval e env)::starEach es env:=by
 cases e <;> first | rfl | exact absurd rfl (h _ _)
theorem jdP {pos:Pos}:∀{l:List (Bool×Sem Value)},l.any (·.1)=false->(backTo pos l).any (·.1)=false:=by
 intro l h;unfold backTo;rw[List.any_map];exact h
theorem jcD {env:Env}:∀{es:List Expr},(∀e∈es,∀a p,e≠.Starred a p)->(starEach es env).any (·.1)=false
 |[],_=>rfl
 |e::es,h=>by
  rw[jaf (h e jrs),List.any_cons];exact jcD fun x hx=>h x (jrr _ hx)
theorem jdw {x:Str}(h:jc9 x=false):(x == ("__debug__":Str))=false/\x≠"__name__":=by
 unfold jc9 at h;simp only[Bool.or_eq_false_iff]at h;refine⟨h.1.1,fun z=>?_⟩;subst z;exact absurd h.2 (by decide)
theorem jj0 {x:Str}(h:jc9 x=false):(x == ("__classdict__":Str))=false:=by
 unfold jc9 at h;simp only[Bool.or_eq_false_iff]at h;exact h.1.2
section
variable {Z:Kn}{X:Cx}{B:Bs}{σ:L2.St}{ρ ρ1:Rho}{F F1:Addr->Prop}{H H1:Hp}
theorem tT.toE {f:Rho->R (Bool×Rho)}{Q:Bool->Hp->Prop}(h:tT Z X B f σ H Q):tE Z X B (fun ρ=>(f ρ).bind fun b=>.ok (.dat (.bl b.1),b.2)) σ H (fun x H'=>∃k,x=.bl k/\Q k H'):=by
 obtain⟨F,ρ,r,h⟩:=h;refine⟨F,ρ,r,?_⟩;show Ok _ ((f ρ).bind _) _;cases e:f ρ with
 |ok b=>
  rw[e]at h;intro v F' H' g r' q;have q:Rep Z F' H' (.bl b.1) v:=q;simp only[Rep]at q;exact⟨b.1,q,h F' H' g r'⟩
 |err c=>rw[e]at h;exact h
 |stk=>rw[e]at h;exact h
theorem jor {K:Frag}(hK:K=Z.K){d:D}{v:V}{b:Bool}(h:RepB Z F H d v)(ht:jbz d=.ok b):jpC K v H b:=by
 cases d with
 |non=>cases h.non;cases ht;rfl
 |bl c=>cases h.bl;cases ht;rfl
 |int i=>cases h.int;cases ht;rfl
 |str s=>cases ht
 |tup ds=>
  obtain⟨a,vs,rfl,ft,r⟩:=h.tup;cases ht;refine .inr (.inl ⟨vs,(by rw[hK];exact ft.sq),?_⟩)
  have:=r.length;cases vs <;> cases ds <;> simp_all
 |lst ds=>
  obtain⟨a,vs,rfl,ft,r⟩:=h.lst;cases ht;refine .inl ⟨vs,(by rw[hK];exact ft),?_⟩
  have:=r.length;cases vs <;> cases ds <;> simp_all
 |dct _ _=>cases ht
 |exc c=>cases ht
theorem jig {d:D}{c:Nat}:jbz d≠.err c:=by cases d <;> (intro z;cases z)
noncomputable def trF (f:Rho->R (Vl×Rho))(ρ:Rho):R (Bool×Rho):=(f ρ).bind fun p=>(deref p.1 p.2).bind fun d=>(jbz d).bind fun b=>.ok (b,p.2)
theorem jpQ (hK:X.K=Z.K){e:Expr}{f:Rho->R (Vl×Rho)}(h:PE X e (tE Z X B f))(he:∀whole,isTrue e X.env whole=(do let v <-whole;standAt e.pos;holding [v] (truthy v))):PT X e (tT Z X B (trF f)):=by
 refine PT.imp (jjv h he) fun σ H Q q=>?_;obtain⟨F,ρ,r,q⟩:=q;refine⟨F,ρ,r,q.bind.imp (fun _ w=>w) fun p h1 v F' H' g r' rp=>?_⟩;obtain⟨d,hd,h2⟩:=h1.bind.pure fun c=>jaL;obtain⟨b,hb,h3⟩:=h2.bind.pure fun c=>jig;exact⟨b,jor hK (ja0 rp r' hd) hb,h3 F' H' g r'⟩
theorem jos {e:Expr}:PT X e (tT Z X B fun _=>.stk):=fun _ _ _ _ _ _ h=>by
 obtain⟨_,_,_,h⟩:=h;exact False.elim h
theorem jme {fa fb:Rho->R (Vl×Rho)}{Q:VK}(h:tE Z X B (fun ρ=>(fa ρ).bind fun p=>(jcL p.1).bind fun t=>if t then (fb p.2).bind fun q=>(jcL q.1).bind fun u=>.ok (.dat (.bl u),q.2)else .ok (.dat (.bl false),p.2)) σ H Q):jnJ (tE Z X B fa) (tE Z X B fb) σ H Q:=by
 obtain⟨F,ρ,r,h⟩:=h;refine⟨F,ρ,r,h.bind.imp (fun _ w=>w) fun p h1 v F1 H1 g1 r1 q1=>?_⟩;obtain⟨w,ρ1⟩:=p;cases w with
 |dat d=>
  cases d with
  |bl b=>
   have q1:Rep Z F1 H1 (.bl b) v:=q1;simp only[Rep]at q1;subst q1;refine⟨b,rfl,?_⟩;cases b with
   |true=>
    rw[if_pos rfl];refine⟨F1,ρ1,r1,(show Ok (XW Z X σ ρ H) ((fb ρ1).bind _) _ from h1).bind.imp (fun c w=>w.mono g1) fun q h2 u F2 H2 g2 r2 q2=>?_⟩;obtain⟨w2,ρ2⟩:=q;cases w2 with
    |dat d2=>
     cases d2 with
     |bl c=>exact h2 u F2 H2 (g1.trans g2) r2 q2
     |_=>exact False.elim h2
    |_=>exact False.elim h2
   |false=>
    rw[if_neg (by decide)]
    exact h1 _ F1 H1 g1 r1 (show Rep Z F1 H1 (.bl false) _ by simp only[Rep])
  |_=>exact False.elim h1
 |_=>exact False.elim h1
theorem jot {fa fb:Rho->R (Vl×Rho)}{Q:VK}(h:tE Z X B (fun ρ=>(fa ρ).bind fun p=>(jcL p.1).bind fun t=>if t then .ok (.dat (.bl true),p.2)else (fb p.2).bind fun q=>(jcL q.1).bind fun u=>.ok (.dat (.bl u),q.2)) σ H Q):jqy (tE Z X B fa) (tE Z X B fb) σ H Q:=by
 obtain⟨F,ρ,r,h⟩:=h;refine⟨F,ρ,r,h.bind.imp (fun _ w=>w) fun p h1 v F1 H1 g1 r1 q1=>?_⟩;obtain⟨w,ρ1⟩:=p;cases w with
 |dat d=>
  cases d with
  |bl b=>
   have q1:Rep Z F1 H1 (.bl b) v:=q1;simp only[Rep]at q1;subst q1;refine⟨b,rfl,?_⟩;cases b with
   |false=>
    rw[if_neg (by decide)]
    refine⟨F1,ρ1,r1,(show Ok (XW Z X σ ρ H) ((fb ρ1).bind _) _ from h1).bind.imp (fun c w=>w.mono g1) fun q h2 u F2 H2 g2 r2 q2=>?_⟩;obtain⟨w2,ρ2⟩:=q;cases w2 with
    |dat d2=>
     cases d2 with
     |bl c=>exact h2 u F2 H2 (g1.trans g2) r2 q2
     |_=>exact False.elim h2
    |_=>exact False.elim h2
   |true=>
    rw[if_pos rfl];exact h1 _ F1 H1 g1 r1 (show Rep Z F1 H1 (.bl true) _ by simp only[Rep])
  |_=>exact False.elim h1
 |_=>exact False.elim h1
theorem jmf {fa:Rho->R (Vl×Rho)}{Q:VK}(h:tE Z X B (fun ρ=>(fa ρ).bind fun p=>(jcL p.1).bind fun t=>.ok (.dat (.bl (!t)),p.2)) σ H Q):jnK (tE Z X B fa) σ H Q:=by
 obtain⟨F,ρ,r,h⟩:=h;refine⟨F,ρ,r,h.bind.imp (fun _ w=>w) fun p h1 v F1 H1 g1 r1 q1=>?_⟩;obtain⟨w,ρ1⟩:=p;cases w with
 |dat d=>
  cases d with
  |bl b=>
   have q1:Rep Z F1 H1 (.bl b) v:=q1;simp only[Rep]at q1;subst q1;exact⟨b,rfl,h1 _ F1 H1 g1 r1 (show Rep Z F1 H1 (.bl (!b)) _ by simp only[Rep])⟩
  |_=>exact False.elim h1
 |_=>exact False.elim h1
theorem jj1 {fa fb:Rho->R (Bool×Rho)}{Q:Bool->Hp->Prop}(h:tT Z X B (fun ρ=>(fa ρ).bind fun p=>if p.1 then fb p.2 else .ok (false,p.2)) σ H Q):jqw (tT Z X B fa) (tT Z X B fb) σ H Q:=by
 obtain⟨F,ρ,r,h⟩:=h;refine⟨F,ρ,r,h.bind.imp (fun _ w=>w) fun p h1 F1 H1 g1 r1=>?_⟩;obtain⟨b,ρ1⟩:=p;cases b with
 |true=>rw[if_pos rfl]at h1 ⊢;exact⟨F1,ρ1,r1,h1.imp (fun c w=>w.mono g1) fun y h2 F2 H2 g2 r2=>h2 F2 H2 (g1.trans g2) r2⟩
 |false=>rw[if_neg jr8]at h1 ⊢;exact h1 F1 H1 g1 r1
theorem jmg {fa fb:Rho->R (Bool×Rho)}{Q:Bool->Hp->Prop}(h:tT Z X B (fun ρ=>(fa ρ).bind fun p=>if p.1 then .ok (true,p.2)else fb p.2) σ H Q):tOr (tT Z X B fa) (tT Z X B fb) σ H Q:=by
 obtain⟨F,ρ,r,h⟩:=h;refine⟨F,ρ,r,h.bind.imp (fun _ w=>w) fun p h1 F1 H1 g1 r1=>?_⟩;obtain⟨b,ρ1⟩:=p;cases b with
 |false=>rw[if_neg jr8]at h1 ⊢;exact⟨F1,ρ1,r1,h1.imp (fun c w=>w.mono g1) fun y h2 F2 H2 g2 r2=>h2 F2 H2 (g1.trans g2) r2⟩
 |true=>rw[if_pos rfl]at h1 ⊢;exact h1 F1 H1 g1 r1
theorem jj2 {fa:Rho->R (Bool×Rho)}{Q:Bool->Hp->Prop}(h:tT Z X B (fun ρ=>(fa ρ).bind fun p=>.ok (!p.1,p.2)) σ H Q):jqx (tT Z X B fa) σ H Q:=by
 obtain⟨F,ρ,r,h⟩:=h;exact⟨F,ρ,r,h.bind.imp (fun _ w=>w) fun b h1 F1 H1 g1 r1=>h1 F1 H1 g1 r1⟩
theorem jou {fc:Rho->R (Bool×Rho)}{fa fb:Rho->R (Vl×Rho)}{Q:VK}(h:tE Z X B (fun ρ=>(fc ρ).bind fun t=>if t.1 then fa t.2 else fb t.2) σ H Q):tIf (tT Z X B fc) (tE Z X B fa) (tE Z X B fb) σ H Q:=by
 obtain⟨F,ρ,r,h⟩:=h;refine⟨F,ρ,r,h.bind.imp (fun _ w=>w) fun p h1 F1 H1 g1 r1=>?_⟩;obtain⟨b,ρ1⟩:=p;cases b with
 |true=>rw[if_pos rfl]at h1 ⊢;exact⟨F1,ρ1,r1,h1.imp (fun c w=>w.mono g1) fun y h2=>Post.ext h2 g1⟩
 |false=>rw[if_neg jr8]at h1 ⊢;exact⟨F1,ρ1,r1,h1.imp (fun c w=>w.mono g1) fun y h2=>Post.ext h2 g1⟩
end
noncomputable def jep (f:E->E->E):List E->Option E
 |[]=>none
 |[e]=>some e
 |e::es=>(jep f es).map (f e)
section
variable {G:Calls}{U:Nat->Nat->Bool}{Z:Kn}{X:Cx}{B:Bs}
theorem jih {vs:List Expr}{es:List E}{E':E}{pos:Pos}(h:Paired (fun e E'=>PE X e (tE Z X B (evE G U E'))/\PT X e (tT Z X B (evT G U E'))) vs es)(hf:jep .and es=some E') :
  PE X (.BoolOp .And vs pos) (tE Z X B (evE G U E'))/\PW X (.BoolOp .And vs pos) (tT Z X B (evT G U E')):=by
 induction h generalizing E' with
 |nil=>cases hf
 |@cons e E1 vs es h1 hr ih=>
  cases hr with
  |nil=>cases hf;exact⟨jkY h1.1,jlC h1.2⟩
  |@cons e2 E2 vs es h2 hr=>
   simp only[jep]at hf;cases q:jep .and (E2::es)with
   |none=>rw[q]at hf;cases hf
   |some E3=>
    have hf':E'=.and E1 E3:=by
     rw[q]at hf;exact(Option.some.inj hf).symm
    subst hf';obtain⟨i1,i2⟩:=ih q;refine⟨PE.imp (jnL h1.1 i1) fun σ H Q z=>jme (by simpa only[evE] using z),fun whole pins s σ H Q I z=>jnH h1.2 i2 whole pins s σ H Q I (jj1 (by simpa only[evT] using z))⟩
theorem jlg {vs:List Expr}{es:List E}{E':E}{pos:Pos}(h:Paired (fun e E'=>PE X e (tE Z X B (evE G U E'))/\PT X e (tT Z X B (evT G U E'))) vs es)(hf:jep .or es=some E') :
  PE X (.BoolOp .Or vs pos) (tE Z X B (evE G U E'))/\PW X (.BoolOp .Or vs pos) (tT Z X B (evT G U E')):=by
 induction h generalizing E' with
 |nil=>cases hf
 |@cons e E1 vs es h1 hr ih=>
  cases hr with
  |nil=>cases hf;exact⟨jkY h1.1,jnG h1.2⟩
  |@cons e2 E2 vs es h2 hr=>
   simp only[jep]at hf;cases q:jep .or (E2::es)with
   |none=>rw[q]at hf;cases hf
   |some E3=>
    have hf':E'=.or E1 E3:=by
     rw[q]at hf;exact(Option.some.inj hf).symm
    subst hf';obtain⟨i1,i2⟩:=ih q;refine⟨PE.imp (jpo h1.1 i1) fun σ H Q z=>jot (by simpa only[evE] using z),fun whole pins s σ H Q I z=>jpn h1.2 i2 whole pins s σ H Q I (jmg (by simpa only[evT] using z))⟩
end
end DJ
namespace DJ
open PySem PySem.Spec PyProof.Rows L2
section
variable {Z:Kn}{X:Cx}{B:Bs}{σ:L2.St}{ρ ρ0 ρ1 ρ2:Rho}{F F0 F1 F2:Addr->Prop}{H H0 H1 H2:Hp}{w:Vl}{v:V}
noncomputable def RW (Z:Kn)(F':Addr->Prop)(H0 H':Hp)(σ:L2.St)(ρ':Rho):Vl->V->Prop
 |.dat d,v=>Rep Z F' H' d v
 |.tmp o,v=>∃l,v=.ref l/\¬Ow σ ρ' l/\H0 l=none/\HasO Z F' H' l o
 |.slot i,v=>σ[i]?=some (some v)
theorem RV.weak (h:RV Z F H0 H σ ρ w v):RW Z F H0 H σ ρ w v:=by
 cases w with
 |dat d=>exact h
 |tmp o=>obtain⟨l,a,_,b,c,d⟩:=h;exact⟨l,a,b,c,d⟩
 |slot i=>exact h
theorem RW.go (h:RW Z F1 H0 H1 σ ρ1 w v)(r:SR Z B F1 H1 σ ρ1)(g:Go σ ρ1 F1 H1 σ ρ2 F2 H2):RW Z F2 H0 H2 σ ρ2 w v:=by
 cases w with
 |dat d=>exact Rep.mono (g.keep r) h
 |tmp o=>
  obtain⟨l,e,h2,h3,h4⟩:=h;obtain⟨u,hu⟩:=h4.some;refine⟨l,e,fun z=>?_,h3,h4.mono (g.keep r) ((g.stay l u hu fun m=>h2 m.ow).trans hu.symm)⟩;rcases g.owA z with q | q
  ·exact h2 q
  ·rw[hu]at q;cases q
 |slot i=>exact h
theorem RW.keep (h:RW Z F1 H0 H1 σ ρ1 w v)(k:Keep F1 F2 H1 H1)(hO:∀b,Ow σ ρ2 b->Ow σ ρ1 b):RW Z F2 H0 H1 σ ρ2 w v:=by
 cases w with
 |dat d=>exact Rep.mono k h
 |tmp o=>obtain⟨l,e,h2,h3,h4⟩:=h;exact⟨l,e,fun z=>h2 (hO l z),h3,h4.mono k rfl⟩
 |slot i=>exact h
theorem RW.base (h:RW Z F1 H0 H1 σ ρ1 w v)(k:∀l,H0 l=none->H l=none):RW Z F1 H H1 σ ρ1 w v:=by
 cases w with
 |dat d=>exact h
 |tmp o=>obtain⟨l,e,h2,h3,h4⟩:=h;exact⟨l,e,h2,k l h3,h4⟩
 |slot i=>exact h
noncomputable def Sub (ρ' ρ:Rho):Prop:=∀(i:Nat) o f k,ρ'[i]?=some (.own o f k)->ρ[i]?=some (.own o f k)
theorem Sub.set {i:Nat}{s:Sl}(hs:∀o f k,s≠.own o f k):Sub (ρ.set i s) ρ:=fun j o f k h=>by
 rw[jrv]at h;by_cases e:i=j
 ·rw[if_pos e]at h;split at h
  ·cases h;exact absurd rfl (hs _ _ _)
  ·cases h
 ·rw[if_neg e]at h;exact h
theorem Sub.trans (a:Sub ρ2 ρ1)(b:Sub ρ1 ρ):Sub ρ2 ρ:=fun i o f k h=>b i o f k (a i o f k h)
theorem Sub.ow (a:Sub ρ1 ρ){b:Addr}(h:Ow σ ρ1 b):Ow σ ρ b:=let ⟨i,o,f,k,h1,h2⟩:=h;⟨i,o,f,k,a i o f k h1,h2⟩
theorem jmh {ρ':Rho}{d:D}(h:RW Z F1 H H1 σ ρ' w v)(sb:Sub ρ1 ρ')(r:SR Z B F1 H1 σ ρ1)(g:Go σ ρ F H σ ρ1 F1 H1)(hd:toD w ρ1=.ok (d,ρ2)) :
  ∃F2,Go σ ρ F H σ ρ2 F2 H1/\SR Z B F2 H1 σ ρ2/\Rep Z F2 H1 d v/\Keep F1 F2 H1 H1/\Sub ρ2 ρ1/\(∀j:Nat,ρ1[j]?=some .no->ρ2[j]?=some .no)/\(∀a,F2 a->F1 a\/¬Ow σ ρ' a\/∃(j:Nat) (o:O),ρ1[j]?=some (.own o false false)/\σ[j]?=some (some (.ref a))):=by
 cases w with
 |dat d'=>cases hd;exact⟨F1,g,r,h,Keep.refl,fun _ _ _ _ h=>h,fun _ h=>h,fun a h1=>.inl h1⟩
 |tmp o=>
  cases hd;obtain⟨l,rfl,h2,h3,h4⟩:=h;obtain⟨a,b⟩:=r.frzT (fun z=>h2 (sb.ow z)) h4;refine⟨_,g.frzT h3,a,b,fun a q=>⟨.inl q,rfl⟩,fun _ _ _ _ h=>h,fun _ h=>h,fun x h5=>?_⟩;rcases h5 with h5 | h5
  ·exact .inl h5
  ·rw[h5];exact .inr (.inl h2)
 |slot i=>
  have h:σ[i]?=some (some v):=h;simp only[toD]at hd;split at hd
  ·rename_i o e;cases hd;obtain⟨l,e1,_⟩:=r.own i o _ _ e;rw[h]at e1;cases e1;obtain⟨a,b,c⟩:=r.frz e h;refine⟨_,g.trans (Go.frz e h),b,c,a,Sub.set (fun _ _ _ z=>by cases z),fun j hj=>?_,fun x h5=>?_⟩
   ·rw[jrv];split
    ·rename_i z;subst z;rw[e]at hj;cases hj
    ·exact hj
   ·rcases h5 with h5 | h5
    ·exact .inl h5
    ·rw[h5];exact .inr (.inr ⟨i,o,e,h⟩)
  ·cases hd
end
inductive tL_I (Z:Kn) (X:Cx) (B:Bs) (f:Rho->R (List D×Rho)) (σ:L2.St) (H:L2.Hp) (Q:(List L2.V->L2.Hp->Prop)):Prop
 |mk (F:_) (ρ:_):(SR Z B F H σ ρ)->(Ok (XW Z X σ ρ H) (f ρ) fun p=>∀vs F' H',Go σ ρ F H σ p.2 F' H'->SR Z B F' H' σ p.2->Reps Z F' H' p.1 vs->Q vs H')->tL_I Z X B f σ H Q
noncomputable def tL (Z:Kn)(X:Cx)(B:Bs)(f:Rho->R (List D×Rho)):TA:=fun σ H Q=>tL_I Z X B f σ H Q
noncomputable def RWs (Z:Kn)(F':Addr->Prop)(H0 H':Hp)(σ:L2.St)(ρ':Rho):List Vl->List V->Prop:=Paired (RW Z F' H0 H' σ ρ')
inductive tAs_I (Z:Kn) (X:Cx) (B:Bs) (f:Rho->R (List Vl×Rho)) (σ:L2.St) (H:L2.Hp) (Q:(List L2.V->L2.Hp->Prop)):Prop
 |mk (F:_) (ρ:_):(SR Z B F H σ ρ)->(Ok (XW Z X σ ρ H) (f ρ) fun p=>∀vs F' H',Go σ ρ F H σ p.2 F' H'->SR Z B F' H' σ p.2->RWs Z F' H H' σ p.2 p.1 vs->Q vs H')->tAs_I Z X B f σ H Q
noncomputable def tAs (Z:Kn)(X:Cx)(B:Bs)(f:Rho->R (List Vl×Rho)):TA:=fun σ H Q=>tAs_I Z X B f σ H Q
section
variable {Z:Kn}{X:Cx}{B:Bs}{G:Calls}{U:Nat->Nat->Bool}
theorem jii {es:List Expr}{Es':List E}(hp:Paired (fun e E'=>PE X e (tE Z X B (evE G U E'))/\∀a p,e≠.Starred a p) es Es'):PA X es (tL Z X B (evEs G U (jf1 Es'))):=by
 induction hp with
 |nil=>
  intro pos pins s σ H Q I h;obtain⟨F,ρ,r,h⟩:=h;exact jbu pos pins s σ H Q I (h [] F H Go.refl r .nil)
 |cons h1 h2 ih=>
  intro pos pins s σ H Q I h;refine jaJ h1.1 ih (jaf h1.2) pos pins s σ H Q I ?_;obtain⟨F,ρ,r,h⟩:=h;simp only[jf1,evEs]at h;refine⟨F,ρ,r,h.bind.imp (fun _ w=>w) fun p h1 v F1 H1 g1 r1 q1=>?_⟩;obtain⟨q,hq,h2⟩:=h1.bind.pure fun c=>jcg;obtain⟨F2,g2,r2,rp,_⟩:=jej q1 r1 g1 hq;refine⟨F2,q.2,r2,h2.bind.imp (fun c w=>w.mono g2) fun s3 h3 vs F3 H3 g3 r3 q3=>?_⟩;exact h3 (v::vs) F3 H3 (g2.trans g3) r3 (.cons (rp.mono (g3.keep r2)) q3)
theorem RWs.base {σ:L2.St}{ρ1:Rho}{F1:Addr->Prop}{H H0 H1:Hp}{ws:List Vl}{vs:List V}(h:RWs Z F1 H0 H1 σ ρ1 ws vs)(k:∀l,H0 l=none->H l=none):RWs Z F1 H H1 σ ρ1 ws vs:=Paired.mapP h fun _ _ x=>x.base k
theorem RWs.keep {σ:L2.St}{ρ1:Rho}{F1 F2:Addr->Prop}{H0 H1:Hp}{ws:List Vl}{vs:List V}(h:RWs Z F1 H0 H1 σ ρ1 ws vs)(k:Keep F1 F2 H1 H1):RWs Z F2 H0 H1 σ ρ1 ws vs:=Paired.mapP h fun _ _ x=>x.keep k fun _ z=>z
theorem jmi {es:List Expr}{Es':List E}(hp:Paired (fun e E'=>PE X e (tE Z X B (evE G U E'))/\∀a p,e≠.Starred a p) es Es'):PA X es (tAs Z X B (evAs G U (jf1 Es'))):=by
 induction hp with
 |nil=>
  intro pos pins s σ H Q I h;obtain⟨F,ρ,r,h⟩:=h;exact jbu pos pins s σ H Q I (h [] F H Go.refl r .nil)
 |cons h1 h2 ih=>
  intro pos pins s σ H Q I h;refine jaJ h1.1 ih (jaf h1.2) pos pins s σ H Q I ?_;obtain⟨F,ρ,r,h⟩:=h;simp only[jf1,evAs]at h;refine⟨F,ρ,r,h.bind.imp (fun _ w=>w) fun p h1 v F1 H1 g1 r1 q1=>⟨F1,p.2,r1,h1.bind.imp (fun c w=>w.mono g1) fun s3 h3 vs F3 H3 g3 r3 q3=>?_⟩⟩;exact h3 (v::vs) F3 H3 (g1.trans g3) r3 (.cons (q1.weak.go r1 g3) (q3.base fun l z=>g1.free z))
end
section
variable {Z:Kn}{B:Bs}{σ:L2.St}{ρ ρ0 ρ1 ρ2:Rho}{F F0 F1 F2:Addr->Prop}{H H0:Hp}
inductive PassR (Z:Kn) (F2:Addr->Prop) (H:Hp) (σ:L2.St) (ρ ρ2:Rho):Sl->Option (Nat×Bool×Bool)->V->Prop where
 |dat {d:D}{v:V}:Rep Z F2 H d v->PassR Z F2 H σ ρ ρ2 (.dat d) none v
 |own {o:O}{i:Nat}{f k:Bool}{l:Addr}:σ[i]?=some (some (.ref l))->ρ[i]?=some (.own o f k)->ρ2[i]?=some .no->¬F2 l->HasO Z F2 H l o->PassR Z F2 H σ ρ ρ2 (.own o true k) (some (i,f,k)) (.ref l)
noncomputable def lentIx:List (Option (Nat×Bool×Bool))->List Nat
 |[]=>[]
 |some (i,_,_)::r=>i::lentIx r
 |none::r=>lentIx r
inductive PassRs (Z:Kn) (F2:Addr->Prop) (H:Hp) (σ:L2.St) (ρ ρ2:Rho):List Sl->List (Option (Nat×Bool×Bool))->List V->Prop where
 |nil:PassRs Z F2 H σ ρ ρ2 [] [] []
 |cons {s:Sl}{b:Option (Nat×Bool×Bool)}{v:V}{ss:List Sl}{bs:List (Option (Nat×Bool×Bool))}{vs:List V}:PassR Z F2 H σ ρ ρ2 s b v->PassRs Z F2 H σ ρ ρ2 ss bs vs->PassRs Z F2 H σ ρ ρ2 (s::ss) (b::bs) (v::vs)
theorem jij {l:Bool}{w:Vl}{c:Nat}:jdH l w ρ≠.err c:=by
 intro h;unfold jdH at h;split at h
 ·split at h <;> cases h
 ·cases q:toD w ρ with
  |ok p=>rw[q]at h;cases h
  |err c=>exact absurd q jcg
  |stk=>rw[q]at h;cases h
theorem jcS:∀{fl:List Bool}{ws:List Vl}{ρ:Rho}{c:Nat},jaI fl ws ρ≠.err c
 |_,[],_,_=>by simp[jaI]
 |fl,w::ws,ρ,c=>by
  intro h;simp only[jaI]at h;cases q:jdH (fl.headD false) w ρ with
  |ok p=>
   rw[q,R.bind_ok']at h;cases q2:jaI fl.tail ws p.2.2 with
   |ok r=>rw[q2]at h;cases h
   |err c=>exact jcS q2
   |stk=>rw[q2]at h;cases h
  |err c=>exact jij q
  |stk=>rw[q]at h;cases h
inductive PassO (Z:Kn) (B:Bs) (F0:Addr->Prop) (H0 H:Hp) (σ:L2.St) (ρ ρ0 ρ1 ρ2:Rho) (F1:Addr->Prop) (sls:List Sl) (back:List (Option (Nat×Bool×Bool))) (vs:List V):Prop
 |mk (F2:Addr->Prop):(Go σ ρ0 F0 H0 σ ρ2 F2 H)->(SR Z B F2 H σ ρ2)->(Keep F1 F2 H H)->(Sub ρ2 ρ)->(PassRs Z F2 H σ ρ ρ2 sls back vs)->((lentIx back).Nodup)->((∀i∈lentIx back,∃o f k,ρ1[i]?=some (.own o f k)))->((∀i:Nat,ρ1[i]?=some .no->ρ2[i]?=some .no))->((∀l,(∃(i:Nat) (o:O) (f kk:Bool),ρ[i]?=some (Sl.own o f kk)/\σ[i]?=some (some (V.ref l))/\ρ1[i]?=some Sl.no)->¬F1 l->¬F2 l))->PassO Z B F0 H0 H σ ρ ρ0 ρ1 ρ2 F1 sls back vs
theorem je4:∀{fl:List Bool}{ws:List Vl}{vs:List V}{ρ1 ρ2:Rho}{F1:Addr->Prop}{sls:List Sl}{back:List (Option (Nat×Bool×Bool))},RWs Z F1 H0 H σ ρ ws vs->SR Z B F1 H σ ρ1->Go σ ρ0 F0 H0 σ ρ1 F1 H->SR Z B F H σ ρ->Keep F F1 H H->Sub ρ1 ρ ->
  jaI fl ws ρ1=.ok (sls,back,ρ2) ->
  PassO Z B F0 H0 H σ ρ ρ0 ρ1 ρ2 F1 sls back vs
 |fl,[],vs,ρ1,ρ2,F1,sls,back,rw',r1,g1,r,kp,sb,h=>by
  cases rw';simp only[jaI]at h;cases h;exact⟨F1,g1,r1,Keep.refl,sb,.nil,List.nodup_nil,fun _ h=>absurd h (by simp[lentIx]),fun _ h=>h,fun _ _ h=>h⟩
 |fl,w::ws,vs,ρ1,ρ2,F1,sls,back,rw',r1,g1,r,kp,sb,h=>by
  cases rw' with
  |@cons _ v _ vs' q1 q2=>
  simp only[jaI]at h;obtain⟨p,hp,h⟩:=R.bind_ok h;obtain⟨q,hq,h⟩:=R.bind_ok h;cases h;unfold jdH at hp;split at hp
  ·
   rename_i i hfl;split at hp
   ·rename_i o f k e;cases hp;have q1:σ[i]?=some (some v):=q1;obtain⟨l,e1,e2,e3,e4⟩:=r1.own i o f k e;rw[q1]at e1;cases e1;have hi:i < ρ1.length:=(List.getElem?_eq_some_iff.mp e).1;have le:Le (ρ1.set i .no) ρ1:=Le.no;have rA:SR Z B F1 H σ (ρ1.set i .no):=r1.weak le;have gA:Go σ ρ0 F0 H0 σ (ρ1.set i .no) F1 H:=g1.trans (Go.weak le);have sbA:Sub (ρ1.set i .no) ρ1:=Sub.set (fun _ _ _ z=>by cases z)
    obtain⟨F2,g2,r2,k2,s2,p2,n2,i2,no2,f2⟩:=je4 q2 rA gA r kp (sbA.trans sb) hq;have ei:=sb i o f k e;have noI:(ρ1.set i .no)[i]?=some .no:=List.getElem?_set_self hi;refine⟨F2,g2,r2,k2,s2,.cons (.own q1 ei (no2 i noI) (f2 l ⟨i,o,f,k,ei,q1,noI⟩ e2) (e3.mono k2 rfl)) p2,?_,?_,?_,?_⟩
    ·simp only[lentIx];refine List.nodup_cons.mpr ⟨fun z=>?_,n2⟩;obtain⟨o',f',k',e'⟩:=i2 i z;rw[noI]at e';cases e'
    ·intro j hj;simp only[lentIx]at hj;rcases List.mem_cons.mp hj with rfl | hj
     ·exact⟨o,f,k,e⟩
     ·obtain⟨o',f',k',e'⟩:=i2 j hj;exact⟨o',f',k',sbA j o' f' k' e'⟩
    ·intro j hj;refine no2 j ?_;rw[jrv];split
     ·rename_i z;subst z;exact absurd (e.symm.trans hj) (by simp)
     ·exact hj
    ·rintro l' ⟨j,o',f',kk',a1,a2,a3⟩ hn;refine f2 l' ⟨j,o',f',kk',a1,a2,?_⟩ hn;rw[jrv];split
     ·rename_i z;subst z;exact absurd (e.symm.trans a3) (by simp)
     ·exact a3
   ·cases hp
  ·
   obtain⟨t,ht,hp⟩:=R.bind_ok hp;cases hp;obtain⟨FA,gA,rA,rp,kA,sA,noA,nA⟩:=jmh q1 sb r1 g1 ht;have q2A:RWs Z FA H0 H σ ρ ws vs':=RWs.keep q2 kA;have fA:∀l,(∃(i:Nat) (o:O) (f kk:Bool),ρ[i]?=some (Sl.own o f kk)/\σ[i]?=some (some (V.ref l))/\ρ1[i]?=some Sl.no)->¬F1 l->¬FA l:=fun l hx hn z=>by
    obtain⟨i,o,f,kk,a1,a2,a3⟩:=hx;rcases nA l z with z | z | ⟨j,oj,z1,z2⟩
    ·exact hn z
    ·exact z ⟨i,o,f,kk,a1,a2⟩
    ·refine r.one i j _ _ _ _ _ _ l (fun e=>?_) a1 (sb j oj _ _ z1) a2 z2;subst e;rw[a3]at z1;cases z1
   obtain⟨F2,g2,r2,k2,s2,p2,n2,i2,no2,f2⟩:=je4 q2A rA gA r (kp.trans kA) (sA.trans sb) hq;refine⟨F2,g2,r2,kA.trans k2,s2,.cons (.dat (rp.mono k2)) p2,?_,?_,fun j hj=>no2 j (noA j hj),?_⟩
   ·simp only[lentIx];exact n2
   ·intro j hj;simp only[lentIx]at hj;obtain⟨o',f',k',e'⟩:=i2 j hj;exact⟨o',f',k',sA j o' f' k' e'⟩
   ·rintro l ⟨i,o,f,kk,a1,a2,a3⟩ hn;exact f2 l ⟨i,o,f,kk,a1,a2,noA i a3⟩ (fA l ⟨i,o,f,kk,a1,a2,a3⟩ hn)
theorem PassRs.len {sls:List Sl}{back:List (Option (Nat×Bool×Bool))}{vs:List V}(h:PassRs Z F2 H σ ρ ρ2 sls back vs):sls.length=vs.length/\back.length=vs.length:=by
 induction h with
 |nil=>exact⟨rfl,rfl⟩
 |cons _ _ ih=>simp[ih.1,ih.2]
theorem PassRs.get {sls:List Sl}{back:List (Option (Nat×Bool×Bool))}{vs:List V}(h:PassRs Z F2 H σ ρ ρ2 sls back vs):∀{k:Nat}{s:Sl},sls[k]?=some s->∃b v,back[k]?=some b/\vs[k]?=some v/\PassR Z F2 H σ ρ ρ2 s b v:=by
 induction h with
 |nil=>intro k s e;simp at e
 |@cons s0 b0 v0 ss bs vs h1 _ ih=>
  intro k s e;cases k with
  |zero=>simp at e;subst e;exact⟨b0,v0,rfl,rfl,h1⟩
  |succ k=>simp at e;simpa using ih e
theorem jbI:∀{back:List (Option (Nat×Bool×Bool))}{k i:Nat}{f g:Bool},back[k]?=some (some (i,f,g))->i∈lentIx back
 |[],k,i,f,g,h=>by simp at h
 |none::r,0,i,f,g,h=>by simp at h
 |none::r,k + 1,i,f,g,h=>by simp at h;simp only[lentIx];exact jbI h
 |some (j,a,b)::r,0,i,f,g,h=>by
  simp at h;simp[lentIx,h.1]
 |some (j,a,b)::r,k + 1,i,f,g,h=>by simp at h;simp only[lentIx];exact jrr _ (jbI h)
theorem jgH {back:List (Option (Nat×Bool×Bool))}{k k' i:Nat}{f g f' g':Bool}(n:(lentIx back).Nodup)(h:back[k]?=some (some (i,f,g)))(h':back[k']?=some (some (i,f',g'))):k=k':=by
 induction back generalizing k k' with
 |nil=>cases h
 |cons x r ih=>
  cases x with
  |none=>
   cases k with
   |zero=>cases h
   |succ k=>
    cases k' with
    |zero=>cases h'
    |succ k'=>rw[ih n h h']
  |some x=>
   have n:=List.nodup_cons.mp n;cases k with
   |zero=>
    cases k' with
    |zero=>rfl
    |succ k'=>cases h;exact absurd (jbI (back:=r) h') n.1
   |succ k=>
    cases k' with
    |zero=>cases h';exact absurd (jbI (back:=r) h) n.1
    |succ k'=>rw[ih n.2 h h']
theorem jcT:∀{back:List (Option (Nat×Bool×Bool))}{fin:List Sl}{ρ:Rho},(jaY back fin ρ).length=ρ.length
 |[],fin,ρ=>by simp[jaY]
 |_::_,[],ρ=>by simp[jaY]
 |none::r,s::fs,ρ=>by simp only[jaY];exact jcT
 |some (i,f,k)::r,s::fs,ρ=>by
  simp only[jaY];rw[jcT];split <;> simp
theorem jbE:∀{back:List (Option (Nat×Bool×Bool))}{fin:List Sl}{ρ:Rho}{i:Nat}{s:Sl},(jaY back fin ρ)[i]?=some s->ρ[i]?=some s\/∃(k:Nat) (o:O) (f k' f0 k0:Bool),back[k]?=some (some (i,f0,k0))/\fin[k]?=some (.own o f k')/\s=.own o f0 k0
 |[],fin,ρ,i,s,h=>by simp[jaY]at h;exact .inl h
 |_::_,[],ρ,i,s,h=>by simp[jaY]at h;exact .inl h
 |none::r,s0::fs,ρ,i,s,h=>by
  simp only[jaY]at h;rcases jbE h with h | ⟨k,o,f,k',f0,k0,h1,h2,h3⟩
  ·exact .inl h
  ·exact .inr ⟨k + 1,o,f,k',f0,k0,by simpa using h1,by simpa using h2,h3⟩
 |some (j,f,g)::r,s0::fs,ρ,i,s,h=>by
  simp only[jaY]at h;rcases jbE h with hx | ⟨k,o,f,k',f0,k0,h1,h2,h3⟩
  ·clear h;cases s0 with
   |own o f1 k1=>
    simp only at hx;rw[jrv]at hx;split at hx
    ·rename_i e;subst e;split at hx
     ·cases hx;exact .inr ⟨0,o,f1,k1,f,g,rfl,rfl,rfl⟩
     ·cases hx
    ·exact .inl hx
   |no=>exact .inl hx
   |dat d=>exact .inl hx
  ·exact .inr ⟨k + 1,o,f,k',f0,k0,by simpa using h1,by simpa using h2,h3⟩
noncomputable def jcU (H:Hp)(sls:List Sl)(vs:List V):Bs:=⟨H,fun k=>match sls[k]?,vs[k]? with
 |some (.own _ _ _),some (.ref l)=>some l
 |_,_=>none⟩
theorem je5 {sls:List Sl}{vs:List V}(k:Nat)(l:Addr)(h:(jcU H sls vs).lent k=some l):(vs.map some)[k]?=some (some (.ref l)):=by
 unfold jcU at h;simp only at h;split at h
 ·rename_i h1 h2;cases h;rw[jrw,h2];rfl
 ·cases h
theorem PassRs.own {sls:List Sl}{back:List (Option (Nat×Bool×Bool))}{vs:List V}(h:PassRs Z F2 H σ ρ ρ2 sls back vs){k:Nat}{o:O}{f g:Bool}(e:sls[k]?=some (.own o f g)) :
  ∃(i:Nat) (f0:Bool) (l:Addr),back[k]?=some (some (i,f0,g))/\vs[k]?=some (.ref l)/\f=true/\σ[i]?=some (some (.ref l))/\ρ[i]?=some (.own o f0 g)/\ρ2[i]?=some .no/\¬F2 l/\HasO Z F2 H l o:=by
 obtain⟨b,v,h1,h2,h3⟩:=h.get e;cases h3 with
 |own a1 a2 a3 a4 a5=>exact⟨_,_,_,h1,h2,rfl,a1,a2,a3,a4,a5⟩
theorem PassRs.backOf {sls:List Sl}{back:List (Option (Nat×Bool×Bool))}{vs:List V}(h:PassRs Z F2 H σ ρ ρ2 sls back vs){k i:Nat}{f0 k0:Bool}(e:back[k]?=some (some (i,f0,k0))) :
  ∃(o:O) (l:Addr),sls[k]?=some (.own o true k0)/\vs[k]?=some (.ref l)/\σ[i]?=some (some (.ref l))/\ρ[i]?=some (.own o f0 k0)/\ρ2[i]?=some .no:=by
 have hl:k < sls.length:=by
  rw[h.len.1,<-h.len.2];exact(List.getElem?_eq_some_iff.mp e).1
 obtain⟨b,v,h1,h2,h3⟩:=h.get (jrq hl);rw[e]at h1;cases h1;have es:=jrq hl;generalize sls[k]=s at h3 es;cases h3 with
 |own a1 a2 a3 a4 a5=>exact⟨_,_,es,h2,a1,a2,a3⟩
theorem jmj {sls:List Sl}{back:List (Option (Nat×Bool×Bool))}{vs:List V}(r:SR Z B F H σ ρ)(r2:SR Z B F2 H σ ρ2)(h:PassRs Z F2 H σ ρ ρ2 sls back vs)(hn:(lentIx back).Nodup):SR Z (jcU H sls vs) F2 H (vs.map some) sls where
 dom:=r2.dom
 len:=by simp[h.len.1]
 dat i d e:=by
  obtain⟨b,v,h1,h2,h3⟩:=h.get e;cases h3 with
  |dat q=>exact⟨v,by rw[jrw,h2];rfl,q⟩
 own i o f k e:=by
  obtain⟨j,f0,l,h1,h2,h3,h4,h5,h6,h7,h8⟩:=h.own e;refine⟨l,by rw[jrw,h2];rfl,h7,h8,fun _=>?_,fun z=>?_⟩
  ·simp only[jcU,e,h2]
  ·rw[h3]at z;cases z
 one i j o o' f k f' k' l ne e e' q q':=by
  obtain⟨a,f0,l1,h1,h2,h3,h4,h5,h6,h7,h8⟩:=h.own e;obtain⟨a',f0',l1',h1',h2',h3',h4',h5',h6',h7',h8'⟩:=h.own e';rw[jrw,h2]at q;rw[jrw,h2']at q';cases q;cases q';refine r.one a a' _ _ _ _ _ _ l (fun z=>ne ?_) h5 h5' h4 h4';subst z;exact jgH hn h1 h1'
 base b z:=z
theorem jj3 {sls:List Sl}{back:List (Option (Nat×Bool×Bool))}{vs:List V}{H':Hp}(h:PassRs Z F2 H σ ρ ρ2 sls back vs)(st:Stl (vs.map some) sls H H'):Stl σ ρ H H':=
 ⟨fun b o e n=>st.stay b o e fun ⟨k,o',f,e1,e2⟩=>n (by
  obtain⟨i,f0,l,h1,h2,h3,h4,h5,_⟩:=h.own e1;rw[jrw,h2]at e2;cases e2;exact⟨i,o',f0,h5,h4⟩),st.there⟩
theorem jmk {sls fin:List Sl}{back:List (Option (Nat×Bool×Bool))}{vs:List V}{F':Addr->Prop}{H':Hp}(g:Go σ ρ0 F0 H0 σ ρ F H)(r:SR Z B F H σ ρ)(gp:Go σ ρ0 F0 H0 σ ρ2 F2 H)(r2:SR Z B F2 H σ ρ2)(sb:Sub ρ2 ρ)(h:PassRs Z F2 H σ ρ ρ2 sls back vs)
  (gc:Go (vs.map some) sls F2 H (vs.map some) fin F' H') (rc:SR Z (jcU H sls vs) F' H' (vs.map some) fin) (rs:SR Z (jcU H sls vs) F2 H (vs.map some) sls) :
  Go σ ρ0 F0 H0 σ (jaY back fin ρ2) F' H'/\SR Z B F' H' σ (jaY back fin ρ2)/\∀w v,(∀i,w≠.slot i)->RV Z F' H H' (vs.map some) fin w v->RV Z F' H0 H' σ (jaY back fin ρ2) w v:=by
 have own3:∀(i:Nat) (o:O) (f k:Bool),(jaY back fin ρ2)[i]?=some (.own o f k)->∃o0,ρ[i]?=some (.own o0 f k):=fun i o f k e=>by
  rcases jbE e with e | ⟨m,o1,f1,k1,f0,k0,h1,h2,h3⟩
  ·exact⟨o,sb i o f k e⟩
  ·cases h3;obtain⟨o2,l,_,_,_,h7,_⟩:=h.backOf h1;exact⟨o2,h7⟩
 have mbC:∀b,Mb (vs.map some) sls b->Mb σ ρ b:=fun b ⟨k,o,f,e1,e2⟩=>by
  obtain⟨i,f0,l,h1,h2,h3,h4,h5,_⟩:=h.own e1;rw[jrw,h2]at e2;cases e2;exact⟨i,o,f0,h5,h4⟩
 have owC:∀b,Ow (vs.map some) sls b->∃(i:Nat) (o:O) (f k:Bool),ρ[i]?=some (.own o f k)/\σ[i]?=some (some (.ref b))/\ρ2[i]?=some .no:=fun b ⟨k,o,f,k',e1,e2⟩=>by
  obtain⟨i,f0,l,h1,h2,h3,h4,h5,h6,_⟩:=h.own e1;rw[jrw,h2]at e2;cases e2;exact⟨i,o,f0,k',h5,h4,h6⟩
 have kp:=gc.keep rs;refine⟨⟨fun b o e n=>?_,fun a q=>gc.sub a (gp.sub a q),fun a q=>?_,fun j o f k b e1 e2=>?_,fun b o e=>?_⟩,⟨rc.dom,?_,fun i d e=>?_,fun i o f k e=>?_,fun i j o o' f k f' k' l ne e e' q=>?_,fun b z=>?_⟩,fun w v hw q=>?_⟩
 ·refine gc.stay b o (g.stay b o e n) fun z=>?_;rcases g.mb (mbC b z)with q | q
  ·exact n q
  ·rw[e]at q;cases q
 ·rcases gc.new a q with q | q | q
  ·exact gp.new a q
  ·exact .inr (.inl (g.free q))
  ·rcases g.mb (mbC a q)with q | q
   ·exact .inr (.inr q)
   ·exact .inr (.inl q)
 ·obtain⟨o0,e0⟩:=own3 j o f k e1;exact g.ow j o0 f k b e0 e2
 ·obtain⟨o1,e1⟩:=g.there b o e;exact gc.there b o1 e1
 ·rw[jcT];exact r2.len
 ·rcases jbE e with e | ⟨m,o1,f1,k1,f0,k0,h1,h2,h3⟩
  ·obtain⟨v,e1,e2⟩:=r2.dat i d e;exact⟨v,e1,e2.mono kp⟩
  ·cases h3
 ·rcases jbE e with e | ⟨m,o1,f1,k1,f0,k0,h1,h2,h3⟩
  ·obtain⟨l,e1,e2,e3,e4⟩:=r2.own i o f k e;have no:¬Ow (vs.map some) sls l:=fun z=>by
    obtain⟨j,o',f',k',q1,q2,q3⟩:=owC l z;refine r.one i j _ _ _ _ _ _ l (fun e'=>?_) (sb i o f k e) q1 e1 q2;subst e';rw[e]at q3;cases q3
   obtain⟨u,hu⟩:=e3.some;obtain⟨a,b,_⟩:=gc.side hu e2 no;exact⟨l,e1,b,e3.mono kp (a.trans hu.symm),e4⟩
  ·cases h3;obtain⟨o2,l,h4,h5,h6,h7,_⟩:=h.backOf h1;obtain⟨l',q1,q2,q3,q4⟩:=rc.own m _ _ _ h2;rw[jrw,h5]at q1;cases q1;obtain⟨l2,z1,_,_,z4⟩:=r.own i o2 _ _ h7;rw[h6]at z1;cases z1;exact⟨l,h6,q2,q3,z4⟩
 ·obtain⟨o1,e1⟩:=own3 i o f k e;obtain⟨o2,e2⟩:=own3 j o' f' k' e';exact r.one i j _ _ _ _ _ _ l ne e1 e2 q
 ·exact r.base b (gc.free z)
 ·cases w with
  |dat d=>exact q
  |tmp o=>
   obtain⟨l,e,h1,h2,h3,h4⟩:=q;refine⟨l,e,h1,fun z=>?_,g.free h3,h4⟩;obtain⟨j,o',f',k',z1,z2⟩:=z;obtain⟨o0,z0⟩:=own3 j o' f' k' z1;obtain⟨u,hu⟩:=r.there ⟨j,o0,f',k',z0,z2⟩;rw[h3]at hu;cases hu
  |slot i=>exact absurd rfl (hw i)
end
end DJ
namespace DJ
open PySem PySem.Spec PyProof.Rows L2
noncomputable def EX (X:Cx)(σ:L2.St):XK:=fun cls _ H'=>∀(pins:List (Addr×Obj)) (s':Shared) (ea:Addr),Inv X pins σ H' s'->FlyC X pins ea cls H' s'->X.xe (.ref ea) s'
theorem jov {X:Cx}{pins:List (Addr×Obj)}{σ:L2.St}{H:Hp}{s s':Shared}{e:Value}{E:XK}(I:Inv X pins σ H s)(h:CXD X.prog X.w X.stack H s E e s'):∃ea cls H',e=.ref ea/\Inv X pins σ H' s'/\FlyC X pins ea cls H' s'/\E cls none H':=by
 obtain⟨ea,cls,a0,H',B,rfl,os,bare,un,hok,fl,hB,hB2,hn,q⟩:=h;refine⟨ea,cls,H',rfl,I.call' os un hok bare fun b z=>absurd z (by simp),⟨⟨a0,B,.of fl,fun b o e n nx=>?_,fun x c hf hc=>?_,fun p hp=>?_,hB2⟩,hn⟩,q⟩
 ·obtain⟨o',e'⟩:=I.base.there b o e nx;exact hB b o' e' n
 ·obtain⟨v,o,ho,hd⟩:=I.cell x c hc;refine hB c o ho fun z=>?_;rcases List.mem_cons.mp (I.stkSub c z)with z | z
  ·exact I.cne x c hc z
  ·have h1:=I.ok.cab x c hf hc;obtain⟨_,o',h2,_⟩:=I.ok.funs.mem z;exact absurd (jrY h2) (Nat.not_lt.mpr h1)
 ·obtain⟨h1,h2,h3,h4,_⟩:=I.pin p hp;refine hB p.1 p.2 h1 fun z=>?_;rcases List.mem_cons.mp (I.stkSub p.1 z)with z | z
  ·exact h3 z
  ·exact h4 z
noncomputable def jik (X:Cx)(sp:Sp)(t:TA):TE:=fun σ H Q=>t σ H fun vs H1=>sp vs H1 Q (EX X σ)
section
variable {X:Cx}{k:Nat}{f:Addr}{fd:FuncData}{ps:List Str}{sp:Sp}{x:Str}{p pos:Pos}{e:Expr}{es:List Expr}{t:TA}
theorem jil {pins:List (Addr×Obj)}{σ:L2.St}{H:Hp}{s:Shared}{Q:VK}{us:List Value}{vs:List V}(F:FnOk X.prog X.w X.K X.mg X.base (CXD X.prog X.w) k f fd ps sp)(hr:Room k X.A)(hb:Binds X.K fd ps [])
  (I:Inv X pins σ H s) (r:Vals vs us) (h:sp vs H Q (EX X σ)):wpAny (model X.prog X.w) X.A (call (.ref f) us) (EP X pins σ Q) X.xe s:=by
 have hl:(us++[]).length=ps.length:=by rw[jrP,<-r.length];exact F.len _ _ _ _ h
 have hbt:=hb s us I.kIn hl;rw[jrP]at hbt;refine wpAny_call (codeAny_mono (F.run X.A X.stack s H ⟨us,[]⟩ us vs Q (EX X σ) hr I.env0 hbt r h) fun r s' hq=>?_);cases r with
 |error e=>
  obtain⟨ea,cls,H',rfl,I',fl,q⟩:=jov I hq;exact q pins s' ea I' fl
 |ok fl=>
  cases fl with
  |ret u=>exact I.after hq
  |next=>exact False.elim hq
  |brk=>exact False.elim hq
  |cont=>exact False.elim hq
theorem jj4 (F:FnOk X.prog X.w X.K X.mg X.base (CXD X.prog X.w) k f fd ps sp)(hr:Room k X.A)(hg:Gl X x)(hm:X.mg x=some (.ref f))(hk:PySem.W.keepIn X.K (.ref f)=true)(hb:Binds X.K fd ps [])
  (ha:PA X (e::es) t) (hdb:(x == ("__debug__":Str))=false) (he:starEach (e::es) X.env=(false,eval e X.env)::starEach es X.env) (hpl:(backTo pos (starEach es X.env)).any (·.1)=false) :
  PE X (.Call (.Name x p) (e::es) [] pos) (jik X sp t):=by
 intro pins s σ H Q I h;refine wpAny_Call_Name_kw (jcF I hg hm ?_ hdb);refine PySem.W.callWith_K (h₀:=X.base) I.ok.mod.kin hk (thn (ha pos pins s σ H _ I h) fun us s1 ⟨vs,H1,I1,r,q⟩=>⟨I1.kIn,?_⟩) he hpl;exact jil F hr hb I1 r q
theorem jim (F:FnOk X.prog X.w X.K X.mg X.base (CXD X.prog X.w) k f fd ps sp)(hr:Room k X.A)(hg:Gl X x)(hm:X.mg x=some (.ref f))(hk:PySem.W.keepIn X.K (.ref f)=true)(hb:Binds X.K fd ps [])
  (hdb:(x == ("__debug__":Str))=false):PE X (.Call (.Name x p) [] [] pos) (jik X sp jlK):=by
 intro pins s σ H Q I h;refine wpAny_Call_Name_kw (jcF I hg hm ?_ hdb);exact PySem.W.callWith_K0 I.kIn hk (jil (us:=[]) F hr hb I .nil h)
end
section
variable {T:Tab}{G:Calls}{U:Nat->Nat->Bool}{Z:Kn}{m:Nat}{X:Cx}{sc:List (Str×NameKind)}{B:Bs}
theorem jj5 (D:XD T G U Z m X sc)(hq:T.quiet=false){f:Str}{k:Nat}{fl:List Bool}{p pos:Pos}{args:List Expr}{es:List E}(hf:knd sc f=2)(hb:jc9 f=false)(hk:jcQ T.defs f=some k)
  (h:Paired (fun e E'=>PE X e (tE Z X B (evE G U E'))/\∀a p,e≠.Starred a p) args es):PE X (.Call (.Name f p) args [] pos) (tE Z X B (evE G U (.call k fl (jf1 es)))):=by
 obtain⟨fa,fd,ps,hm,hkp,hbd,hF⟩:=D.defs k f (jaG hk);have key:∀σ H Q,tE Z X B (evE G U (.call k fl (jf1 es))) σ H Q->jik X (spD Z G k) (tAs Z X B (evAs G U (jf1 es))) σ H Q:=by
  intro σ H Q hz1;obtain⟨F,ρ,r,q⟩:=hz1;simp only[evE]at q;refine⟨F,ρ,r,q.bind.imp (fun _ w=>w) fun p1 h1 vs F1 H1 g1 r1 w1=>?_⟩;obtain⟨pp,hp,h2⟩:=h1.bind.pure fun c=>jcS;obtain⟨sls,back,ρ2⟩:=pp;obtain⟨F2,g2,r2,k2,s2,p2,n2,_,_,_⟩:=je4 w1 r1 g1 r1 Keep.refl (fun _ _ _ _ h=>h) hp;have rs:=jmj r1 r2 p2 n2;refine⟨jcU H1 sls vs,F2,sls,rs,rfl,je5,h2.bind.imp (fun c w C H' hC hH pins s' ea I' fly=>?_) fun rr h3 v F' H' hns gc rc rv=>?_⟩
  ·exact w pins H' s' ea C hC I' (Stl.go g1 (jj3 p2 hH)) fly
  ·obtain⟨a,b,c⟩:=jmk g1 r1 g2 r2 s2 p2 gc rc rs;exact h3 v F' H' a b (c _ _ hns rv)
 have hns:∀e∈args,∀a p,e≠.Starred a p:=by
  clear key;induction h with
  |nil=>intro e he;simp at he
  |cons h1 _ ih=>
   intro e he;rcases List.mem_cons.mp he with rfl | he
   ·exact h1.2
   ·exact ih e he
 have hpa:=jmi h;cases args with
 |nil=>
  cases h;refine PE.imp (jim hF (D.room hq) (D.gl hf) hm hkp hbd (jdw hb).1) fun σ H Q q=>?_;obtain⟨F,ρ,r,z⟩:=key σ H Q q;simp only[jf1,evAs]at z;exact z [] F H Go.refl r .nil
 |cons e es'=>
  exact PE.imp (jj4 hF (D.room hq) (D.gl hf) hm hkp hbd hpa (jdw hb).1 (jaf (hns e jrs)) (jdP (jcD fun x hx=>hns x (jrr _ hx)))) key
theorem jml {e:Expr}{d:D}{v:V}(h:PE X e (tC v))(hr:∀F H,Rep Z F H d v):PE X e (tE Z X B (evE G U (.lit d))):=by
 refine PE.imp h fun σ H Q q=>?_;obtain⟨F,ρ,r,q⟩:=q;simp only[evE]at q;exact q v F H Go.refl r (hr F H)
theorem jj6 (D:XD T G U Z m X sc){x:Str}{pos:Pos}{i:Nat}(hk:knd sc x=1)(hi:X.N[i]?=some x)(hb:jc9 x=false):PE X (.Name x pos) (tE Z X B (evE G U (.var i))):=by
 refine PE.imp (jfH (X:=X) (pos:=pos) hi (D.vis hk) (jdw hb).1 (jj0 hb)) fun σ H Q q=>?_;obtain⟨F,ρ,r,q⟩:=q;simp only[evE]at q;split at q
 ·rename_i d e;obtain⟨v,e1,e2⟩:=r.dat i d e;exact⟨v,e1,q v F H Go.refl r e2⟩
 ·rename_i o f k e;obtain⟨l,e1,_⟩:=r.own i o f k e;exact⟨_,e1,q _ F H Go.refl r e1⟩
 ·exact False.elim q
theorem jmm {es:List Expr}{Es':List E}{k:Nat}{pos:Pos}(h:Paired (fun e E'=>PE X e (tE Z X B (evE G U E'))/\∀a p,e≠.Starred a p) es Es'):PE X (.Tuple es k pos) (tE Z X B (evE G U (.tup (jf1 Es')))):=by
 refine PE.imp (jk2 (jii h)) fun σ H Q hzz=>?_;obtain⟨F,ρ,r,z⟩:=hzz;simp only[evE]at z;refine⟨F,ρ,r,z.bind.imp (fun _ w=>w) fun p h1 vs F' H' g r' rs=>?_⟩;split at h1
 ·rename_i hf;exact⟨by rw[<-rs.length];exact jaO hf,(Post.toV h1 g r' (fun _ z=>by cases z)).tup r'.dom rs⟩
 ·exact False.elim h1
theorem jmn {es:List Expr}{Es':List E}{pos:Pos}(h:Paired (fun e E'=>PE X e (tE Z X B (evE G U E'))/\∀a p,e≠.Starred a p) es Es'):PE X (.List es pos) (tE Z X B (evE G U (.lst (jf1 Es')))):=by
 refine PE.imp (jn2 (jii h)) fun σ H Q hzz=>?_;obtain⟨F,ρ,r,z⟩:=hzz;simp only[evE]at z;refine⟨F,ρ,r,z.bind.imp (fun _ w=>w) fun p h1 vs F' H' g r' rs=>?_⟩;split at h1
 ·rename_i hf;exact⟨by rw[<-rs.length];exact jaO hf,(Post.toV h1 g r' (fun _ z=>by cases z)).lst r'.dom rs⟩
 ·exact False.elim h1
end
theorem jlh {Z:Kn}{F:Addr->Prop}{H:Hp}{ds:List D}{vs:List V}{i:Int}{d:D}(r:Reps Z F H ds vs)(h:atI ds i=.ok d):∃v,L2.atI vs i=some v/\Rep Z F H d v:=by
 have hl:=r.length;unfold atI at h;unfold L2.atI ixN;split at h
 ·rename_i h0;split at h
  ·rename_i d' e;cases h;obtain⟨v,e1,e2⟩:=r.get e;have hlt:=(List.getElem?_eq_some_iff.mp e1).1;refine⟨v,?_,e2⟩;rw[if_pos h0,if_pos (by omega)]
   exact e1
  ·cases h
 ·rename_i h0;split at h
  ·rename_i h1;split at h
   ·rename_i d' e;cases h;obtain⟨v,e1,e2⟩:=r.get e;refine⟨v,?_,e2⟩;rw[if_neg h0,if_pos (by omega)]
    rw[hl]at e1;exact e1
   ·cases h
  ·cases h
theorem jin {ds:List D}{i:Int}{c:Nat}:atI ds i≠.err c:=by
 intro e;unfold atI at e;split at e <;> (try split at e) <;> (try split at e) <;> cases e
theorem jmo {x:Str}{i:Int}{c:Nat}:atC x i≠.err c:=by
 intro e;unfold atC at e;split at e
 ·split at e <;> cases e
 ·cases e
theorem jow {x:Str}{i:Int}{d:D}(h:atC x i=.ok d):∃c,d=.str ⟨#[c]⟩/\x.length<=sizeLine/\L2.atI x.cps.toList i=some c:=by
 unfold atC at h;split at h
 ·rename_i hf;have hl:x.cps.toList.length=x.length:=by simp[Str.length]
  split at h
  ·rename_i c e;cases h;refine⟨c,rfl,jaO hf,?_⟩;unfold L2.atI ixN;rw[hl];by_cases h0:0<=i
   ·rw[if_pos h0]at e;have hlt:=(List.getElem?_eq_some_iff.mp e).1;rw[if_pos h0,if_pos (by omega)]
    exact e
   ·rw[if_neg h0]at e;split at e
    ·rename_i h1;rw[if_neg h0,if_pos (by omega)]
     exact e
    ·cases e
  ·cases h
 ·cases h
theorem jj7 {x y:D}{c:Nat}:jfP x y≠.err c:=by
 intro e;unfold jfP at e;split at e
 ·exact jin e
 ·exact jin e
 ·exact jmo e
 ·cases e
noncomputable def jph (x y:D):R Vl:=(jfP x y).bind fun d=>.ok (.dat d)
theorem jpR {Z:Kn}{X:Cx}(hK:X.K=Z.K):IxR X (rD2 Z jph):=by
 intro value slice pins s σ H x y v u Q I rx ry h hs;obtain⟨F,dx,dy,w,dm,bx,by_,hg,h⟩:=h;refine jn6 value slice pins s σ H x y v u Q I rx ry ?_ hs;obtain⟨d,e,hg⟩:=R.bind_ok hg;cases hg;cases dx with
 |tup ds=>
  cases dy with
  |int i=>
   obtain⟨a,vs,rfl,ft,r⟩:=bx.tup;cases by_.int;obtain⟨w,e1,rp⟩:=jlh r e;exact .inr (.inl ⟨a,vs,i,w,rfl,rfl,(by rw[hK];exact ft.sq),e1,h.sc dm rp⟩)
  |_=>cases e
 |lst ds=>
  cases dy with
  |int i=>
   obtain⟨a,vs,rfl,ft,r⟩:=bx.lst;cases by_.int;obtain⟨w,e1,rp⟩:=jlh r e;exact .inl ⟨a,vs,i,w,rfl,rfl,(by rw[hK];exact ft),e1,h.sc dm rp⟩
  |_=>cases e
 |str z=>
  cases dy with
  |int i=>
   cases bx.str;cases by_.int;obtain⟨c,rfl,e1,e2⟩:=jow e;exact .inr (.inr ⟨z,i,c,rfl,rfl,e1,e2,h.sc dm (by simp only[Rep])⟩)
  |_=>cases e
 |_=>cases e
theorem jj8 {i:Expr}(h:∀a b c d,i≠.Slice a b c d):jhv i:=fun o v=>by
 cases i <;> first | rfl | exact absurd rfl (h _ _ _ _)
theorem jf2 (n d:Nat)(o:Option Int):sIx n d o=HT.sIx n d o:=by cases o <;> rfl
theorem jio {Z:Kn}{F:Addr->Prop}{H:Hp}{ds:List D}{vs:List V}(r:Reps Z F H ds vs)(lo hi:Option Int):Reps Z F H (cut ds lo hi) (jk3 vs lo hi):=by
 unfold cut jk3;rw[jf2,jf2,r.length];exact(r.drop _).take _
inductive rD3_I (Z:Kn) (g:D->Option Int->Option Int->R Vl) (x:V) (lo:Option Int) (hi:Option Int) (H:Hp) (Q:VK):Prop
 |mk (F:_) (dx:_) (w:_):(Dom F H)->(RepB Z F H dx x)->(g dx lo hi=.ok w)->(PostV Z F H Q w)->rD3_I Z g x lo hi H Q
noncomputable def rD3 (Z:Kn)(g:D->Option Int->Option Int->R Vl):V->Option Int->Option Int->Hp->VK->Prop:=fun x lo hi H Q=>rD3_I Z g x lo hi H Q
theorem jpS {Z:Kn}{X:Cx}(hK:X.K=Z.K):SlR X (rD3 Z jhi):=by
 intro pins s σ H x v vl vu lo hi sl Q I rx hs pl pu h;obtain⟨F,dx,w,dm,bx,hg,h⟩:=h;by_cases hstr:∃z,dx=.str z
 ·obtain⟨z,rfl⟩:=hstr;obtain⟨hf,rfl⟩:=jbh hg;cases bx.str;exact joa pins s σ H _ v vl vu lo hi sl Q I rx hs pl pu ⟨z,rfl,jaO hf,h.sc dm (by simp only[Rep])⟩
 refine(sl_tup.or (sl_tupW.or jlQ)) pins s σ H x v vl vu lo hi sl Q I rx hs pl pu ?_;cases dx with
 |tup ds=>
  cases hg;obtain⟨a,vs,rfl,ft,r⟩:=bx.tup;by_cases hw:HT.sIx vs.length 0 lo=0/\HT.sIx vs.length vs.length hi=vs.length
  ·refine .inr (.inl ⟨a,vs,rfl,(by rw[hK];exact ft.sq),hw,?_⟩)
   have e:cut ds lo hi=ds:=by
    unfold cut;rw[jf2,jf2,r.length,hw.1,hw.2,<-r.length];simp
   rw[e]at h;exact h.tupOld dm ft r
  ·exact .inl ⟨a,vs,rfl,(by rw[hK];exact ft.sq),hw,h.tup dm (jio r lo hi)⟩
 |lst ds=>
  cases hg;obtain⟨a,vs,rfl,ft,r⟩:=bx.lst;exact .inr (.inr ⟨a,vs,rfl,(by rw[hK];exact ft),h.lst dm (jio r lo hi)⟩)
 |str z=>exact absurd ⟨z,rfl⟩ hstr
 |_=>cases hg
inductive tO_I (Z:Kn) (X:Cx) (B:Bs) (f:Rho->R (Option Int×Rho)) (σ:L2.St) (H:L2.Hp) (Q:(Option Int->L2.Hp->Prop)):Prop
 |mk (F:_) (ρ:_):(SR Z B F H σ ρ)->(Ok (XW Z X σ ρ H) (f ρ) fun o=>∀F' H',Go σ ρ F H σ o.2 F' H'->SR Z B F' H' σ o.2->Q o.1 H')->tO_I Z X B f σ H Q
noncomputable def tO (Z:Kn)(X:Cx)(B:Bs)(f:Rho->R (Option Int×Rho)):TO:=fun σ H Q=>tO_I Z X B f σ H Q
section
variable {G:Calls}{U:Nat->Nat->Bool}{Z:Kn}{X:Cx}{B:Bs}
theorem jox:PO X none (tO Z X B (evO G U .none)):=PO.imp jlN fun σ H Q ⟨F,ρ,r,q⟩=>by
 simp only[evO]at q;exact q F H Go.refl r
theorem joy {e:Expr}{E':E}(h:PE X e (tE Z X B (evE G U E'))):PO X (some e) (tO Z X B (evO G U (.some E'))):=PO.imp (jlO h) fun σ H Q ⟨F,ρ,r,q⟩=>by
 simp only[evO]at q;refine⟨F,ρ,r,q.bind.imp (fun _ w=>w) fun p h1 v F' H' g r' rp=>?_⟩;obtain⟨w,ρ'⟩:=p;cases w with
 |dat d=>
  cases d with
  |int i=>
   have rp:Rep Z F' H' (.int i) v:=rp;simp only[Rep]at rp;exact⟨i,rp,h1 F' H' g r'⟩
  |_=>exact False.elim h1
 |_=>exact False.elim h1
theorem jj9 {x:D}{l h:Option Int}{c:Nat}:jhi x l h≠.err c:=by cases x <;> (intro z;first | cases z | (simp only[jhi]at z;split at z <;> cases z))
theorem jip {x:D}{l h:Option Int}{i:Nat}:jhi x l h≠.ok (.slot i):=by cases x <;> (intro z;first | cases z | (simp only[jhi]at z;split at z <;> cases z))
theorem tE.slice {σ:L2.St}{H:Hp}{Q:VK}{fa:Rho->R (Vl×Rho)}{fl fh:Rho->R (Option Int×Rho)}(h:tE Z X B (fun ρ=>(fa ρ).bind fun p=>(fl p.2).bind fun l=>(fh l.2).bind fun h=>(deref p.1 h.2).bind fun x=>(jhi x l.1 h.1).bind fun v=>.ok (v,h.2)) σ H Q):tSl (rD3 Z jhi) (tE Z X B fa) (tO Z X B fl) (tO Z X B fh) σ H Q:=by
 obtain⟨F,ρ,r,h⟩:=h;refine⟨F,ρ,r,h.bind.imp (fun _ w=>w) fun p h1 v F1 H1 g1 r1 rp=>⟨F1,p.2,r1,h1.bind.imp (fun c w=>w.mono g1) fun l h2 F2 H2 g2 r2=>⟨F2,l.2,r2,h2.bind.imp (fun c w=>w.mono (g1.trans g2)) fun u h3 F3 H3 g3 r3=>?_⟩⟩⟩;obtain⟨x,ex,h4⟩:=h3.bind.pure fun c=>jaL;obtain⟨w,ew,h5⟩:=h4.bind.pure fun c=>jj9;exact⟨F3,x,w,r3.dom,ja0 (rp.go r1 (g2.trans g3)) r3 ex,ew,Post.toV h5 ((g1.trans g2).trans g3) r3 fun i z=>jip (by rw[ew,z])⟩
end
end DJ
namespace DJ
open PySem PySem.Spec PyProof.Rows L2
section
variable {Z:Kn}{B:Bs}{F F1 F2:Addr->Prop}{H H0 H1 H2:Hp}{σ σ1 σ2:L2.St}{ρ ρ1 ρ2:Rho}
theorem jdQ:∀{lk:List Nat}{ρ:Rho}{j:Nat}{o:O}{f k:Bool},(unlk lk ρ)[j]?=some (.own o f k)->ρ[j]?=some (.own o f k)\/(j∈lk/\k=false/\∃k',ρ[j]?=some (.own o f k'))
 |[],_,_,_,_,_,h=>.inl h
 |i::r,ρ,j,o,f,k,h=>by
  simp only[unlk]at h;have one:∀{k1:Bool},(match ρ[i]? with | some (.own o f _)=>ρ.set i (.own o f false) | _=>ρ)[j]?=some (.own o f k1)->ρ[j]?=some (.own o f k1)\/(j=i/\k1=false/\∃k',ρ[j]?=some (.own o f k')):=fun {k1} h=>by
   split at h
   ·rename_i o' f' k' e;rw[jrv]at h;by_cases hij:i=j
    ·subst hij;rw[if_pos rfl]at h;split at h
     ·cases h;exact .inr ⟨rfl,rfl,k',e⟩
     ·cases h
    ·rw[if_neg hij]at h;exact .inl h
   ·exact .inl h
  rcases jdQ h with h | ⟨h1,h2,k',h3⟩
  ·rcases one h with h | ⟨h1,h2,h3⟩
   ·exact .inl h
   ·exact .inr ⟨by simp[h1],h2,h3⟩
  ·rcases one h3 with h3 | ⟨_,_,h3⟩
   ·exact .inr ⟨jrr _ h1,h2,k',h3⟩
   ·exact .inr ⟨jrr _ h1,h2,h3⟩
theorem SR.unlk:∀{lk:List Nat}{ρ:Rho},SR Z B F H σ ρ->SR Z B F H σ (unlk lk ρ)
 |[],_,r=>r
 |i::lk,ρ,r=>by
  simp only[DJ.unlk];refine SR.unlk (lk:=lk) ?_;split
  ·rename_i o f k e;exact r.lock e false
  ·exact r
theorem Ow.unlk {lk:List Nat}{b:Addr}(h:Ow σ (unlk lk ρ) b):Ow σ ρ b:=by
 obtain⟨i,o,f,k,h1,h2⟩:=h;rcases jdQ h1 with h | ⟨_,_,k',h⟩
 ·exact⟨i,o,f,k,h,h2⟩
 ·exact⟨i,o,f,k',h,h2⟩
theorem Go.unlk {lk:List Nat}(g:Go σ ρ F H σ2 ρ2 F2 H2)(hl:∀i∈lk,∃o f,ρ[i]?=some (.own o f false)):Go σ ρ F H σ2 (unlk lk ρ2) F2 H2:=by
 refine⟨g.stay,g.sub,g.new,fun j o f k b h1 h2=>?_,g.there⟩;rcases jdQ h1 with h | ⟨hj,hk,k',h⟩
 ·exact g.ow j o f k b h h2
 ·rcases g.ow j o f k' b h h2 with ⟨o0,k0,a,c,d⟩ | q
  ·obtain⟨o1,f1,e⟩:=hl j hj;rw[a]at e;cases e;exact .inl ⟨o0,false,a,c,fun z=>by cases z⟩
  ·exact .inr q
structure Wlk (Z:Kn)(B:Bs)(F:Addr->Prop)(H:Hp)(σ:L2.St)(ρ ρ2:Rho)(v:V)(xs:List D)(lk:List Nat)(ls:List Addr)(b:Bool)(a:Addr)(vs:List V):Prop where
 eq:v=.ref a
 sq:SqB Z.K b H a vs
 rp:Reps Z F H xs vs
 sr:SR Z B F H σ ρ2
 go:Go σ ρ F H σ ρ2 F H
 on:∀l∈ls,(∃o,H l=some o)/\¬Mb σ ρ2 l
 lk:∀i∈lk,∃o f,ρ[i]?=some (.own o f false)
 up:∀(i:Nat) o f,ρ2[i]?=some (.own o f false)->ρ[i]?=some (.own o f false)
 good:∀F' H',GK F H ls F' H'->SqB Z.K b H' a vs/\Reps Z F' H' xs vs
theorem SR.notMb (r:SR Z B F H σ ρ){i:Nat}{o:O}{f:Bool}{l:Addr}(e:ρ[i]?=some (.own o f true))(hl:σ[i]?=some (some (.ref l))):¬Mb σ ρ l:=by
 rintro⟨j,o',f',h1,h2⟩;by_cases hij:i=j
 ·subst hij;rw[e]at h1;cases h1
 ·exact r.one i j _ _ _ _ _ _ l hij e h1 hl h2
theorem jiq {w:Vl}{v:V}{xs:List D}{lk:List Nat}(h:RV Z F H0 H σ ρ w v)(r:SR Z B F H σ ρ)(hi:jbw w ρ=.ok (xs,lk,ρ2)):∃ls b a vs,Wlk Z B F H σ ρ ρ2 v xs lk ls b a vs:=by
 cases w with
 |dat d=>
  obtain⟨ys,hs,hi⟩:=R.bind_ok hi;cases hi;have h:Rep Z F H d v:=h;cases d with
  |tup ds=>
   cases hs;simp only[Rep]at h;obtain⟨a,vs,rfl,ft,rs⟩:=h;exact⟨[],false,a,vs,rfl,.inr ⟨rfl,ft.sq⟩,rs,r,Go.refl,fun _ z=>absurd z (by simp),fun _ z=>absurd z (by simp),fun _ _ _ h=>h,fun F' H' g=>⟨.inr ⟨rfl,(ft.keep g.keep).sq⟩,rs.mono g.keep⟩⟩
  |lst ds=>
   cases hs;simp only[Rep]at h;obtain⟨a,vs,rfl,ft,rs⟩:=h;exact⟨[],true,a,vs,rfl,.inl ⟨rfl,ft.sq⟩,rs,r,Go.refl,fun _ z=>absurd z (by simp),fun _ z=>absurd z (by simp),fun _ _ _ h=>h,fun F' H' g=>⟨.inl ⟨rfl,(ft.keep g.keep).sq⟩,rs.mono g.keep⟩⟩
  |_=>cases hs
 |tmp o=>
  cases o with
  |l ys=>
   cases hi;obtain⟨l,rfl,h1,h2,h3,us,h4,h5⟩:=h;refine⟨[l],true,l,us,rfl,.inl ⟨rfl,SqL.of h4⟩,h5,r,Go.refl,fun l' z=>?_,fun _ z=>absurd z (by simp),fun _ _ _ h=>h,fun F' H' g=>⟨.inl ⟨rfl,SqL.of ((g.ls l (by simp)).trans h4)⟩,h5.mono g.keep⟩⟩
   have e:l'=l:=by simpa using z
   subst e;exact⟨⟨_,h4⟩,fun m=>h2 m.ow⟩
  |d ks vs=>cases hi
 |slot i=>
  have h:σ[i]?=some (some v):=h;simp only[jbw]at hi;split at hi
  ·rename_i ys f e;cases hi;obtain⟨l,e1,e2,⟨us,h4,h5⟩,_⟩:=r.own i _ _ _ e;rw[h]at e1;cases e1;refine⟨[l],true,l,us,rfl,.inl ⟨rfl,SqL.of h4⟩,h5,r,Go.refl,fun l' z=>?_,fun _ z=>absurd z (by simp),fun _ _ _ h=>h,fun F' H' g=>⟨.inl ⟨rfl,SqL.of ((g.ls l (by simp)).trans h4)⟩,h5.mono g.keep⟩⟩
   have q:l'=l:=by simpa using z
   subst q;exact⟨⟨_,h4⟩,r.notMb e h⟩
  ·rename_i ys f e;cases hi;obtain⟨l,e1,e2,⟨us,h4,h5⟩,_⟩:=r.own i _ _ _ e;rw[h]at e1;cases e1;have hlt:i < ρ.length:=(List.getElem?_eq_some_iff.mp e).1;have r2:=r.lock e true;refine⟨[l],true,l,us,rfl,.inl ⟨rfl,SqL.of h4⟩,h5,r2,Go.lock e,fun l' z=>?_,fun j z=>?_,fun j o f' hj=>?_,fun F' H' g=>⟨.inl ⟨rfl,SqL.of ((g.ls l (by simp)).trans h4)⟩,h5.mono g.keep⟩⟩
   ·have q:l'=l:=by simpa using z
    subst q;exact⟨⟨_,h4⟩,r2.notMb (List.getElem?_set_self hlt) h⟩
   ·have q:j=i:=by simpa using z
    subst q;exact⟨_,_,e⟩
   ·rw[jrv]at hj;split at hj
    ·(first | cases hj | (split at hj <;> cases hj))
    ·exact hj
  ·cases hi
theorem jgI {w:Vl}{c:Nat}:jbw w ρ≠.err c:=by
 cases w with
 |dat d=>cases d <;> (intro z;cases z)
 |tmp o=>cases o <;> (intro z;cases z)
 |slot i=>
  simp only[jbw];split <;> (intro z;cases z)
end
structure ItR (Z:Kn)(B:Bs)(σ:L2.St)(ρ:Rho)(F:Addr->Prop)(H:Hp)(ρ1:Rho)(F1:Addr->Prop)(H1:Hp)(lk:List Nat)(ls:List Addr):Prop where
 go:Go σ ρ F H σ ρ1 F1 H1
 sr:SR Z B F1 H1 σ ρ1
 un:∀σ2 ρ2 F2 H2,Go σ ρ1 F1 H1 σ2 ρ2 F2 H2->Go σ ρ F H σ2 (unlk lk ρ2) F2 H2
 on:∀l∈ls,(∃o,H1 l=some o)/\¬Mb σ ρ1 l
inductive tI_I (Z:Kn) (X:Cx) (B:Bs) (f:Rho->R (List D×List Nat×Rho)) (σ:L2.St) (H:L2.Hp) (R:(L2.It->L2.Hp->Prop)):Prop
 |mk (F:_) (ρ:_):(SR Z B F H σ ρ)->(Ok (XW Z X σ ρ H) (f ρ) fun t=>∀F' H' J ls,ItR Z B σ ρ F H t.2.2 F' H' t.2.1 ls->ItmG Z (GK F' H' ls) J t.1->R J H')->tI_I Z X B f σ H R
noncomputable def tI (Z:Kn)(X:Cx)(B:Bs)(f:Rho->R (List D×List Nat×Rho)):TI:=fun σ H R=>tI_I Z X B f σ H R
theorem joz {X:Cx}{tg:Expr}{pins:List (Addr×Obj)}{σ:L2.St}{H1:Hp}{s1:Shared}{R:L2.It->Hp->Prop}{a:Addr}(I1:Inv X pins σ H1 s1)(q1:(∃xs,SqL X.K H1 a xs/\(xs.length<=sizeLine->R (Itl X.K a) H1))\/(∃xs,SqT X.K H1 a xs/\(xs.length<=sizeLine->R (Itt X.K a) H1))) :
  wpAny (model X.prog X.w) X.A (pyIter (.ref a)) (PIE X pins σ tg R) X.xe s1:=by
 rcases q1 with ⟨xs,hq,q⟩ | ⟨xs,hq,q⟩
 ·obtain⟨its,rv,p,hz⟩:=I1.list hq;refine wpAny_pyIter_list p.isList ⟨s1.heap.objs.size,[s1.heap.objs.size],_,_,H1,rfl,I1.kept (t':=s1.toks) fun b o e=>jrX _ e,jho a _,⟨_,jrZ _ rfl,rfl,rfl⟩,fun b hb=>?_,q hz⟩;obtain rfl:b=s1.heap.objs.size:=by simpa using hb
  exact I1.fpOk (jr1 _) (I1.hok.fresh (jr1 _))
 ·obtain⟨its,rv,p,hz⟩:=I1.tuple hq;refine wpAny_pyIter_tuple (show s1.heap.IsTuple a its.toArray from p) ⟨s1.heap.objs.size,[s1.heap.objs.size],_,_,H1,rfl,I1.kept (t':=s1.toks) fun b o e=>jrX _ e,jgq a _,⟨_,jrZ _ rfl,rfl,rfl⟩,fun b hb=>?_,q hz⟩;obtain rfl:b=s1.heap.objs.size:=by simpa using hb
  exact I1.fpOk (jr1 _) (I1.hok.fresh (jr1 _))
noncomputable def jpT (K:Frag)(tl:TE):TI:=fun σ H R=>tl σ H fun x H1=>(∃z,x=.str z/\R (Itx z) H1)\/∃a,x=.ref a/\((∃xs,SqL K H1 a xs/\(xs.length<=sizeLine->R (Itl K a) H1))\/(∃xs,SqT K H1 a xs/\(xs.length<=sizeLine->R (Itt K a) H1)))
theorem jmp {X:Cx}{tg l:Expr}{tl:TE}(hl:PE X l tl):PI X tg l (jpT X.K tl):=by
 intro pins s σ H R I h;refine thn (hl pins s σ H _ I h) fun v s1 hzz=>?_;obtain⟨x,H1,I1,r1,q1⟩:=hzz;rcases q1 with ⟨z,rfl,q⟩ | ⟨a,rfl,q1⟩
 ·obtain⟨t,rfl⟩:=r1;have fp:∀b∈[s1.heap.objs.size],FpOk X pins H1 b:=fun b hb=>by
   obtain rfl:b=s1.heap.objs.size:=by simpa using hb
   exact I1.fpOk (jr1 _) (I1.hok.fresh (jr1 _))
  cases ha:z.cps.all (· < 128)
  ·exact wpAny_pyIter_wide ha ⟨s1.heap.objs.size,[s1.heap.objs.size],_,_,H1,rfl,I1.kept (t':=s1.toks) fun b o e=>jrX _ e,jeg (fun A' h=>Walks.strWide h _ z t) (fun _ _ _ _ _ st q=>wpAny_pyIter_striter_wide st q) (by decide),⟨_,jrZ _ rfl,rfl,rfl⟩,fp,q⟩
  ·exact wpAny_pyIter_ascii ha ⟨s1.heap.objs.size,[s1.heap.objs.size],_,_,H1,rfl,I1.kept (t':=s1.toks) fun b o e=>jrX _ e,jeg (fun A' h=>Walks.strAscii h _ z t) (fun _ _ _ _ _ st q=>wpAny_pyIter_striter_ascii st q) (by decide),⟨_,jrZ _ rfl,rfl,rfl⟩,fp,q⟩
 ·cases r1;exact joz I1 q1
theorem jka {Z:Kn}{G:(Addr->Prop)->Hp->Prop}{z:Str}(hn:z.length<=sizeLine):ItmG Z G (Itx z) (z.cps.toList.map fun c=>D.str ⟨#[c]⟩):=by
 have hl:(z.cps.toList.map fun c=>D.str ⟨#[c]⟩).length=z.cps.size:=by simp
 refine⟨by rw[hl];exact hn,fun F H g dm=>⟨fun i x hx=>?_,hl⟩⟩
 rw[jrw]at hx;cases e:z.cps.toList[i]? with
 |none=>rw[e]at hx;cases hx
 |some c=>
  rw[e]at hx;cases hx;have e2:z.cps[i]?=some c:=by rw[<-Array.getElem?_toList];exact e
  refine⟨(Array.getElem?_eq_some_iff.mp e2).1,fun u H2 y=>?_⟩;obtain⟨rfl,c',e3,rfl⟩:=y;rw[e2]at e3;cases e3;exact⟨F,Ext.refl dm,by simp only[Rep]⟩
section
variable {T:Tab}{G:Calls}{U:Nat->Nat->Bool}{Z:Kn}{m:Nat}{X:Cx}{sc:List (Str×NameKind)}{B:Bs}
theorem ItR.plain {σ:L2.St}{ρ ρ1:Rho}{F F1:Addr->Prop}{H H1:Hp}(g:Go σ ρ F H σ ρ1 F1 H1)(r:SR Z B F1 H1 σ ρ1):ItR Z B σ ρ F H ρ1 F1 H1 [] []:=⟨g,r,fun σ2 ρ2 F2 H2 g2=>g.trans g2,fun _ z=>absurd z (by simp)⟩
theorem jkb (hK:X.K=Z.K){σ:L2.St}{ρ ρ1:Rho}{F F':Addr->Prop}{H H':Hp}{R:L2.It->Hp->Prop}{w:Vl}{v:V}
  (h1:Ok (XW Z X σ ρ H) (jbw w ρ1) fun t=>∀F' H' J ls,ItR Z B σ ρ F H t.2.2 F' H' t.2.1 ls->ItmG Z (GK F' H' ls) J t.1->R J H') (g:Go σ ρ F H σ ρ1 F' H') (r':SR Z B F' H' σ ρ1) (rv:RV Z F' H H' σ ρ1 w v) :
  ∃a,v=.ref a/\((∃xs,SqL X.K H' a xs/\(xs.length<=sizeLine->R (Itl X.K a) H'))\/(∃xs,SqT X.K H' a xs/\(xs.length<=sizeLine->R (Itt X.K a) H'))):=by
 obtain⟨t,ht,h2⟩:=h1.pure fun c=>jgI;obtain⟨xs,lk,ρ2⟩:=t;obtain⟨ls,b,a,vs,W⟩:=jiq rv r' ht;have ir:ItR Z B σ ρ F H ρ2 F' H' lk ls:=⟨g.trans W.go,W.sr,fun σ2 ρ3 F3 H3 g3=>g.trans ((W.go.trans g3).unlk W.lk),W.on⟩;refine⟨a,W.eq,?_⟩;rw[hK];rcases W.sq with ⟨rfl,sq⟩ | ⟨rfl,sq⟩
 ·refine .inl ⟨vs,sq,fun hz=>h2 F' H' _ ls ir (jjQ (vs:=vs) (by rw[W.rp.length];exact hz) fun F2 H2 gk _=>?_)⟩
  obtain⟨s1,s2⟩:=W.good F2 H2 gk;rcases s1 with ⟨_,s1⟩ | ⟨z,_⟩
  ·exact⟨s1,s2⟩
  ·cases z
 ·refine .inr ⟨vs,sq,fun hz=>h2 F' H' _ ls ir (jl4 (vs:=vs) (by rw[W.rp.length];exact hz) fun F2 H2 gk _=>?_)⟩
  obtain⟨s1,s2⟩:=W.good F2 H2 gk;rcases s1 with ⟨z,_⟩ | ⟨_,s1⟩
  ·cases z
  ·exact⟨s1,s2⟩
theorem joA (hK:X.K=Z.K){tg l:Expr}{f:Rho->R (Vl×Rho)}(hl:PE X l (tE Z X B f)):PI X tg l (tI Z X B fun ρ=>(f ρ).bind fun p=>jbB p.1 p.2):=by
 refine PI.imp (jmp hl) fun σ H R hzz=>?_;obtain⟨F,ρ,r,q⟩:=hzz;refine⟨F,ρ,r,q.bind.imp (fun _ w=>w) fun p h1 v F' H' g r' rv=>?_⟩;obtain⟨w,ρ1⟩:=p;by_cases hs:∃z,w=.dat (.str z)
 ·obtain⟨z,rfl⟩:=hs;have h1:Ok (XW Z X σ ρ H) (if fits z.length then .ok (z.cps.toList.map (fun c=>D.str ⟨#[c]⟩),([]:List Nat),ρ1)else .stk) _:=h1;have rv:Rep Z F' H' (.str z) v:=rv;simp only[Rep]at rv;split at h1
  ·exact .inl ⟨z,rv,h1 F' H' _ [] (ItR.plain g r') (jka (jaO ‹_›))⟩
  ·exact False.elim h1
 ·have e:jbB w ρ1=jbw w ρ1:=by
   unfold jbB;split
   ·exact absurd ⟨_,rfl⟩ hs
   ·rfl
  have h1:Ok (XW Z X σ ρ H) (jbB w ρ1) _:=h1;rw[e]at h1;exact .inr (jkb hK h1 g r' rv)
theorem jir {x:D}{c:Nat}:jdd x≠.err c:=by
 cases x <;> (intro z;simp only[jdd]at z;try split at z) <;> cases z
theorem jmq {tg a:Expr}{p pos:Pos}{f:Rho->R (Vl×Rho)}(hg:Gl X "range")(hm:X.mg "range"=none)(h:PE X a (tE Z X B f))(ns:∀e q,a≠.Starred e q) :
  PI X tg (.Call (.Name "range" p) [a] [] pos) (tI Z X B fun ρ=>(f ρ).bind fun p=>(deref p.1 p.2).bind fun x=>(jdd x).bind fun xs=>.ok (xs,[],p.2)):=by
 refine PI.imp (jhp hg hm (jaJ h jbu (jaf ns)) (jaf ns)) fun σ H R hzz=>?_;obtain⟨F,ρ,r,q⟩:=hzz;refine⟨F,ρ,r,q.bind.imp (fun _ w=>w) fun p h1 v F' H' g r' rv=>?_⟩;obtain⟨x,ex,h2⟩:=h1.bind.pure fun c=>jaL;obtain⟨xs,exs,h3⟩:=h2.bind.pure fun c=>jir;have rb:=ja0 rv r' ex;cases x with
 |int n=>
  simp only[jdd]at exs;split at exs
  ·rename_i hn;cases exs;cases rb.int;exact⟨n,rfl,by omega,by omega,h3 F' H' _ [] (ItR.plain g r') (jl6 (by rw[sizeLine_eq];omega))⟩
  ·cases exs
 |_=>cases exs
end
end DJ
namespace DJ
open PySem PySem.Spec PyProof.Rows L2
noncomputable def Ty.py:Ty->String
 |.int=>"int" | .bool=>"bool" | .str=>"str" | .tuple=>"tuple" | .list=>"list" | .dict=>"dict" | .exc _=>"?" | .verr=>"ValueError"
noncomputable def clV (Z:Kn):Ty->Option V
 |.exc k=>(Z.cl[k]?).map V.ref
 |t=>some (.ty t.py)
noncomputable def jnt (Z:Kn):List Ty->Option (List V):=mapO (clV Z)
structure Ecs (U:Nat->Nat->Bool)(Z:Kn):Prop where
 ecl:∀C∈Z.cl,ECls Z.K C
 sub:∀(i j:Nat) (C D:Addr),Z.cl[i]?=some C->Z.cl[j]?=some D->PySem.W.mroIn Z.K C (.ref D)=some (U i j)
theorem XD.ecs {T:Tab}{G:Calls}{U:Nat->Nat->Bool}{Z:Kn}{n:Nat}{X:Cx}{sc:List (Str×NameKind)}(D:XD T G U Z n X sc):Ecs U Z:=⟨by rw[<-D.hK];exact D.ecl,by rw[<-D.hK];exact D.sub⟩
section
variable {U:Nat->Nat->Bool}{Z:Kn}
theorem jmr (S:Ecs U Z){i j:Nat}{C D:Addr}(hi:Z.cl[i]?=some C)(hj:Z.cl[j]?=some D):PySem.W.kitOne Z.K (.ref C) (.ref D)=some (U i j):=by
 have hs:=S.sub i j C D hi hj;have e':=S.ecl D (jrD hj);unfold PySem.W.kitOne;split
 ·rename_i z;cases beq_iff_eq.mp z;rw[(S.ecl C (jrD hi)).ms]at hs;exact hs
 ·unfold PySem.W.kitCls;simp only;rw[if_pos (by rw[jr6];exact⟨e'.cd,by rw[e'.ty];rfl⟩)]
  exact hs
theorem jkc (S:Ecs U Z){i:Nat}{C:Addr}(hi:Z.cl[i]?=some C):PySem.W.kitOne Z.K (.ref C) (.type "ValueError")=some true:=by
 have e:=S.ecl C (jrD hi);unfold PySem.W.kitOne;split
 ·rfl
 ·unfold PySem.W.kitCls;simp only;rw[if_pos (by decide +kernel)]
  exact e.mv
noncomputable def nmT:Ty->String
 |.int=>"int"
 |.bool=>"bool"
 |.str=>"str"
 |.tuple=>"tuple"
 |.list=>"list"
 |_=>"dict"
noncomputable def jre:Ty->Bool
 |.exc _=>false
 |.verr=>false
 |_=>true
theorem jcV {K:Frag}{t:Value}{d:D}(ht:∀k,jre k=true->PySem.W.kitOne K t (.type (nmT k))=some (tyB d k))(k:Ty)(c:V)(cv:Value)(b:Bool)(hb:tyP d k=.ok b)(hc:clV Z k=some c)(rc:RelV c cv):PySem.W.kitOne K t cv=some b:=by
 cases k with
 |exc _=>cases hb
 |verr=>cases hb
 |int=>cases hb;cases hc;cases (show cv=Value.type _ from rc);exact ht .int rfl
 |bool=>cases hb;cases hc;cases (show cv=Value.type _ from rc);exact ht .bool rfl
 |str=>cases hb;cases hc;cases (show cv=Value.type _ from rc);exact ht .str rfl
 |tuple=>cases hb;cases hc;cases (show cv=Value.type _ from rc);exact ht .tuple rfl
 |list=>cases hb;cases hc;cases (show cv=Value.type _ from rc);exact ht .list rfl
 |dict=>cases hb;cases hc;cases (show cv=Value.type _ from rc);exact ht .dict rfl
theorem joB (S:Ecs U Z){X:Cx}(hK:X.K=Z.K){pins:List (Addr×Obj)}{s:Shared}{σ:L2.St}{F:Addr->Prop}{H:Hp}{d:D}{x:V}{u:Value}(I:Inv X pins σ H s)(rp:RepB Z F H d x)(rx:RelV x u) :
  ∃(t:Value) (P:Heap->Prop),PySem.W.KitX X.K u t P/\P s.heap/\u≠.builtin "__main__.__loader__#opaque"/\∀(k:Ty) (c:V) (cv:Value) (b:Bool),jns U d k=.ok b->clV Z k=some c->RelV c cv->PySem.W.kitOne X.K t cv=some b:=by
 cases d with
 |non=>
  cases rp.non;cases (show u=Value.none from rx);refine⟨_,_,PySem.W.kitx_none,True.intro,(fun z=>nomatch z),jcV fun k hk=>by cases k <;> first | rfl | cases hk⟩
 |bl y=>
  cases rp.bl;cases (show u=Value.bool y from rx);refine⟨_,_,PySem.W.kitx_bool,True.intro,(fun z=>nomatch z),jcV fun k hk=>by cases k <;> first | rfl | cases hk⟩
 |int i=>
  cases rp.int;obtain⟨t',rfl⟩:=(show ∃t,u=Value.int i t from rx);refine⟨_,_,PySem.W.kitx_int,True.intro,(fun z=>nomatch z),jcV fun k hk=>by cases k <;> first | rfl | cases hk⟩
 |str y=>
  cases rp.str;obtain⟨t',rfl⟩:=(show ∃t,u=Value.str y t from rx);refine⟨_,_,PySem.W.kitx_str,True.intro,(fun z=>nomatch z),jcV fun k hk=>by cases k <;> first | rfl | cases hk⟩
 |tup ds=>
  obtain⟨a,vs,rfl,ft,r⟩:=rp.tup;cases (show u=Value.ref a from rx);obtain⟨its,_,p,_⟩:=I.tuple (by rw[hK];exact ft.sq)
  obtain⟨o,h1,h2,_⟩:=p;refine⟨_,_,PySem.W.kitx_tuple,⟨o,h1,h2⟩,(fun z=>nomatch z),jcV fun k hk=>by cases k <;> first | rfl | cases hk⟩
 |lst ds=>
  obtain⟨a,vs,rfl,ft,r⟩:=rp.lst;cases (show u=Value.ref a from rx);obtain⟨its,_,⟨o,n,h1,h2,_⟩,_⟩:=I.list (by rw[hK];exact ft)
  refine⟨_,_,PySem.W.kitx_list,⟨o,h1,h2⟩,(fun z=>nomatch z),jcV fun k hk=>by cases k <;> first | rfl | cases hk⟩
 |dct ks vs=>
  obtain⟨a,rfl,_,_,e⟩:=rp.dct;cases (show u=Value.ref a from rx);obtain⟨_,_,vs,_,p⟩:=(show ObjOk X.prog X.w H s.heap a (.dK [])from I.hok a _ e);obtain⟨o,es,ep,h1,h2,_⟩:=p;refine⟨_,_,PySem.W.kitx_dict,⟨o,h1,h2.1⟩,(fun z=>nomatch z),jcV fun k hk=>by cases k <;> first | rfl | cases hk⟩
 |exc c=>
  have rp:=rp.flat (fun o z=>by cases o <;> cases z)
  simp only[Rep]at rp;obtain⟨a,C,rfl,_,hC,e⟩:=rp;cases (show u=Value.ref a from rx);obtain⟨⟨o,vs,h1,h2,_⟩,_⟩:=(show ObjOk X.prog X.w H s.heap a (.ext (jfR a C))from I.hok a _ e);have ec:=S.ecl C (jrD hC);refine⟨_,_,jjG (K:=X.K) (by rw[hK];exact ec),⟨o,h1,h2⟩,(fun z=>nomatch z),fun k c' cv b hb hc rc=>?_⟩
  rw[hK];cases k with
  |exc j=>
   cases hb;simp only[clV]at hc;cases hj:Z.cl[j]? with
   |none=>rw[hj]at hc;cases hc
   |some D=>
    rw[hj]at hc;cases hc;cases (show cv=Value.ref D from rc);exact jmr S hC hj
  |verr=>
   cases hb;cases hc;cases (show cv=Value.type _ from rc);exact jkc S hC
  |_=>cases hb
theorem jis {K:Frag}{t:Value}{d:D}(h:∀(k:Ty) (c:V) (cv:Value) (b:Bool),jns U d k=.ok b->clV Z k=some c->RelV c cv->PySem.W.kitOne K t cv=some b):∀{ks:List Ty}{cs:List V}{cvs:List Value}{b:Bool},jap U d ks=.ok b->jnt Z ks=some cs->Vals cs cvs->PySem.W.kitAny K t cvs=some b
 |[],cs,cvs,b,h1,h2,h3=>by
  cases h2;cases h3;cases h1;rfl
 |k::ks,cs,cvs,b,h1,h2,h3=>by
  obtain⟨c,cs',e1,e2,rfl⟩:=jaD h2;cases h3 with
  |@cons _ cv _ cvs' r1 r2=>
   simp only[jap]at h1;obtain⟨b1,q1,h1⟩:=R.bind_ok h1;have z:=h k c cv b1 q1 e1 r1;unfold PySem.W.kitAny;rw[z];cases b1 with
   |true=>cases h1;rfl
   |false=>exact jis h h1 e2 r2
theorem jms {d:D}{t:Ty}{c:Nat}:tyP d t≠.err c:=by cases t <;> (intro z;cases z)
theorem jkd {d:D}{t:Ty}{c:Nat}:jns U d t≠.err c:=by
 cases d with
 |exc e=>cases t <;> (intro z;cases z)
 |_=>exact jms
theorem jeq {d:D}{c:Nat}:∀{ks:List Ty},jap U d ks≠.err c
 |[],z=>by cases z
 |k::ks,z=>by
  simp only[jap]at z;cases e:jns U d k with
  |ok b=>
   rw[e,R.bind_ok']at z;cases b with
   |true=>cases z
   |false=>exact jeq z
  |err c'=>exact jkd e
  |stk=>rw[e]at z;cases z
noncomputable def jli (Z:Kn)(ks:List Ty)(y:V)(H:Hp):Prop:=(∃k,ks=[k]/\clV Z k=some y)\/∃p cs,y=.ref p/\jnt Z ks=some cs/\H p=some (.tup cs)
theorem jke (S:Ecs U Z){X:Cx}(hK:X.K=Z.K){ks:List Ty}:CallR X (.builtin "isinstance") (fun xs H Q=>∃x y F d b,xs=[x,y]/\jli Z ks y H/\RepB Z F H d x/\jap U d ks=.ok b/\Q (.bl b) H):=by
 intro pins s σ H xs us Q I r h;obtain⟨x,y,F,d,b,rfl,hy,rp,hb,q⟩:=h;obtain⟨u,w',rfl,rx,ry⟩:=jn1 r;obtain⟨t,P,kx,hp,hne,ho⟩:=joB S hK I rp rx;rcases hy with ⟨k,rfl,hc⟩ | ⟨p,cs,rfl,hc,hH⟩
 ·have hb1:jns U d k=.ok b:=by
   simp only[jap]at hb;obtain⟨b1,e,hb⟩:=R.bind_ok hb;cases b1 <;> cases hb <;> exact e
  exact PySem.W.kia_one kx I.kIn hp (ho k y w' b hb1 hc ry) hne fun tk=>⟨.bl b,H,I.tok tk,rfl,q⟩
 ·cases (show w'=Value.ref p from ry);obtain⟨_,its,rv,o,h1,h2,n,h3⟩:=(show ObjOk X.prog X.w H s.heap p (.tup cs)from I.hok p _ hH);obtain⟨ocls,odict,odata,oslots⟩:=o;cases h2;cases h3;exact PySem.W.kia_tup kx I.kIn hp h1 (jis ho hb hc rv) hne fun tk=>⟨.bl b,H,I.tok tk,rfl,q⟩
end
noncomputable def jpU (T:Tab)(x:Str):Option Ty:=if x="int" then some .int else if x="bool" then some .bool else if x="str" then some .str else if x="tuple" then some .tuple else if x="list" then some .list else if x="dict" then some .dict else if x="ValueError" then some .verr else (jcQ T.excs x).map .exc
section
variable {T:Tab}{G:Calls}{U:Nat->Nat->Bool}{Z:Kn}{m:Nat}{X:Cx}{sc:List (Str×NameKind)}{B:Bs}
theorem joC (D:XD T G U Z m X sc){x:Str}{t:Ty}{pos:Pos}(hk:knd sc x=2)(hb:jc9 x=false)(h:jpU T x=some t):∃v,clV Z t=some v/\PE X (.Name x pos) (tC v):=by
 have blt:∀{n:String}{y:Str},y∈bltNames->bootBuiltins y=some (.type n)->x=y->PE X (.Name x pos) (tC (.ty n)):=fun {n y} h1 h2 e=>by
  subst e;exact jlB (D.gl hk) (D.blt _ h1) h2 rfl (jdw hb).2 (jdw hb).1
 unfold jpU at h;split at h
 ·rename_i e;cases h;exact⟨_,rfl,blt (by decide +kernel) (by decide +kernel) e⟩
 ·split at h
  ·rename_i e;cases h;exact⟨_,rfl,blt (by decide +kernel) (by decide +kernel) e⟩
  ·split at h
   ·rename_i e;cases h;exact⟨_,rfl,blt (by decide +kernel) (by decide +kernel) e⟩
   ·split at h
    ·rename_i e;cases h;exact⟨_,rfl,blt (by decide +kernel) (by decide +kernel) e⟩
    ·split at h
     ·rename_i e;cases h;exact⟨_,rfl,blt (by decide +kernel) (by decide +kernel) e⟩
     ·split at h
      ·rename_i e;cases h;exact⟨_,rfl,blt (by decide +kernel) (by decide +kernel) e⟩
      ·split at h
       ·rename_i e;cases h;exact⟨_,rfl,blt (by decide +kernel) (by decide +kernel) e⟩
       ·cases q:jcQ T.excs x with
        |none=>rw[q]at h;cases h
        |some i=>
         rw[q]at h;cases h;obtain⟨C,h1,h2⟩:=D.excs i x (jaG q);exact⟨.ref C,by simp[clV,h1],jhl (D.gl hk) h2 rfl (jdw hb).1⟩
noncomputable def jkf (T:Tab)(sc:List (Str×NameKind))(e:Expr):Option Ty:=(jf0 e).bind fun x=>gd (jc9 x || knd sc x != 2) (jpU T x)
noncomputable def jit (T:Tab)(sc:List (Str×NameKind))(e:Expr):Option (List Ty):=jlf (jjZ e) (mapO (jkf T sc)) ((jkf T sc e).map fun t=>[t])
theorem jf3 (D:XD T G U Z m X sc){e:Expr}{t:Ty}(h:jkf T sc e=some t):(∃v,clV Z t=some v/\PE X e (tC v))/\∀a p,e≠.Starred a p:=by
 replace h:=jac h;obtain⟨x,hx,h⟩:=h;obtain⟨p,rfl⟩:=jaR hx;replace h:=jal h;obtain⟨hc,h⟩:=h;obtain⟨c1,c2⟩:=jaZ hc;exact⟨joC D (jeo c2) c1 h,fun _ _ z=>by cases z⟩
noncomputable def tCs:List V->TA
 |[]=>jlK
 |v::vs=>jeU (tC v) (tCs vs)
theorem jlj:∀{vs:List V}{σ:L2.St}{H:Hp}{Q:List V->Hp->Prop},Q vs H->tCs vs σ H Q
 |[],_,_,_,q=>q
 |v::vs,σ,H,Q,q=>jlj (vs:=vs) (Q:=fun xs H1=>Q (v::xs) H1) q
theorem jiu (D:XD T G U Z m X sc):∀{es:List Expr}{ks:List Ty},mapO (jkf T sc) es=some ks->∃cs,jnt Z ks=some cs/\PA X es (tCs cs)
 |[],ks,h=>by cases h;exact⟨[],rfl,jbu⟩
 |e::es,ks,h=>by
  obtain⟨k,ks',h1,h2,rfl⟩:=jaD h;obtain⟨⟨v,e1,e2⟩,ns⟩:=jf3 D h1;obtain⟨cs,e3,e4⟩:=jiu D h2;refine⟨v::cs,?_,jaJ e2 e4 (jaf ns)⟩;simp only[jnt,mapO]at e3 ⊢;rw[e1,e3]
theorem jf4:∀{ks:List Ty}{cs:List V},jnt Z ks=some cs->cs.length=ks.length
 |[],cs,h=>by cases h;rfl
 |k::ks,cs,h=>by
  obtain⟨c,cs',_,q2,rfl⟩:=jaD h;rw[jrA,jrA,jf4 q2]
noncomputable def tCA (Z:Kn)(ks:List Ty):TE:=fun σ H Q=>(∀y,jli Z ks y H->Q y H)/\∀p cs,H p=none->jnt Z ks=some cs->Q (.ref p) (upd H p (.tup cs))
theorem jmt (D:XD T G U Z m X sc){e:Expr}{ks:List Ty}(hl:ks.length<=100)(h:jit T sc e=some ks):PE X e (tCA Z ks)/\∀a p,e≠.Starred a p:=by
 replace h:=jbp h;rcases h with ⟨es,he,h⟩ | h
 ·obtain⟨k,p,rfl⟩:=jcR he;obtain⟨cs,e1,e2⟩:=jiu D h;refine⟨PE.imp (jk2 e2) fun σ H Q q=>jlj ⟨?_,fun p hp=>q.2 p cs hp e1⟩,fun _ _ z=>by cases z⟩
  rw[jf4 e1,sizeLine_eq];omega
 ·replace h:=jaq h;obtain⟨t,q,rfl⟩:=h;obtain⟨⟨v,e1,e2⟩,ns⟩:=jf3 D q;exact⟨PE.imp e2 fun σ H Q z=>z.1 v (.inl ⟨t,rfl,e1⟩),ns⟩
theorem jmu (D:XD T G U Z m X sc){a e:Expr}{E1:E}{ks:List Ty}{p pos:Pos}(hf:knd sc "isinstance"=2)(hl:ks.length<=100)(h:PE X a (tE Z X B (evE G U E1)))(ns:∀e q,a≠.Starred e q)(hks:jit T sc e=some ks) :
  PE X (.Call (.Name "isinstance" p) [a,e] [] pos) (tE Z X B (evE G U (.isi E1 ks))):=by
 obtain⟨hp,ns2⟩:=jmt D hl hks;refine PE.imp (jcy (jke D.ecs D.hK (ks:=ks)) (D.gl hf) (D.blt _ (by decide +kernel)) (by decide +kernel) (jaJ h (jaJ hp jbu (jaf ns2)) (jaf ns)) (by decide) (by decide) (jaf ns) (jdP (jcD fun x hx=>by
  have:x=e:=by simpa using hx
  subst this;exact ns2))) fun σ H Q ⟨F,ρ,r,q⟩=>?_
 simp only[evE]at q;refine⟨F,ρ,r,q.bind.imp (fun _ w=>w) fun p1 h1 v F' H' g r' rv=>?_⟩;obtain⟨x,ex,h2⟩:=h1.bind.pure fun c=>jaL;obtain⟨b,eb,h3⟩:=h2.bind.pure fun c=>jeq;have rb:=ja0 rv r' ex;refine⟨fun y hy=>⟨v,y,F',x,b,rfl,hy,rb,eb,h3 _ F' H' g r' (by show Rep _ _ _ _ _;simp only[Rep])⟩,fun p cs hp hcs=>?_⟩
 have e:=Ext.newO (o:=.tup cs) r'.dom hp;have kp:=e.keep r'.dom;refine⟨v,.ref p,F',x,b,rfl,.inr ⟨p,cs,rfl,hcs,jan⟩,?_,eb,h3 _ F' _ (g.trans e.go) (r'.ext e) (by show Rep _ _ _ _ _;simp only[Rep])⟩
 rcases rb with rb | ⟨l,o,e1,e2,e3⟩
 ·exact .inl (rb.mono kp)
 ·obtain⟨w,hw⟩:=e3.some;exact .inr ⟨l,o,e1,e2,e3.mono kp (by rw[jad (jab hw hp)])⟩
theorem jmv (D:XD T G U Z m X sc){x:Str}{i:Nat}{pos apos cpos:Pos}(hk:knd sc x=1)(hi:X.N[i]?=some x)(hb:jc9 x=false)(hline:(apos.endLine == cpos.line)=true):PE X (.Call (.Attribute (.Name x pos) "pop" apos) [] [] cpos) (tE Z X B (evE G U (.pop i))):=by
 have hbase:attributeBase (.Name x pos) "pop" X.env (eval (.Name x pos) X.env)=eval (.Name x pos) X.env:=rfl;refine PE.imp (jhw PySem.F.plainAttrs_list PySem.F.slot_list_pop PySem.F.type_list_pop jn8 (jfH (X:=X) (pos:=pos) hi (D.vis hk) (jdw hb).1 (jj0 hb)) hbase hline) fun σ H Q hzz=>?_;obtain⟨F,ρ,r,q⟩:=hzz;simp only[evE]at q;split at q
 ·rename_i xs f e;split at q
  ·rename_i d hd;obtain⟨l,e1,e2,⟨vs,e3,e4⟩,e5⟩:=r.own i _ _ _ e;refine⟨.ref l,e1,.inl ⟨rfl,vs,SqL.of e3⟩,?_⟩;have hl:=e4.length;rw[List.getLast?_eq_getElem?]at hd;obtain⟨v,hv,rp⟩:=e4.get hd;rw[hl]at hv;refine⟨l,vs,v,rfl,rfl,e3,hv,?_⟩;have wr:=r.wr (o':=.l xs.dropLast) (u:=.lst vs.dropLast) e e1 (fun kp=>⟨vs.dropLast,jan,(e4.mono kp).dropLast⟩) false;obtain⟨kp,sr⟩:=wr;exact q v F _ (Go.wr e e1) sr (rp.mono kp)
  ·exact False.elim q
 ·exact False.elim q
end
end DJ
namespace DJ
open PySem PySem.Spec PyProof.Rows L2
theorem jer {M:Model}{A:Around}{E E':Value->Shared->Prop}{s:Shared}{B:Heap}{env:Env}{outer:List Env}{L e:Addr}{cls a0:Value}{Q:Shared->Prop}(hfr:A.frames=some (env::outer))(hf:env.frame=some L)(x:FlyA B (env::outer) e cls a0 s.heap)
  (hQ:∀h',Heap.FlyingW B (env::outer) e cls a0 h'->s.heap.UpToSlots h'->Q { s with heap:=h' }):wpAny M A (noteFrame (.ref e) env) (fun _ s₂=>wpAny M A (setFlight (.ref e) none) (fun _ s₃=>Q s₃) E s₂) E' s:=
 jfM hfr hf hf x fun h1 held up1=>wpAny_landsW held fun h2 fl up2=>hQ h2 fl (up1.trans up2)
theorem jgJ {M:Model}{A:Around}{E:Value->Shared->Prop}{s:Shared}{B:Heap}{env:Env}{outer:List Env}{L e:Addr}{cls a0:Value}{Q:Unit->Shared->Prop}(hfr:A.frames=some (env::outer))(hf:env.frame=some L)(x:FlyA B (env::outer) e cls a0 s.heap)
  (hQ:∀h',Heap.FlyingW B outer e cls a0 h'->s.heap.UpToSlots h'->Q () { s with heap:=h' }):wpAny M A (leaving env (.ref e)) Q E s:=by
 unfold leaving;refine jrR (jer (Q:=fun s=>Q () s) hfr hf x fun h' fl up=>?_);obtain⟨k1,k2,⟨_,_,k3⟩,k4⟩:=fl;exact hQ h' ⟨k1,k2,k3,k4⟩ up
theorem jlk {P:Program}{w:World}{H:Hp}{h:Heap}{a:Addr}{o:HO}(x:ObjOk P w H h a o):∃u,h.get? a=some u:=by
 cases o with
 |lst xs=>obtain⟨_,_,_,_,e⟩:=x;exact⟨_,e⟩
 |tup xs=>obtain⟨_,_,_,o,e,_⟩:=x;exact⟨_,e⟩
 |dK kvs=>obtain⟨_,_,_,_,o,_,_,e,_⟩:=x;exact⟨_,e⟩
 |dT kvs=>obtain⟨_,_,_,_,o,_,_,e,_⟩:=x;exact⟨_,e⟩
 |set S n=>obtain⟨o,_,_,_,e,_⟩:=x;exact⟨_,e⟩
 |ins C dx fs=>obtain⟨_,_,_,e,_⟩:=x;exact⟨_,e⟩
 |own y=>obtain⟨_,e⟩:=x;exact⟨_,e⟩
 |xd fs=>obtain⟨_,⟨_,_,_,e,_⟩,_⟩:=x;exact⟨_,e⟩
 |rng lo hi=>obtain⟨_,_,_,e⟩:=x;exact⟨_,e⟩
 |frz ob u=>obtain⟨e,_⟩:=x;exact⟨_,e⟩
 |tbl ps=>exact⟨_,(show h.get? a=some _ from x)⟩
 |met f y=>exact⟨_,(show h.get? a=some _ from x)⟩
 |ext φ=>obtain⟨_,⟨_,e⟩,_⟩:=x;exact⟨_,e⟩
theorem jiv {h base B:Heap}:∀{l:List Env},h.FunFrames base l->(∀b∈frs l,B.get? b=none)->h.FunFrames B l
 |[],_,_=>trivial
 |env::r,⟨k,⟨L,o,hf,_,ho,hd⟩,t⟩,hB=>⟨k,⟨L,o,hf,hB L (by simp[frs,hf]),ho,hd⟩,jiv t fun b hb=>hB b (by
  unfold frs at hb ⊢;rw[jrG,hf];exact jrr _ hb)⟩
structure Has (X:Cx)(pins:List (Addr×Obj))(H':Hp)(B:Heap):Prop where
 s0:∀b o,X.s₀.heap.get? b=some o->b ∉ frs X.stack->b ∉ X.ex->∃o',B.get? b=some o'
 cl:∀x c,X.fn x=true->X.env.cells.lookup x=some c->∃o',B.get? c=some o'
 pn:∀p∈X.pn++pins,∃o',B.get? p.1=some o'
 tr:∀a o,H' a=some o->∃o',B.get? a=some o'
section
variable {X:Cx}{pins:List (Addr×Obj)}{σ:L2.St}{H:Hp}{s:Shared}{B h':Heap}
theorem Inv.cellNot (I:Inv X pins σ H s){x:Str}{c:Addr}(hf:X.fn x=true)(hc:X.env.cells.lookup x=some c):c ∉ frs X.stack:=fun z=>by
 rcases List.mem_cons.mp (I.stkSub c z)with z | z
 ·exact I.cne x c hc z
 ·have h1:=I.ok.cab x c hf hc;obtain⟨_,o',h2,_⟩:=I.ok.funs.mem z;exact absurd (jrY h2) (Nat.not_lt.mpr h1)
theorem Has.made (I:Inv X pins σ H s):Has X pins H (PySem.W.hideAll s.heap (frs X.stack)) where
 s0 b o e n nx:=by
  obtain⟨o',e'⟩:=I.base.there b o e nx;exact⟨o',PySem.W.hideAll_get _ e' n⟩
 cl x c hf hc:=by
  obtain⟨v,o,ho,_⟩:=I.cell x c hc;exact⟨o,PySem.W.hideAll_get _ ho (Inv.cellNot I hf hc)⟩
 pn p hp:=by
  obtain⟨h1,h2,h3,h4,_⟩:=I.pin p hp;refine⟨p.2,PySem.W.hideAll_get _ h1 fun z=>?_⟩;rcases List.mem_cons.mp (I.stkSub p.1 z)with z | z
  ·exact h3 z
  ·exact h4 z
 tr a o e:=by
  obtain⟨u,hu⟩:=jlk (I.hok a o e);exact⟨u,PySem.W.hideAll_get _ hu fun z=>by rw[I.stkFree a z]at e;cases e⟩
theorem Inv.flownP {t':Nat}(I:Inv X pins σ H s)(hfn:∀x,X.fn x=true)(Hs:Has X pins H B)(k:B.StaysIn s.heap)(k':B.StaysIn h')(Pr:Addr->Prop)(h1:∀b∈X.fs,Pr b)(h2:Pr X.env.locals)(up:∀b o,Pr b->s.heap.get? b=some o->(∀vs,o.data≠.fields vs)->∃sl,h'.get? b=some { o with slots:=sl }):Inv X pins σ H { s with heap:=h',toks:=t' }:=by
 have same:∀{b:Addr}{o:Obj},(∃o',B.get? b=some o')->s.heap.get? b=some o->h'.get? b=some o:=fun {b o} ⟨o',e⟩ q=>by
  have:=k b o' e;rw[q]at this;cases this;exact k' b o e
 have notS:∀{b:Addr}{o:Obj},X.s₀.heap.get? b=some o->b ∉ X.fs->b ∉ frs X.stack:=fun {b o} e n z=>by
  rcases List.mem_cons.mp (I.stkSub b z)with z | z
  ·have:=jrY e;rw[z]at this;exact absurd this (Nat.not_lt.mpr I.ok.above)
  ·exact n z
 have cellK:∀{x:Str}{c:Addr}{v:Option Value},X.env.cells.lookup x=some c->s.heap.IsCell c v->h'.IsCell c v:=fun {x c v} hc ⟨o,ho,hd⟩=>⟨o,same (Hs.cl x c (hfn x) hc) ho,hd⟩;refine⟨I.ok,I.os,I.bare,⟨fun b o e n hb hx=>same (Hs.s0 b o e (notS e hb) hx) (I.base.keep b o e n hb hx),fun b o e n hb hx=>?_,I.base.free,fun b o e hx=>?_,I.base.tups,I.base.frzs,I.base.tbls⟩,?_,fun x c hc=>?_,I.free,I.freeC,fun p hp=>?_,fun a u e=>?_,I.len⟩
 ·obtain⟨sl,q⟩:=I.base.slot b o e n hb hx;obtain⟨_,o2,q2,q3⟩:=I.funs.mem hb;rw[q]at q2;cases q2;exact let ⟨sl',q'⟩:=up b _ (h1 b hb) q q3;⟨sl',q'⟩
 ·obtain⟨o',q⟩:=I.base.there b o e hx;by_cases hb:b∈X.fs
  ·obtain⟨_,o2,q2,q3⟩:=I.funs.mem hb;rw[q]at q2;cases q2;exact let ⟨sl',q'⟩:=up b _ (h1 b hb) q q3;⟨_,q'⟩
  ·exact⟨o',same (Hs.s0 b o e (notS e hb) hx) q⟩
 ·obtain⟨m,hn,hl⟩:=I.loc;have hn':h'.Ns X.env.locals m:=by
   obtain⟨o,es,ep,ho,hd,r⟩:=hn;obtain⟨sl,hs⟩:=up _ o h2 ho fun vs q=>by rw[hd]at q;cases q
   exact⟨_,es,ep,hs,hd,r⟩
  refine⟨m,hn',fun i x v h1 h2 h3=>?_⟩;obtain⟨u,ru,lk⟩:=hl i x v h1 h2 h3;refine⟨u,ru,?_⟩;rcases lk with lk | ⟨h4,c,h5,h6⟩
  ·exact .inl lk
  ·exact .inr ⟨h4,c,h5,cellK h5 h6⟩
 ·obtain⟨v,q⟩:=I.cell x c hc;exact⟨v,cellK hc q⟩
 ·obtain⟨h1,h2⟩:=I.pin p hp;exact⟨same (Hs.pn p hp) h1,h2⟩
 ·refine(I.hok a u e).stay (fun c w' hc q=>same (Hs.tr c (if c=a then u else .own a) ?_) q) (fun _ q=>q) fun _ _ q=>q;by_cases hca:c=a
  ·rw[if_pos hca,hca];exact e
  ·rw[if_neg hca];rcases hc with z | z
   ·exact absurd z hca
   ·exact z
theorem Inv.flown {t':Nat}(I:Inv X pins σ H s)(hfn:∀x,X.fn x=true)(Hs:Has X pins H B)(k:B.StaysIn s.heap)(k':B.StaysIn h')(up:s.heap.UpToSlots h'):Inv X pins σ H { s with heap:=h',toks:=t' }:=
 Inv.flownP I hfn Hs k k' (fun _=>True) (fun _ _=>trivial) trivial fun b o _=>up b o
end
end DJ
namespace DJ
open PySem PySem.Spec PyProof.Rows L2
theorem jf5 {α:Type}{x:Bool}:(R.stk:R α).pass x=.stk:=by cases x <;> rfl
theorem jb3 {α:Type}{x:Bool}{a:α}:(R.ok a).pass x=.ok a:=by cases x <;> rfl
theorem jf6 {α β:Type}{x:Bool}{c:Nat}{W:Nat->Prop}{f:α->R β}{Q:β->Prop}(h:Ok W (((R.err c:R α).pass x).bind f) Q):x=true/\W c:=by
 cases x with
 |true=>exact⟨rfl,h⟩
 |false=>exact False.elim h
theorem Un.sameBut {fs ex:List Addr}{H H':Hp}{h h1 h2:Heap}{C:Addr}(u:Un fs ex H H' h h1)(hC:h.objs.size<=C)(s:Heap.SameBut C h1 h2):Un fs ex H H' h h2:=by
 have ne:∀b o,h.get? b=some o->b≠C:=fun b o e=>jr3 (jr2 (jrY e) hC);refine⟨fun b o e n hb hx=>(s.2 b (ne b o e)).trans (u.keep b o e n hb hx),fun b o e n hb hx=>?_,u.free,fun b o e hx=>?_,u.tups,u.frzs,u.tbls⟩
 ·obtain⟨sl,q⟩:=u.slot b o e n hb hx;exact⟨sl,(s.2 b (ne b o e)).trans q⟩
 ·obtain⟨o',q⟩:=u.there b o e hx;exact⟨o',(s.2 b (ne b o e)).trans q⟩
theorem HOk.sameBut {P:Program}{w:World}{H:Hp}{h1 h2:Heap}{C:Addr}(k:HOk P w H h1)(n:H C=none)(s:Heap.SameBut C h1 h2):HOk P w H h2:=fun b ob e=>by
 refine(k b ob e).stay (fun c w' hc q=>(s.2 c ?_).trans q) (fun _ q=>q) fun _ _ q=>q;rintro rfl;rcases hc with rfl | hc
 ·rw[n]at e;cases e
 ·rw[n]at hc;cases hc
section
variable {X:Cx}{scope:Scope}{N cn:List Str}{nt:Nat}{caps:List Nat}{B:Bs}{Z:Kn}{elt tg iter:Expr}{ks:List Expr}{pos:Pos}{tgs:List Nat}{one:Bool}{fi:Rho->R (List D×List Nat×Rho)}{fc:Option (Rho->R (Bool×Rho))}{fe:Rho->R (Vl×Rho)}
theorem jdR {pins:List (Addr×Obj)}{σ:L2.St}{H1:Hp}{s3:Shared}{fp:List Addr}(I3:Inv X pins σ H1 s3)(fo:∀b∈fp,(b∈X.ex\/X.s₀.heap.objs.size<=b)/\b≠X.env.locals/\(∀x c,X.env.cells.lookup x=some c->c≠b)/\∀p∈X.pn++pins,p.1≠b)
  {σ':L2.St}{H':Hp}{s':Shared}{E:Value->Shared->Prop}{pins':List (Addr×Obj)} (IY:Inv (cxComp X N scope s3 H1 fp E) pins' σ' H' s') {h':Heap} (sb:Heap.SameBut s3.heap.objs.size s'.heap h'):Inv X pins σ H' { s' with heap:=h' }:=
 I3.call' IY.os (Un.sameBut IY.base (jr1 _) sb) (HOk.sameBut IY.hok IY.free sb) IY.bare fo
theorem jf7 {pins pins':List (Addr×Obj)}{σ σ':L2.St}{H1 H':Hp}{s3 s':Shared}{fp:List Addr}{E:Value->Shared->Prop}{ea:Addr}{cls acc:Value}{use:Option (Value->Sem Unit)}{Q:Value->Shared->Prop}(Tp:TopX X)(I3:Inv X pins σ H1 s3)
  (fo:∀b∈fp,(b∈X.ex\/X.s₀.heap.objs.size<=b)/\b≠X.env.locals/\(∀x c,X.env.cells.lookup x=some c->c≠b)/\∀p∈X.pn++pins,p.1≠b) (IY:Inv (cxComp X N scope s3 H1 fp E) pins' σ' H' s') (fly:FlyC (cxComp X N scope s3 H1 fp E) pins' ea cls H' s')
  (k:∀s'',Inv X pins σ H' s''->FlyC X pins ea cls H' s''->X.xe (.ref ea) s'') :
  notedBy (model X.prog X.w) X.A (cxComp X N scope s3 H1 fp E).env (fun e s''=>compPost (model X.prog X.w) X.A X.xe use Q acc s3.heap.objs.size (.error e) s'') (.ref ea) s':=by
 obtain⟨⟨a0,B,fl,c1,c2,c3,c4⟩,hn⟩:=fly;have IX:Inv X pins σ H' s':=jdR I3 fo IY (Heap.SameBut.refl _ _);have old:∀{b:Addr}{o:Obj},s3.heap.get? b=some o->b ∉ frs X.stack->b ∉ fp->∃o',(PySem.W.hideAll B [s3.heap.objs.size]).get? b=some o':=fun {b o} e n nf=>by
  obtain⟨o',q⟩:=c1 b o e n nf;exact⟨o',PySem.W.hideAll_get _ q fun z=>absurd (List.mem_singleton.mp z) (jr3 (jrY e))⟩
 have Hs:Has X pins H' (PySem.W.hideAll B [s3.heap.objs.size]):=by
  refine⟨fun b o e n nx=>?_,fun x c hf hc=>?_,fun p hp=>?_,fun a o e=>?_⟩
  ·obtain⟨o',e'⟩:=I3.base.there b o e nx;exact old e' n fun z=>(fo b z).1.elim nx fun q=>absurd (jrY e) (Nat.not_lt.mpr q)
  ·obtain⟨v,o,ho,_⟩:=I3.cell x c hc;exact old ho (Inv.cellNot I3 hf hc) fun z=>(fo c z).2.2.1 x c hc rfl
  ·obtain⟨h1,h2,h3,h4,_⟩:=I3.pin p hp;refine old h1 (fun z=>?_) fun z=>(fo p.1 z).2.2.2 p hp rfl;rcases List.mem_cons.mp (I3.stkSub p.1 z)with z | z
   ·exact h3 z
   ·exact h4 z
  ·obtain⟨o',q⟩:=c4 a o e;refine⟨o',PySem.W.hideAll_get _ q fun z=>?_⟩;rw[List.mem_singleton.mp z,show H' s3.heap.objs.size=none from IY.free]at e;cases e
 have hst:=Tp.st;have nC:s3.heap.objs.size ∉ frs X.stack:=fun z=>by
  obtain⟨_,o,q,_⟩:=I3.stack.mem z;exact absurd (jrY q) (jr5 _)
 have fl2:FlyA (PySem.W.hideAll B [s3.heap.objs.size]) (X.env::X.outer) ea cls a0 s'.heap:=by
  obtain⟨f,k1,k2,k3,oe,vs,T,oT,ts,he,hc,hd,h1,hnT,r⟩:=fl;have sub:∀{b:Addr},B.get? b=none->(PySem.W.hideAll B [s3.heap.objs.size]).get? b=none:=fun {b} q=>by
   cases e:(PySem.W.hideAll B [s3.heap.objs.size]).get? b with
   |none=>rfl
   |some o=>rw[PySem.W.of_hideAll _ e]at q;cases q
  refine⟨f,fun b o e=>k1 b o (PySem.W.of_hideAll _ e),sub k2,?_,oe,vs,T,oT,ts,he,hc,hd,h1,sub hnT,r⟩;rw[<-hst];exact jiv k3 fun b hb=>sub (k3.mem hb).1
 obtain⟨m,hns,_⟩:=IY.loc;have hns:s'.heap.Ns s3.heap.objs.size m:=hns;have frm:X.A.frames=some (X.env::X.outer):=by rw[<-hst];exact I3.ok.frames
 refine jfM (L:=X.env.locals) frm Tp.fr (show (cxComp X N scope s3 H1 fp E).env.frame=some X.env.locals from Tp.fr) fl2 fun h4 held up4=>?_;have fin:∃m,h4.Ns s3.heap.objs.size m/\∀h',Heap.SameBut s3.heap.objs.size h4 h'->∀cenv:Env,cenv.locals=s3.heap.objs.size->wpAny (model X.prog X.w) X.A (PySem.passOn "comprehension.variables-let-go" (.ref ea) cenv:Sem Value) (fun _ _=>False) X.xe { s' with heap:=h' }:=by
  refine⟨m,up4.ns hns,fun h' sb cenv _=>?_⟩;refine jjH (s:={ s' with heap:=h' }) (FlyA.but (FlyA.held held) (up4.ns hns) (PySem.W.hideAll_none _ (List.mem_singleton.mpr rfl)) (by rw[<-hst];exact nC) sb) fun h6 fl6 up6=>?_
  have I6:Inv X pins σ H' { s' with heap:=h6 }:=Inv.flownP (t':=s'.toks) IX Tp.fn Hs fl2.stays fl6.stays (fun b=>b≠s3.heap.objs.size) (fun b hb z=>nC (by rw[<-z,hst];unfold frs;rw[jrG,Tp.fr];exact jrr _ hb))
   (fun z=>nC (by rw[<-z,hst];unfold frs;rw[jrG,Tp.fr];exact jrs)) fun b o nb e nf=>by
    obtain⟨sl,q⟩:=up4 b o e nf;obtain⟨sl2,q2⟩:=up6 b _ ((sb.2 b nb).trans q) nf;exact⟨sl2,q2⟩
  exact k _ I6 ⟨⟨a0,_,by rw[hst];exact fl6,Hs.s0,Hs.cl,Hs.pn,Hs.tr⟩,hn⟩
 cases use <;> exact fin
theorem CompOk.capLt (C:CompOk X scope N cn nt caps):∀j∈caps,j < X.N.length:=fun j hj=>by
 obtain⟨k,hk,e⟩:=List.getElem_of_mem hj;have hk':k < cn.length:=by rw[C.clen];exact hk
 obtain⟨h1,_⟩:=C.at_ k j cn[k] (jrq hk') (by rw[jrq hk,e])
 exact(List.getElem?_eq_some_iff.mp h1).1
theorem jmw (hK:X.K=Z.K)(hc:X.calm=true)(C:CompOk X scope N cn nt caps)(hi:PI X tg iter (tI Z X B fi))
  (hT:∀s' H' fp E,TgOk (cxComp X N scope s' H' fp E) tg tgs one) (hlow:∀i∈tgs,i < nt)
  (hE:∀s' H' fp E B',PE (cxComp X N scope s' H' fp E) elt (tE Z (cxComp X N scope s' H' fp E) B' fe)) {xx:Bool} (Tp:xx=true->TopX X)
  (hk:(ks=[]/\fc=none)\/∃k g,ks=[k]/\fc=some g/\∀s' H' fp E B',PT (cxComp X N scope s' H' fp E) k (tT Z (cxComp X N scope s' H' fp E) B' g)) (hs:∀x,foldedSetIterable iter X.env x=pure x) :
  PE X (.ListComp elt [⟨tg,iter,ks,0⟩] scope pos) (tE Z X B fun ρ=>(fi ρ).bind fun t=>((compGo (jcP tgs one nt caps fc fe) t.1 t.2.2).pass xx).bind fun ys=>.ok (.tmp (.l ys.1),unlk t.2.1 ys.2)):=by
 intro pins s σ H Q I hz1;obtain⟨F,ρ,r,h⟩:=hz1;rw[eval_ListComp];refine wpAny_comprehension_free (use:=none) rfl hs (jhX (C.cells I)) C.kind C.names ?_;refine thn (hi pins s σ H (fun J H'=>∃(F':Addr->Prop) (t:List D×List Nat×Rho) (ls:List Addr),ItR Z B σ ρ F H t.2.2 F' H' t.2.1 ls/\ItmG Z (GK F' H' ls) J t.1/\Ok (XW Z X σ ρ H) (((compGo (jcP tgs one nt caps fc fe) t.1 t.2.2).pass xx).bind fun ys=>.ok (.tmp (.l ys.1),unlk t.2.1 ys.2)) (Post Z B σ ρ F H Q)) I
  ⟨F,ρ,r,h.bind.imp (fun _ w=>w) fun t h1 F' H' J ls ir im=>⟨F',t,ls,ir,im,h1⟩⟩) fun v s1 h1=>thn h1 fun itv s2 hzz=>?_
 obtain⟨it,fp,tn,J,H2,e,I2,Tn,st2,f2,F2,t,ls,ir,im,q2⟩:=hzz;subst e;have fo:∀b∈fp,(b∈X.ex\/X.s₀.heap.objs.size<=b)/\b≠X.env.locals/\(∀x c,X.env.cells.lookup x=some c->c≠b)/\∀p∈X.pn++pins,p.1≠b:=fun b hb=>by
  obtain⟨f0,f1,f3,f4,f5,f6⟩:=f2 b hb;exact⟨f4,f1,f5,f6⟩
 refine jfV (fc:=fc) (RR:=fun acc C'=>compPost (model X.prog X.w) X.A X.xe none (EP X pins σ Q) acc C') hK hc C I2 ir.sr (im.wk hK (fun l hl=>(ir.on l hl).1) Tn) (fun l hl=>(ir.on l hl).2) st2 f2 (fun s' H' E=>hT s' H' fp E) hlow (fun j hj=>?_) (fun s' H' E B'=>hE s' H' fp E B') ?_ rfl (fun z=>?_) ?_ ?_
 ·rw[ir.sr.len,I2.len];exact C.capLt j hj
 ·rcases hk with z | ⟨k,g,e1,e2,hk⟩
  ·exact .inl z
  ·exact .inr ⟨k,g,e1,e2,fun s' H' E B'=>hk s' H' fp E B'⟩
 ·rw[z,jf5]at q2;exact q2
 ·intro ys ρE E s3 l σ' F' H' s' vs hY hl I3 IY gE rE nF nO hl' rp;rw[hY,jb3]at q2;have q2:Post Z B σ ρ F H Q (.tmp (.l ys),unlk t.2.1 ρE):=q2;obtain⟨m,hn,_⟩:=IY.loc;refine⟨m,hn,fun h' sb=>?_⟩;exact⟨.ref l,H',jdR I3 fo IY sb,rfl,q2 _ F' H' (ir.un σ ρE F' H' gE) rE.unlk ⟨l,rfl,nF,fun z=>nO z.unlk,ir.go.free hl,vs,hl',rp⟩⟩
 ·intro c E s3 l σ' H' s' pins' ea Cc hY hl I3 hC IY stl fly;rw[hY]at q2;obtain⟨hx,q2⟩:=jf6 q2;exact jf7 (Tp hx) I3 fo IY fly fun s'' I'' fl''=>q2 pins H' s'' ea Cc hC I'' (Stl.go ir.go stl) fl''
end
theorem XD.comp {T:Tab}{G:Calls}{U:Nat->Nat->Bool}{Z:Kn}{n:Nat}{X:Cx}{sc:List (Str×NameKind)}(D:XD T G U Z n X sc){scope:Scope}{N:List Str}{s:Shared}{H:Hp}{fp:List Addr}{E:Value->Shared->Prop}(nd:N.Nodup):XD { T with deep:=true } G U Z n (cxComp X N scope s H fp E) scope.names where
 hK:=D.hK
 calm:=D.calm
 nd:=nd
 room:=D.room
 un:=D.un
 sc:=fun x=>by
  show (relabel scope X.env).names.lookup x=_\/_/\(relabel scope X.env).names.lookup x=_;unfold relabel;simp only;rw[ja3 (c:=fun n k=>k == .free && X.env.scope.kind == .function && X.env.kindOf n == some .cell)];cases e:scope.names.lookup x with
  |none=>exact .inl rfl
  |some k=>
   simp only[Option.map_some];split
   ·rename_i h;simp only[jr6,beq_iff_eq]at h;exact .inr ⟨by rw[h.1.1],rfl⟩
   ·exact .inl rfl
 blt:=D.blt
 defs:=D.defs
 cons:=D.cons
 excs:=D.excs
 ecl:=D.ecl
 sub:=D.sub
 top:=fun z=>nomatch z
section
variable {T:Tab}{G:Calls}{U:Nat->Nat->Bool}{Z:Kn}{m:Nat}{X:Cx}{sc:List (Str×NameKind)}{B:Bs}
theorem tE.blt {f:Bf}{E1:E}{σ:L2.St}{H:Hp}{Q:VK}{rr:List V->Hp->VK->Prop}(hr:∀x H Q,rD1 Z (bfD f) x H Q->rr [x] H Q)(h:tE Z X B (evE G U (.blt f E1)) σ H Q):tCB rr (jeU (tE Z X B (evE G U E1)) jlK) σ H Q:=by
 have h2:tE Z X B (fun ρ=>(evE G U E1 ρ).bind fun p=>(deref p.1 p.2).bind fun x=>(bfD f x).bind fun v=>.ok (v,p.2)) σ H Q:=by simpa only[evE] using h
 obtain⟨F,ρ,r,h3⟩:=tE.one (fun x c=>jif) (fun x i=>jfZ) h2;exact⟨F,ρ,r,h3.imp (fun _ w=>w) fun p q v F' H' g r' rv=>hr v H' Q (q v F' H' g r' rv)⟩
noncomputable def jqN (quiet:Bool)(f:Str):Option Bf:=
 alt (f == "len") (some .len) <|
 alt (f == "tuple") (some .tuple) <|
 alt (f == "int") (some .int) <|
 alt (f == "str") (some .str) <|
 gd quiet <|
 alt (f == "all") (some .all) <|
 none
theorem jmx (D:XD T G U Z m X sc){f:Str}{g:Bf}{a:Expr}{E1:E}{p pos:Pos}(hf:knd sc f=2)(hb:jc9 f=false)(S:PE X a (tE Z X B (evE G U E1)))(ns:∀e q,a≠.Starred e q)(hg:jqN T.quiet f=some g) :
  PE X (.Call (.Name f p) [a] [] pos) (tE Z X B (evE G U (.blt g E1))):=by
 have hpa:PA X [a] (jeU (tE Z X B (evE G U E1)) jlK):=jaJ S jbu (jaf ns);have he:starEach [a] X.env=(false,eval a X.env)::starEach [] X.env:=jaf ns;have hd:=(jdw hb).1;have hn:=(jdw hb).2;rcases jaC hg with ⟨e,hg⟩ | hg
 ·cases hg;cases jb2 e;exact PE.imp (jcy (call_len_seq.or jec) (D.gl hf) (D.blt _ (by decide +kernel)) PySem.boot_len hpa hn hd he rfl) fun σ H Q q=>tE.blt (jon D.hK) q
 rcases jaC hg with ⟨e,hg⟩ | hg
 ·cases hg;cases jb2 e;exact PE.imp (jbA jdG (D.gl hf) (D.blt _ (by decide +kernel)) (by decide +kernel) hpa hn hd he rfl) fun σ H Q q=>tE.blt (jjY D.hK) q
 rcases jaC hg with ⟨e,hg⟩ | hg
 ·cases hg;cases jb2 e;exact PE.imp (jbA (call_int1.or jhI) (D.gl hf) (D.blt _ (by decide +kernel)) (by decide +kernel) hpa hn hd he rfl) fun σ H Q q=>tE.blt joq q
 rcases jaC hg with ⟨e,hg⟩ | hg
 ·cases hg;cases jb2 e;exact PE.imp (jbA jhF (D.gl hf) (D.blt _ (by decide +kernel)) (by decide +kernel) hpa hn hd he rfl) fun σ H Q q=>tE.blt jop q
 obtain⟨hq,hg⟩:=jal hg;have hc:X.calm=true:=D.calm hq;rcases jaC hg with ⟨e,hg⟩ | hg
 ·cases hg;cases jb2 e;exact PE.imp (jcy (jhB hc true) (D.gl hf) (D.blt _ (by decide +kernel)) (by decide +kernel) hpa hn hd he rfl) fun σ H Q q=>tE.blt (f:=.all) (joo D.hK true) q
 exact jah hg
theorem jkg {o:Expr}{Eo:E}{apos cpos:Pos}(S:PE X o (tE Z X B (evE G U Eo)))(hbase:attributeBase o "isupper" X.env (eval o X.env)=eval o X.env)(hline:(apos.endLine == cpos.line)=true) :
  PE X (.Call (.Attribute o "isupper" apos) [] [] cpos) (tE Z X B (evE G U (.blt .isup Eo))):=by
 refine PE.imp (jhw PySem.F.plainAttrs_str PySem.F.slot_str_isupper PySem.F.type_str_isupper jgB S hbase hline) fun σ H Q h=>?_;have h2:tE Z X B (fun ρ=>(evE G U Eo ρ).bind fun p=>(deref p.1 p.2).bind fun x=>(bfD .isup x).bind fun v=>.ok (v,p.2)) σ H Q:=by simpa only[evE] using h
 obtain⟨F,ρ,r,h3⟩:=tE.one (fun x c=>jif) (fun x i=>jfZ) h2;refine⟨F,ρ,r,h3.imp (fun _ w=>w) fun p q v F' H' g r' rv=>?_⟩;obtain⟨F2,d,w,dm,rp,hw,h4⟩:=q v F' H' g r' rv;cases d with
 |str x=>cases hw;cases rp.str;exact⟨rfl,x,rfl,rfl,h4.bl dm⟩
 |_=>cases hw
noncomputable def jqO (f:Str):Option Sm:=alt (f == "join") (some .join) <| alt (f == "count") (some .cnt) <| alt (f == "split") (some .splt) <|
 none
theorem jes (f:Sm)(x:Str)(d:D):jdO (smD f x d):=by
 cases f with
 |join=>cases d with
  |lst xs=>
   show jdO (match jbP xs with | some ys=>if (ys.map (·.length)).sum + ys.length * x.length<=16777216 then .ok (.dat (.str (Txt.join x ys)))else .stk | none=>.stk)
   cases jbP xs with
   |none=>trivial
   |some ys=>exact ja7 trivial
  |_=>trivial
 |cnt=>cases d <;> trivial
 |splt=>cases d with
  |str y=>exact ja7 trivial
  |_=>trivial
theorem jmy {f:Sm}{x:Str}{d:D}{c:Nat}:smD f x d≠.err c:=by
 intro h;have:=jes f x d;rw[h]at this;exact this
theorem jkh {f:Sm}{x:Str}{d:D}{i:Nat}:smD f x d≠.ok (.slot i):=by
 intro h;have:=jes f x d;rw[h]at this;exact this
inductive rSm (Z:Kn) (f:Sm) (x:V) (xs:List V) (H:Hp) (Q:VK):Prop
 |mk (z:Str) (y:V) (F:Addr->Prop) (d:D) (w:Vl):x=.str z->xs=[y]->Dom F H->RepB Z F H d y->smD f z d=.ok w->PostV Z F H Q w->rSm Z f x xs H Q
theorem jf8 {Z:Kn}{F:Addr->Prop}{H:Hp}:∀{ds:List D}{ys:List Str}{vs:List V},jbP ds=some ys->Reps Z F H ds vs->vs=ys.map V.str
 |[],ys,vs,h,r=>by simp only[Reps]at r;subst r;cases h;rfl
 |d::ds,ys,vs,h,r=>by
  simp only[Reps]at r;obtain⟨v,us,rfl,r1,r2⟩:=r;cases d with
  |str x=>
   simp only[jbP]at h;cases q:jbP ds with
   |none=>rw[q]at h;cases h
   |some ms=>
    rw[q]at h;cases h;simp only[Rep]at r1;rw[r1,jf8 q r2];rfl
  |_=>cases h
theorem jet {Z:Kn}{F:Addr->Prop}{H:Hp}:∀{ys:List Str},Reps Z F H (ys.map D.str) (ys.map V.str)
 |[]=>by simp only[List.map_nil,Reps]
 |y::ys=>.cons (by simp only[Rep]) (jet (ys:=ys))
theorem joD (hZ:X.K=Z.K){f:Sm}{nm:Str}(hf:jqO nm=some f){o a:Expr}{Eo Ea:E}{apos cpos:Pos}(So:PE X o (tE Z X B (evE G U Eo)))(Sa:PE X a (tE Z X B (evE G U Ea)))(ns:∀e q,a≠.Starred e q)
  (hbase:attributeBase o nm X.env (eval o X.env)=eval o X.env) (hline:(apos.endLine == cpos.line)=true):PE X (.Call (.Attribute o nm apos) [a] [] cpos) (tE Z X B (evE G U (.sm f Eo Ea))):=by
 have key:∀{id:String},Slot "str" nm id->typeOf (.builtin id)=pure (.type "method_descriptor")->MtR X id (rSm Z f)->PE X (.Call (.Attribute o nm apos) [a] [] cpos) (tE Z X B (evE G U (.sm f Eo Ea))):=fun {id} slot hty hm=>by
  refine PE.imp (jn7 PySem.F.plainAttrs_str slot hty hm So (jaJ Sa jbu (jaf ns)) hbase (by rw[jaf ns];rfl) hline (jaf ns) rfl) fun σ H Q h=>?_
  obtain⟨F,ρ,r,q⟩:=h;simp only[evE]at q;refine⟨F,ρ,r,q.bind.imp (fun _ w=>w) fun p h1 v F1 H1 g1 r1 rv=>?_⟩;obtain⟨w,ρ1⟩:=p;cases w with
  |dat d=>
   cases d with
   |str z=>
    have rv:Rep Z F1 H1 (.str z) v:=rv;simp only[Rep]at rv;subst rv;refine⟨rfl,F1,ρ1,r1,Ok.imp (Ok.bind h1) (fun c w=>w.mono g1) fun q h2 u F2 H2 g2 r2 ru=>?_⟩;obtain⟨d,ed,h3⟩:=h2.bind.pure fun c=>jaL;obtain⟨w,ew,h4⟩:=h3.bind.pure fun c=>jmy;exact⟨z,u,F2,d,w,rfl,rfl,r2.dom,ja0 ru r2 ed,ew,Post.toV h4 (g1.trans g2) r2 fun i z=>jkh (by rw[ew,z])⟩
   |_=>exact False.elim h1
  |_=>exact False.elim h1
 rcases jaC hf with ⟨e,hf⟩ | hf
 ·cases hf;cases jb2 e;refine key PySem.F.slot_str_join PySem.F.type_str_join fun pins s σ H x xs v us Q I rx rs h=>?_;obtain⟨z,y,F,d,w,rfl,rfl,dm,rp,hw,h⟩:=h;cases d with
  |lst ds=>
   simp only[smD]at hw;cases e:jbP ds with
   |none=>rw[e]at hw;cases hw
   |some ys=>
    rw[e]at hw;obtain⟨hl,rfl⟩:=jbh hw;obtain⟨p,vs,rfl,sq,r⟩:=rp.lst;cases jf8 e r;exact jlX pins s σ H _ _ v us Q I rx rs ⟨z,p,ys,rfl,rfl,(by rw[hZ];exact sq),hl,h.sc dm (by simp only[Rep])⟩
  |_=>cases hw
 rcases jaC hf with ⟨e,hf⟩ | hf
 ·cases hf;cases jb2 e;refine key PySem.F.slot_str_count PySem.F.type_str_count fun pins s σ H x xs v us Q I rx rs h=>?_;obtain⟨z,y,F,d,w,rfl,rfl,dm,rp,hw,h⟩:=h;cases d with
  |str y=>cases hw;cases rp.str;exact jjI pins s σ H _ _ v us Q I rx rs ⟨z,y,rfl,rfl,h.int dm⟩
  |_=>cases hw
 rcases jaC hf with ⟨e,hf⟩ | hf
 ·cases hf;cases jb2 e;refine key PySem.F.slot_str_split PySem.F.type_str_split fun pins s σ H x xs v us Q I rx rs h=>?_;obtain⟨z,y,F,d,w,rfl,rfl,dm,rp,hw,h⟩:=h;cases d with
  |str y=>
   obtain⟨hl,rfl⟩:=jbh hw;cases rp.str;simp only[jr6,bne_iff_ne]at hl;exact jjJ pins s σ H _ _ v us Q I rx rs ⟨z,y,rfl,rfl,by simpa using hl.1.1,jaO hl.1.2,jaO hl.2,fun p hp=>h.lst dm jet p hp⟩
  |_=>cases hw
 exact jah hf
theorem jmz:∀x H Q,rD1 Z (bfD .lrng) x H Q->jlY X [x] H fun v H'=>jlZ X [v] H' Q:=by
 intro x H Q hz1;obtain⟨F,d,w,dm,rp,hw,h⟩:=hz1;cases d with
 |int n=>
  obtain⟨⟨h0,h1⟩,rfl⟩:=jbh hw;cases rp.int;refine⟨n,rfl,fun I hI=>⟨I,n,rfl,jan,h0,h1,fun l hl=>?_⟩⟩;have hlI:l≠I:=fun z=>by rw[z,jan]at hl;cases hl
  have hl0:H l=none:=by rw[jad hlI]at hl;exact hl
  have e1:=Ext.newO (o:=.rng 0 n) dm hI;have e2:=Ext.newO (o:=.lst ((List.range n.toNat).map fun (k:Nat)=>V.int k)) e1.dom hl;refine h _ _ _ (e1.trans e2) fun σ ρ B sr=>⟨l,rfl,fun z=>?_,fun z=>?_,hl0,_,jan,?_⟩
  ·obtain⟨o,e⟩:=dm l z;rw[hl0]at e;cases e
  ·obtain⟨u,e⟩:=sr.there z;rw[hl0]at e;cases e
  ·have key:∀ks:List Nat,Reps Z F (upd (upd H I (.rng 0 n)) l (.lst ((List.range n.toNat).map fun (k:Nat)=>V.int k))) (ks.map fun (k:Nat)=>D.int (0 + (k:Int))) (ks.map fun (k:Nat)=>V.int k):=fun ks=>by
    induction ks with
    |nil=>simp only[List.map_nil,Reps]
    |cons k ks ih=>exact .cons (by simp only[Rep,Int.zero_add]) ih
   exact key _
 |_=>cases hw
noncomputable def jmA (f g:Str):Option Bf:=
 alt (f == "list" && g == "range") (some .lrng) <|
 none
theorem joE {a b c d:Str}(h:(a == b && c == d)=true):a=b/\c=d:=by simpa using h
theorem jki (D:XD T G U Z m X sc)(hq:T.quiet=false){f g:Str}{bf:Bf}{b:Expr}{E1:E}{p p2 pos pos2:Pos}(hf:knd sc f=2)(hb:jc9 f=false)(hg:knd sc g=2)(hb2:jc9 g=false)(S:PE X b (tE Z X B (evE G U E1)))(ns:∀e q,b≠.Starred e q)(hn:jmA f g=some bf) :
  PE X (.Call (.Name f p) [.Call (.Name g p2) [b] [] pos2] [] pos) (tE Z X B (evE G U (.blt bf E1))):=by
 have hc:X.calm=true:=D.calm hq;have hpa:PA X [b] (jeU (tE Z X B (evE G U E1)) jlK):=jaJ S jbu (jaf ns);have he:starEach [b] X.env=(false,eval b X.env)::starEach [] X.env:=jaf ns;have ns2:∀e q,(.Call (.Name g p2) [b] [] pos2:Expr)≠.Starred e q:=fun e q z=>by cases z
 have he2:starEach [.Call (.Name g p2) [b] [] pos2] X.env=(false,eval (.Call (.Name g p2) [b] [] pos2) X.env)::starEach [] X.env:=jaf ns2;have hd:=(jdw hb).1;have hnm:=(jdw hb).2;have hd2:=(jdw hb2).1;have hnm2:=(jdw hb2).2;rcases jaC hn with ⟨e,hn⟩ | hn
 ·cases hn;obtain⟨rfl,rfl⟩:=joE e;have pin:=jbA (p:=p2) (pos:=pos2) (jhG (X:=X)) (D.gl hg) (D.blt _ (by decide +kernel)) (by decide +kernel) hpa hnm2 hd2 he rfl
  exact PE.imp (jbA (p:=p) (pos:=pos) (jhH hc) (D.gl hf) (D.blt _ (by decide +kernel)) (by decide +kernel) (jaJ pin jbu he2) hnm hd he2 rfl) fun σ H Q q=>tE.blt (f:=.lrng) (rr:=fun xs H Q=>jlY X xs H fun v H'=>jlZ X [v] H' Q) jmz q
 exact jah hn
noncomputable def jpi (f:Int->Int->Int)(x y:D):R Vl:=(jqL f x y).bind fun d=>.ok (.dat d)
theorem jiw {f:Int->Int->Int}{x y:D}{w:Vl}(h:jpi f x y=.ok w):∃i j,x=.int i/\y=.int j/\w=.dat (.int (f i j)):=by
 cases x with
 |int i=>cases y with
  |int j=>cases h;exact⟨i,j,rfl,rfl,rfl⟩
  |_=>cases h
 |_=>cases h
theorem jkj {f:Int->Int->Int}{x y:D}{c:Nat}:jpi f x y≠.err c:=by
 intro h;cases x with
 |int i=>cases y <;> cases h
 |_=>cases h
theorem joF {f:Int->Int->Int}{nm:Str}{id:String}(D:XD T G U Z m X sc)(hcl:CallR X (.builtin id) (fun xs H Q=>∃i j,xs=[.int i,.int j]/\Q (.int (f i j)) H))(hm:X.mg nm=none)(hv:bootBuiltins nm=some (.builtin id))(hb:jc9 nm=false){a b:Expr}{E1 E2 E3:E}{p pos:Pos}(hf:knd sc nm=2)(S1:PE X a (tE Z X B (evE G U E1)))(n1:∀e q,a≠.Starred e q)(S2:PE X b (tE Z X B (evE G U E2)))(n2:∀e q,b≠.Starred e q)
  (he:∀ρ,evE G U E3 ρ=(evE G U E1 ρ).bind fun p=>(evE G U E2 p.2).bind fun q=>(deref p.1 q.2).bind fun x=>(deref q.1 q.2).bind fun y=>(jpi f x y).bind fun v=>.ok (v,q.2)):PE X (.Call (.Name nm p) [a,b] [] pos) (tE Z X B (evE G U E3)):=by
 have hpa:PA X [a,b] (jeU (tE Z X B (evE G U E1)) (jeU (tE Z X B (evE G U E2)) jlK)):=jaJ S1 (jaJ S2 jbu (jaf n2)) (jaf n1);have hpl:(backTo pos (starEach [b] X.env)).any (·.1)=false:=jdP (jcD fun x hx=>by
  have:x=b:=by simpa using hx
  subst this;exact n2)
 refine PE.imp (jcy hcl (D.gl hf) hm hv hpa (jdw hb).2 (jdw hb).1 (jaf n1) hpl) fun σ H Q q=>?_;rw[tE.congr he]at q;obtain⟨F,ρ,r,h⟩:=tE.two (fun x y c=>jkj) (fun x y i z=>by obtain⟨_,_,_,_,z⟩:=jiw z;cases z) q
 refine⟨F,ρ,r,h.imp (fun _ w=>w) fun p1 h1 v F1 H1 g1 r1 rv=>?_⟩;obtain⟨F',ρ',r',h'⟩:=h1 v F1 H1 g1 r1 rv;refine⟨F',ρ',r',h'.imp (fun _ w=>w) fun p2 h2 u F2 H2 g2 r2 ru=>?_⟩;obtain⟨F3,dx,dy,w,dm,bx,by_,hw,hp⟩:=h2 u F2 H2 g2 r2 ru;obtain⟨i,j,rfl,rfl,rfl⟩:=jiw hw;cases bx.int;cases by_.int;exact⟨i,j,rfl,hp.int dm⟩
end
end DJ
namespace DJ
open PySem PySem.Spec PyProof.Rows L2
noncomputable def jqP:Operator->Option Op
 |.Add=>some .add | .Sub=>some .sub | .Mult=>some .mul | .FloorDiv=>some .fdiv | .Mod=>some .mod | .Pow=>some .pow
 |_=>none
noncomputable def jqQ:CmpOp->Option Cm
 |.Eq=>some .eq | .NotEq=>some .ne | .Lt=>some .lt | .LtE=>some .le | .Gt=>some .gt | .GtE=>some .ge | .Is=>some .isn | .IsNot=>some .notn
 |.In=>some .isin | .NotIn=>some .notin
noncomputable def jcW (e:Expr):Option (List Str×Bool):=jlf (jf0 e) (fun x=>some ([x],true)) ((jjZ e).bind fun es=>(mapO jf0 es).map fun xs=>(xs,false))
theorem jix {e:Expr}{xs:List Str}{one:Bool}(h:jcW e=some (xs,one)):(∃x p,e=.Name x p/\xs=[x]/\one=true)\/∃es k p,e=.Tuple es k p/\mapO jf0 es=some xs/\one=false:=by
 replace h:=jbp h;rcases h with ⟨x,hx,h⟩ | h
 ·obtain⟨p,rfl⟩:=jaR hx;cases h;exact .inl ⟨x,p,rfl,rfl,rfl⟩
 ·replace h:=jac h;obtain⟨es,he,h⟩:=h;obtain⟨k,p,rfl⟩:=jcR he;replace h:=jaq h;obtain⟨ys,hy,h⟩:=h;cases h;exact .inr ⟨es,k,p,rfl,hy,rfl⟩
noncomputable def ndp (xs:List Str):Bool:=match xs with
 |[]=>true
 |x::r=>!r.contains x && ndp r
noncomputable def jeu:Expr->Option (Str×List Expr)
 |.Call f as ks _=>gd (!ks.isEmpty) ((jf0 f).map fun x=>(x,as))
 |_=>none
theorem jch {e:Expr}{p:Str×List Expr}(h:jeu e=some p):∃np pos,e=.Call (.Name p.1 np) p.2 [] pos:=by
 cases e with
 |Call f as ks pos=>
  replace h:=jal h;obtain⟨hk,h⟩:=h;replace h:=jaq h;obtain⟨x,hx,rfl⟩:=h;obtain⟨np,rfl⟩:=jaR hx;cases jaQ hk;exact⟨np,pos,rfl⟩
 |_=>exact jah h
section
variable (T:Tab)
noncomputable def jpV (tr:Expr->Option E)(as:List Expr):Option It:=match as with
 |[a]=>(tr a).map .rng1
 |_=>none
noncomputable def isB (sc:List (Str×NameKind))(f:Str):Bool:=knd sc f == 2 && (jcQ T.defs f).isNone
noncomputable def jqR (sc:List (Str×NameKind))(tr:Expr->Option E)(one:Bool)(e:Expr)(c:Str×List Expr):Option It:=
 alt (c.1 == "range" && isB T sc c.1) (jpV tr c.2) <|
 (tr e).map .seq
noncomputable def jnu (sc:List (Str×NameKind))(tr:Expr->Option E)(one:Bool)(e:Expr):Option It:=match jeu e with
 |some c=>jqR T sc tr one e c
 |none=>(tr e).map .seq
noncomputable def jpW (tr:Expr->Option E):Option Expr->Option Oe
 |none=>some Oe.none
 |some e=>(tr e).map Oe.some
noncomputable def jiy (tr:Expr->Option E):List Expr->Option Oe
 |[]=>some Oe.none
 |[k]=>(tr k).map Oe.some
 |_=>none
noncomputable def jiz (sc:List (Str×NameKind))(f:Str)(as:List Expr):Option (Bf×Expr):=
 (jgG as).bind fun c=>(jeu c).bind fun p=>(jgG p.2).bind fun b=>gd (T.quiet || jc9 p.1 || knd sc p.1 != 2 || (jcQ T.defs p.1).isSome) ((jmA f p.1).map fun bf=>(bf,b))
noncomputable def jrf:Const->Option D
 |.none=>some .non
 |.bool v=>some (.bl v)
 |.int i=>some (.int i)
 |.str x=>some (.str x)
 |_=>none
noncomputable def jpX (sc:List (Str×NameKind))(N:List Str)(x:Str):Option E:=
 gd (jc9 x) (alt (knd sc x == 1) ((jcQ N x).map .var) (gd (knd sc x != 2) ((T.cons.lookup x).map .lit)))
noncomputable def unE:UnaryOp->Option (E->E)
 |.Not=>some .not
 |_=>none
noncomputable def boE:PySem.BoolOp->E->E->E
 |.And=>.and
 |.Or=>.or
noncomputable def jmB:Expr->Option (Option Expr×Option Expr×Option Expr)
 |.Slice a b c _=>some (a,b,c)
 |_=>none
theorem jiA {e:Expr}{p:Option Expr×Option Expr×Option Expr}(h:jmB e=some p):∃q,e=.Slice p.1 p.2.1 p.2.2 q:=by
 cases e with
 |Slice a b c q=>cases h;exact⟨q,rfl⟩
 |_=>exact jah h
noncomputable def jpY:Expr->Option (Expr×Str×Pos)
 |.Attribute v m p=>some (v,m,p)
 |_=>none
theorem jf9 {e:Expr}{p:Expr×Str×Pos}(h:jpY e=some p):e=.Attribute p.1 p.2.1 p.2.2:=by
 cases e with
 |Attribute v m p=>cases h;rfl
 |_=>exact jah h
noncomputable def jpZ (tr:Expr->Option E)(a i:Expr):Option E:=match jmB i with
 |none=>o2 (tr a) (tr i) .idx
 |some p=>gd p.2.2.isSome (o3 (tr a) (jpW tr p.1) (jpW tr p.2.1) .slc)
noncomputable def jrg (sc:List (Str×NameKind))(tr:Expr->Option E)(f:Str)(a b:Expr):Option E:=
 alt (f == "isinstance") ((jit T sc b).bind fun ks=>gd (!decide (ks.length<=100)) ((tr a).map fun a=>.isi a ks)) <|
 alt (f == "min") (gd T.quiet (o2 (tr a) (tr b) .min2)) <|
 none
noncomputable def jp0 (sc:List (Str×NameKind))(tr:Expr->Option E)(f:Str)(as:List Expr):Option E:=match jiz T sc f as with
 |some p=>(tr p.2).map (.blt p.1)
 |none=>match as with
  |[a]=>o2 (jqN T.quiet f) (tr a) .blt
  |[a,b]=>jrg T sc tr f a b
  |_=>none
noncomputable def jp1 (sc:List (Str×NameKind))(tr:Expr->Option E)(f:Str)(as:List Expr):Option E:=
 gd (jc9 f || knd sc f != 2) (match jcQ T.defs f with
  |some k=>gd T.quiet ((mapO tr as).map fun es=>.call k ((T.flags[k]?).getD []) (jf1 es))
  |none=>jp0 T sc tr f as)
noncomputable def jiB:Expr->Bool
 |.Name _ _=>true
 |.Constant _ _ _=>true
 |_=>false
theorem jiC {o:Expr}{nm:Str}{env:Env}(h:jiB o=true):attributeBase o nm env (eval o env)=eval o env:=by
 cases o with
 |Name _ _=>rfl
 |Constant _ _ _=>rfl
 |_=>cases h
noncomputable def jrh (sc:List (Str×NameKind))(N:List Str)(tr:Expr->Option E)(as:List Expr)(pos:Pos)(p:Expr×Str×Pos):Option E:=
 alt (p.2.1 == "isupper") (gd (!jiB p.1 || !(p.2.2.endLine == pos.line) || !as.isEmpty) ((tr p.1).map (.blt .isup))) <|
 jlf (jqO p.2.1) (fun sf=>gd (!jiB p.1 || !(p.2.2.endLine == pos.line)) ((jgG as).bind fun a=>o2 (tr p.1) (tr a) (.sm sf))) <|
 (jf0 p.1).bind fun x=>gd (jc9 x || knd sc x != 1 || !(p.2.1 == "pop") || !(p.2.2.endLine == pos.line) || !as.isEmpty) ((jcQ N x).map .pop)
noncomputable def fnE (sc:List (Str×NameKind))(N:List Str)(tr:Expr->Option E)(as:List Expr)(pos:Pos)(f:Expr):Option E:=
 jlf (jf0 f) (fun f=>jp1 T sc tr f as) <| (jpY f).bind (jrh sc N tr as pos)
noncomputable def joG (sc:List (Str×NameKind))(scope:Scope)(xs cn:List Str):Bool:=
 T.quiet || !(scope.kind == .function) || !(scope.names.all fun p=>p.2 != .cell || scope.names.lookup p.1 == some .cell) || !(scope.names.all fun p=>p.2 != .local || scope.names.lookup p.1 == some .local)
     || !(ndp (xs++cn)) || !(xs.all fun x=>scope.names.lookup x == some .local || scope.names.lookup x == some .cell) || !(cn.all fun x=>scope.names.lookup x == some .free && (sc.lookup x == some .cell || sc.lookup x == some .free))
noncomputable def jdg (scope:Scope):List Str:=(scope.names.filter fun p=>p.2 == .free).map (·.1)
noncomputable def joH (tr trI:List (Str×NameKind)->List Str->Expr->Option E)(sc:List (Str×NameKind))(N:List Str)(elt:Expr)(scope:Scope)(g:Comprehension):Option E:=
 gd (!(g.is_async == 0)) ((jcW g.target).bind fun p=>gd (joG T sc scope p.1 (jdg scope)) (o4 (mapO (jcQ N) (jdg scope)) (jnu T sc (tr sc N) p.2 g.iter) (trI scope.names (p.1++jdg scope) elt) (jiy (trI scope.names (p.1++jdg scope)) g.ifs)
  fun caps it elt c=>.comp elt (List.range p.1.length) p.2 p.1.length caps it c (!T.deep)))
noncomputable def jri (tr trI:List (Str×NameKind)->List Str->Expr->Option E)(sc:List (Str×NameKind))(N:List Str):Expr->Option E
 |.Constant c _ _=>(jrf c).map .lit
 |.Name x _=>jpX T sc N x
 |.BinOp l o r _=>o3 (jqP o) (tr sc N l) (tr sc N r) .bin
 |.UnaryOp o a _=>o2 (unE o) (tr sc N a) fun f a=>f a
 |.BoolOp o vs _=>(mapO (tr sc N) vs).bind (jep (boE o))
 |.Compare a os cs _=>o2 (jgG os) (jgG cs) Prod.mk |>.bind fun p=>gd (behindInMarks p.1 p.2) (o3 (jqQ p.1) (tr sc N a) (tr sc N p.2) .cmp)
 |.IfExp c a b _=>o3 (tr sc N c) (tr sc N a) (tr sc N b) .ite
 |.Tuple es _ _=>(mapO (tr sc N) es).map fun es=>.tup (jf1 es)
 |.List es _=>(mapO (tr sc N) es).map fun es=>.lst (jf1 es)
 |.Subscript a i _=>jpZ (tr sc N) a i
 |.Call f as ks pos=>gd (!ks.isEmpty) (fnE T sc N (tr sc N) as pos f)
 |.ListComp elt gens scope _=>(jgG gens).bind (joH T tr trI sc N elt scope)
 |_=>none
end
noncomputable def trE:Tab->Nat->List (Str×NameKind)->List Str->Expr->Option E
 |_,0=>fun _ _ _=>none
 |T,n + 1=>jri T (trE T n) (trE { T with deep:=true } n)
theorem jmC {op:Operator}{o:Op}(h:jqP op=some o):op=o.py:=by cases op <;> cases h <;> rfl
theorem jmD {op:CmpOp}{o:Cm}(h:jqQ op=some o):op=o.py:=by cases op <;> cases h <;> rfl
noncomputable def Lr {α:Type}(r r':R α):Prop:=r=.stk\/r=r'
theorem Lr.refl {α:Type}{r:R α}:Lr r r:=.inr rfl
theorem Lr.bind {α β:Type}{r r':R α}{f g:α->R β}(h:Lr r r')(k:∀a,Lr (f a) (g a)):Lr (r.bind f) (r'.bind g):=by
 rcases h with rfl | rfl
 ·exact .inl rfl
 ·cases r with
  |ok a=>exact k a
  |err c=>exact .inr rfl
  |stk=>exact .inl rfl
theorem Lr.ok {α:Type}{W:Nat->Prop}{r r':R α}{Q:α->Prop}(h:Lr r r')(q:Ok W r Q):Ok W r' Q:=by
 rcases h with rfl | rfl
 ·exact False.elim q
 ·exact q
theorem Lr.deref {v:Vl}{ρ:Rho}:Lr (deref v []) (deref v ρ):=by
 cases v with
 |dat d=>exact .inr rfl
 |tmp o=>exact .inr rfl
 |slot i=>exact .inl (by simp[DJ.deref])
structure Says (G:Calls)(U:Nat->Nat->Bool)(Z:Kn)(X:Cx)(e:Expr)(E':E):Prop where
 pe:∀B,PE X e (tE Z X B (evE G U E'))
 pt:∀B,PT X e (tT Z X B (evT G U E'))
 ns:∀a p,e≠.Starred a p
section
variable {T:Tab}{G:Calls}{U:Nat->Nat->Bool}{Z:Kn}{m:Nat}{X:Cx}{sc:List (Str×NameKind)}
theorem jga {α β:Type}{f:α->Option β}:∀{as:List α}{bs:List β},mapO f as=some bs->as.length=bs.length
 |[],bs,h=>by cases h;rfl
 |a::as,bs,h=>by
  obtain⟨b,bs',_,h2,rfl⟩:=jaD h;rw[jrA,jrA,jga h2]
theorem jbU {α β:Type}{f:α->Option β}{P:α->β->Prop}(k:∀a b,f a=some b->P a b):∀{as:List α}{bs:List β},mapO f as=some bs->Paired P as bs
 |[],bs,h=>by cases h;exact .nil
 |a::as,bs,h=>by
  obtain⟨b,bs',h1,h2,rfl⟩:=jaD h;exact .cons (k a b h1) (jbU k h2)
theorem jgb {α β:Type}{f:α->Option β}:∀{as:List α}{bs:List β}{i:Nat}{a:α}{b:β},mapO f as=some bs->as[i]?=some a->bs[i]?=some b->f a=some b
 |[],_,_,_,_,_,e,_=>by simp at e
 |x::as,bs,i,a,b,h,e1,e2=>by
  obtain⟨y,bs',h1,h2,rfl⟩:=jaD h;cases i with
  |zero=>simp at e1 e2;rw[<-e1,<-e2];exact h1
  |succ i=>exact jgb h2 (by simpa using e1) (by simpa using e2)
theorem Says.mk' (hK:X.K=Z.K){e:Expr}{E':E}(pe:∀B,PE X e (tE Z X B (evE G U E')))(he:∀whole,isTrue e X.env whole=(do let v <-whole;standAt e.pos;holding [v] (truthy v)))(ns:∀a p,e≠.Starred a p)(hl:∀ρ,Lr (evT G U E' ρ) (trF (evE G U E') ρ)):Says G U Z X e E':=
 ⟨pe,fun B=>PT.imp (jpQ hK (pe B) he) fun σ H Q ⟨F,ρ,r,q⟩=>⟨F,ρ,r,(hl ρ).ok q⟩,ns⟩
theorem Lr.none {α:Type}{r:R α}:Lr .stk r:=.inl rfl
theorem jgc {n:Nat}(D:XD T G U Z m X sc)(ih:∀e E',trE T n sc X.N e=some E'->Says G U Z X e E'){iter tg:Expr}{it:It}{one:Bool}(h1:one=false->∃es k pos,tg=.Tuple es k pos)(h:jnu T sc (trE T n sc X.N) one iter=some it)(B:Bs) :
  PI X tg iter (tI Z X B (evI G U it)):=by
 have gen:∀{e:Expr}{it:It},(trE T n sc X.N e).map It.seq=some it->PI X tg e (tI Z X B (evI G U it)):=fun {e it} h=>by
  cases q:trE T n sc X.N e with
  |none=>rw[q]at h;cases h
  |some E'=>
   rw[q]at h;cases h;have:=joA (tg:=tg) D.hK ((ih e E' q).pe B);have ev:(fun ρ=>(evE G U E' ρ).bind fun p=>jbB p.1 p.2)=evI G U (.seq E'):=by funext ρ;simp only[evI]
   rwa [ev]at this
 unfold jnu at h;cases hc:jeu iter with
 |none=>rw[hc]at h;exact gen h
 |some c=>
  rw[hc]at h;obtain⟨p,pos,rfl⟩:=jch hc;obtain⟨f,as⟩:=c;replace h:jqR T sc (trE T n sc X.N) one _ (f,as)=some it:=h;replace h:=jaC h;rcases h with ⟨hf,h⟩ | h
  ·simp only[isB,jr6,beq_iff_eq]at hf;obtain⟨hf,hk,_⟩:=hf;subst hf;cases as with
   |nil=>exact jah h
   |cons a r=>
    cases r with
    |nil=>
     replace h:=jaq h;obtain⟨E',q,rfl⟩:=h;have S:=ih a E' q;have:=jmq (tg:=tg) (p:=p) (pos:=pos) (D.gl hk) (D.blt _ (by decide +kernel)) (S.pe B) S.ns
     rwa [show (fun ρ=>(evE G U E' ρ).bind fun p=>(deref p.1 p.2).bind fun x=>(jdd x).bind fun xs=>R.ok (xs,([]:List Nat),p.2))=evI G U (.rng1 E')by funext ρ;simp only[evI]]at this
    |cons b r=>
     exact jah h
  exact gen h
theorem jdx {n:Nat}{N:List Str}{one:Bool}{iter:Expr}{it:It}(h:jnu T sc (trE T n sc N) one iter=some it):∀a b c,iter≠.Set a b c:=by
 intro a b c z;subst z;cases n with
 |zero=>exact jah h
 |succ n=>exact jah h
theorem jev:∀{xs:List Str},ndp xs=true->xs.Nodup
 |[],_=>List.nodup_nil
 |x::r,h=>by
  simp only[ndp,jr6,Bool.not_eq_true']at h;refine List.nodup_cons.mpr ⟨fun z=>?_,jev h.2⟩;rw[List.contains_iff_mem.mpr z]at h;exact absurd h.1 (by decide)
theorem jiD {es:List Expr}{xs:List Str}(h:mapO jf0 es=some xs):∃ps:List Pos,es.length=xs.length/\ps.length=xs.length/\es=(xs.zip ps).map fun p=>Expr.Name p.1 p.2:=by
 induction es generalizing xs with
 |nil=>cases h;exact⟨[],rfl,rfl,rfl⟩
 |cons e es ih=>
  obtain⟨x,xs',h1,h2,rfl⟩:=jaD h;obtain⟨ps,l1,l2,e2⟩:=ih h2;obtain⟨pos,rfl⟩:=jaR h1;exact⟨pos::ps,by simp[l1],by simp[l2],by simp[e2]⟩
theorem jll {X:Cx}:∀(xs:List Str) (ps:List Pos) (k:Nat),ps.length=xs.length->(∀(i:Nat) x,xs[i]?=some x->X.N[k + i]?=some x/\L2.Loc X.env.scope x/\(X.fn x=true\/X.env.scope.names.lookup x=some .local)) ->
  TgsOk X ((xs.zip ps).map fun p=>Expr.Name p.1 p.2) ((List.range xs.length).map (k + ·))
 |[],_,_,_,_=>.nil
 |x::xs,[],_,h,_=>by simp at h
 |x::xs,p::ps,k,h,hN=>by
  obtain⟨a,b⟩:=hN 0 x rfl;have ih:=jll (X:=X) xs ps (k + 1) (by simpa using h) fun i y hy=>by
   have:=hN (i + 1) y (by simpa using hy)
   rwa [show k + (i + 1)=k + 1 + i by omega]at this
  rw[jrA,List.range_succ_eq_map,jrx,List.map_map];have e:(List.range xs.length).map ((k + ·) ∘ Nat.succ)=(List.range xs.length).map (k + 1 + ·):=by
   apply List.map_congr_left;intro i _;show k + (i + 1)=k + 1 + i;omega
  rw[e];exact .cons a b.1 b.2 ih
theorem jew {e:Expr}{env:Env}(h:∀a b c,e≠.Set a b c):∀x,foldedSetIterable e env x=pure x:=fun x=>by
 unfold foldedSetIterable;cases e <;> first | rfl | exact absurd rfl (h _ _ _)
theorem jex {scope:Scope}{env:Env}{x:Str}(h:scope.names.lookup x=some .local):(relabel scope env).names.lookup x=some .local:=by
 unfold relabel;simp only;rw[ja3 (c:=fun n k=>k == .free && env.scope.kind == .function && env.kindOf n == some .cell),h];rfl
theorem jkk {scope:Scope}{env:Env}{x:Str}(h:scope.names.lookup x=some .cell):(relabel scope env).names.lookup x=some .cell:=by
 unfold relabel;simp only;rw[ja3 (c:=fun n k=>k == .free && env.scope.kind == .function && env.kindOf n == some .cell),h];rfl
structure CompD (X:Cx)(G:Calls)(U:Nat->Nat->Bool)(Z:Kn)(scope:Scope)(N cn:List Str)(nt:Nat)(caps:List Nat)(elt tg iter:Expr)(ks:List Expr)(tgs:List Nat)(one:Bool)(it:It)(fc:Option (Rho->R (Bool×Rho)))(Ee:E):Prop where
 C:CompOk X scope N cn nt caps
 hT:∀s' H' fp E,TgOk (cxComp X N scope s' H' fp E) tg tgs one
 hlow:∀i∈tgs,i < nt
 hi:∀B,PI X tg iter (tI Z X B (evI G U it))
 hE:∀s' H' fp E B',PE (cxComp X N scope s' H' fp E) elt (tE Z (cxComp X N scope s' H' fp E) B' (evE G U Ee))
 hK:(ks=[]/\fc=none)\/∃k g,ks=[k]/\fc=some g/\∀s' H' fp E B',PT (cxComp X N scope s' H' fp E) k (tT Z (cxComp X N scope s' H' fp E) B' g)
 hs:∀x,foldedSetIterable iter X.env x=pure x
theorem jiE {n:Nat}(D:XD T G U Z m X sc)(ih:∀(X:Cx) (sc:List (Str×NameKind)) (e:Expr) (E':E),XD T G U Z m X sc->trE T n sc X.N e=some E'->Says G U Z X e E')(ihI:∀(X:Cx) (sc:List (Str×NameKind)) (e:Expr) (E':E),XD { T with deep:=true } G U Z m X sc->trE { T with deep:=true } n sc X.N e=some E'->Says G U Z X e E')
  {elt tg iter:Expr}{ks:List Expr}{scope:Scope}{xs:List Str}{one:Bool}{caps:List Nat}{it:It}{Ee:E}{Ec:Oe} (htg:jcW tg=some (xs,one))
  (c1:scope.kind=.function) (c2:∀y∈scope.names,y.2=.cell->scope.names.lookup y.1=some .cell) (c3:∀y∈scope.names,y.2=.local->scope.names.lookup y.1=some .local) (c4:(xs++jdg scope).Nodup)
  (c5:∀x∈xs,scope.names.lookup x=some .local\/scope.names.lookup x=some .cell) (c6:∀x∈jdg scope,scope.names.lookup x=some .free/\(sc.lookup x=some .cell\/sc.lookup x=some .free))
  (hcaps:mapO (jcQ X.N) (jdg scope)=some caps) (hit:jnu T sc (trE T n sc X.N) one iter=some it) (helt:trE { T with deep:=true } n scope.names (xs++jdg scope) elt=some Ee)
  (hks:jiy (trE { T with deep:=true } n scope.names (xs++jdg scope)) ks=some Ec) (xx:Bool) :
  ∃N cn fc,CompD X G U Z scope N cn xs.length caps elt tg iter ks (List.range xs.length) one it fc Ee /\
   ∀ρ,evE G U (.comp Ee (List.range xs.length) one xs.length caps it Ec xx) ρ=(evI G U it ρ).bind fun t=>((compGo (jcP (List.range xs.length) one xs.length caps fc (evE G U Ee)) t.1 t.2.2).pass xx).bind fun ys=>.ok (.tmp (.l ys.1),unlk t.2.1 ys.2):=by
 generalize hcn:jdg scope=cn at *;have C:CompOk X scope (xs++cn) cn xs.length caps:=by
  refine⟨c1,c2,c3,fun y hy e=>?_,c4,⟨xs,rfl,rfl⟩,jga hcaps,fun k j x h1 h2=>⟨jaG (jgb hcaps h1 h2),(c6 x (jrD h1)).1⟩⟩;have hm:y.1∈cn:=by
   rw[<-hcn];exact List.mem_map.mpr ⟨y,List.mem_filter.mpr ⟨hy,by simp[e]⟩,rfl⟩
  have:=(c6 y.1 hm).2;rcases D.sc y.1 with z | ⟨_,z⟩
  ·rw[z];exact this
  ·exact .inl z
 have hT:∀s' H' fp E,TgOk (cxComp X (xs++cn) scope s' H' fp E) tg (List.range xs.length) one:=fun s' H' fp E=>by
  have hN:∀(i:Nat) x,xs[i]?=some x->(xs++cn)[i]?=some x/\L2.Loc (relabel scope X.env) x/\((scope.names.lookup x == some .cell)=true\/(relabel scope X.env).names.lookup x=some .local):=fun i x e=>⟨by rw[jrI (List.getElem?_eq_some_iff.mp e).1];exact e,(c5 x (jrD e)).elim (fun z=>⟨.inl (jex z),.inr (jex z)⟩) fun z=>⟨.inr (jkk z),.inl (by rw[z];rfl)⟩⟩
  rcases jix htg with ⟨x,p,rfl,rfl,rfl⟩ | ⟨es,k,p,rfl,q,rfl⟩
  ·obtain⟨a,b⟩:=hN 0 x rfl;exact .one a b.1 b.2
  ·obtain⟨ps,l1,l2,e⟩:=jiD q;rw[e];have:=jll (X:=cxComp X (xs++cn) scope s' H' fp E) xs ps 0 l2 fun i x hx=>by
    rw[Nat.zero_add];exact hN i x hx
   simp only[Nat.zero_add,List.map_id']at this;exact .many this
 have hone:one=false->∃es k pos,tg=.Tuple es k pos:=fun ho=>by
  subst ho;rcases jix htg with ⟨x,p,_,_,z⟩ | ⟨es,k,p,e,_⟩
  ·cases z
  ·exact⟨es,k,p,e⟩
 have hlow:∀i∈List.range xs.length,i < xs.length:=fun i h=>List.mem_range.mp h;have hi:∀B,PI X tg iter (tI Z X B (evI G U it)):=fun B=>jgc (tg:=tg) D (fun e E' h=>ih X sc e E' D h) hone hit B;have hE:∀s' H' fp E B',PE (cxComp X (xs++cn) scope s' H' fp E) elt (tE Z (cxComp X (xs++cn) scope s' H' fp E) B' (evE G U Ee)):=fun s' H' fp E B'=>(ihI (cxComp X (xs++cn) scope s' H' fp E) scope.names elt Ee (D.comp c4) helt).pe B';have hs:=jew (env:=X.env) (jdx hit);cases ks with
 |nil=>
  cases hks;exact⟨xs++cn,cn,none,⟨C,hT,hlow,hi,hE,.inl ⟨rfl,rfl⟩,hs⟩,fun ρ=>by simp only[evE];rfl⟩
 |cons k r=>
  cases r with
  |nil=>
   simp only[jiy]at hks;cases q:trE { T with deep:=true } n scope.names (xs++cn) k with
   |none=>rw[q]at hks;cases hks
   |some Ek=>
    rw[q]at hks;cases hks;exact⟨xs++cn,cn,some (evT G U Ek),⟨C,hT,hlow,hi,hE,.inr ⟨k,evT G U Ek,rfl,rfl,fun s' H' fp E B'=>(ihI (cxComp X (xs++cn) scope s' H' fp E) scope.names k Ek (D.comp c4) q).pt B'⟩,hs⟩,fun ρ=>by simp only[evE];rfl⟩
  |cons k2 r2=>cases hks
end
end DJ
namespace DJ
open PySem PySem.Spec PyProof.Rows L2
variable {T:Tab}{G:Calls}{U:Nat->Nat->Bool}{Z:Kn}{m:Nat}
theorem jey {n:Nat}{X:Cx}{sc:List (Str×NameKind)}(D:XD T G U Z m X sc)(ih:∀(X:Cx) (sc:List (Str×NameKind)) (e:Expr) (E':E),XD T G U Z m X sc->trE T n sc X.N e=some E'->Says G U Z X e E')(ihI:∀(X:Cx) (sc:List (Str×NameKind)) (e:Expr) (E':E),XD { T with deep:=true } G U Z m X sc->trE { T with deep:=true } n sc X.N e=some E'->Says G U Z X e E')
  {elt:Expr}{gens:List Comprehension}{scope:Scope}{pos:Pos}{E':E} (h:trE T (n + 1) sc X.N (.ListComp elt gens scope pos)=some E') :
  T.quiet=false/\∃tg iter ks N cn nt caps tgs one it fc Ee Ec,gens=[⟨tg,iter,ks,0⟩]/\E'=.comp Ee tgs one nt caps it Ec (!T.deep)/\CompD X G U Z scope N cn nt caps elt tg iter ks tgs one it fc Ee /\
   ∀ρ,evE G U E' ρ=(evI G U it ρ).bind fun t=>((compGo (jcP tgs one nt caps fc (evE G U Ee)) t.1 t.2.2).pass (!T.deep)).bind fun ys=>.ok (.tmp (.l ys.1),unlk t.2.1 ys.2):=by
 obtain⟨⟨tg,iter,ks,a⟩,hg,h⟩:=jac (show (jgG gens).bind (joH T (trE T n) (trE { T with deep:=true } n) sc X.N elt scope)=some E' from h)
 cases jaM hg;replace h:=jal h;obtain⟨ha,h⟩:=h;have ha:a=0:=by simpa using ha
 subst ha;replace h:=jac h;obtain⟨⟨xs,one⟩,htg,h⟩:=h;replace h:=jal h;obtain⟨hc,h⟩:=h;replace h:=jle h;obtain⟨caps,it,Ee,Ec,hcaps,hit,helt,hks,rfl⟩:=h;simp only[joG,Bool.or_eq_false_iff,Bool.not_eq_false',beq_iff_eq]at hc;obtain⟨⟨⟨⟨⟨⟨c0,c1⟩,c2⟩,c3⟩,c4⟩,c5⟩,c6⟩:=hc;obtain⟨N,cn,fc,cd,ev⟩:=jiE (Ec:=Ec) D ih ihI htg c1 (fun y hy z=>by
  have:=List.all_eq_true.mp c2 y hy;rw[z]at this;simpa using this) (fun y hy z=>by
  have:=List.all_eq_true.mp c3 y hy;rw[z]at this;simpa using this) (jev c4) (fun x hx=>by simpa using List.all_eq_true.mp c5 x hx) (fun x hx=>by simpa using List.all_eq_true.mp c6 x hx) hcaps hit helt hks (!T.deep)
 exact⟨c0,tg,iter,ks,N,cn,xs.length,caps,_,one,it,fc,Ee,Ec,rfl,rfl,cd,ev⟩
theorem jkl {f:Str}{args:List Expr}{bf:Bf}{b:Expr}(h:jiz T sc f args=some (bf,b)):∃g p2 pos2,args=[.Call (.Name g p2) [b] [] pos2]/\T.quiet=false/\jc9 g=false/\knd sc g=2/\jmA f g=some bf:=by
 replace h:=jac h;obtain⟨c,h1,h⟩:=h;cases jaM h1;replace h:=jac h;obtain⟨⟨g,as⟩,h2,h⟩:=h;obtain⟨np,pos,rfl⟩:=jch h2;replace h:=jac h;obtain⟨b',h3,h⟩:=h;have h3:=jaM h3;replace h:=jal h;obtain⟨hc,h⟩:=h;replace h:=jaq h;obtain⟨bf',q,e⟩:=h;cases e;replace hc:=jaZ hc;obtain⟨hc,_⟩:=hc;replace hc:=jaZ hc;obtain⟨hc,c3⟩:=hc;replace hc:=jaZ hc;obtain⟨c1,c2⟩:=hc;refine⟨g,np,pos,?_,c1,c2,jeo c3,q⟩;rw[show as=[b] from h3]
theorem Says.nt {X:Cx}{e:Expr}{E':E}(pe:∀B,PE X e (tE Z X B (evE G U E')))(hT:∀ρ,evT G U E' ρ=.stk)(ns:∀a p,e≠.Starred a p):Says G U Z X e E':=
 ⟨pe,fun B=>by rw[tT.congr hT];exact jos,ns⟩
theorem lrB {g:Bf}{Ea:E}(ρ:Rho):Lr (evT G U (.blt g Ea) ρ) (trF (evE G U (.blt g Ea)) ρ):=by
 simp only[evT,trF,evE,R.bind_assoc,R.bind_ok'];exact Lr.refl.bind fun _=>Lr.refl.bind fun _=>Lr.refl.bind fun _=>Lr.deref.bind fun _=>Lr.refl
theorem lrO {o:Op}{a b:E}(ρ:Rho):Lr (evT G U (.bin o a b) ρ) (trF (evE G U (.bin o a b)) ρ):=by
 simp only[evT,trF,evE,R.bind_assoc,R.bind_ok'];exact Lr.refl.bind fun _=>Lr.refl.bind fun _=>Lr.refl.bind fun _=>Lr.refl.bind fun _=>Lr.refl.bind fun _=>Lr.deref.bind fun _=>Lr.refl
theorem jci:∀(n:Nat) (T:Tab) (X:Cx) (sc:List (Str×NameKind)) (e:Expr) (E':E),XD T G U Z m X sc->trE T n sc X.N e=some E'->Says G U Z X e E':=by
 intro n;induction n with
 |zero=>intro T X sc e E' D h;exact jah h
 |succ n ihT=>
  intro T X sc e E' D h;have ih:=ihT T;have hK:=D.hK;have ih1:∀e E',trE T n sc X.N e=some E'->Says G U Z X e E':=fun e E' h=>ih X sc e E' D h;have lit:∀{e:Expr}{d:DJ.D}{v:V},PE X e (tC v)->(∀whole,isTrue e X.env whole=(do let v <-whole;standAt e.pos;holding [v] (truthy v)))->(∀a p,e≠.Starred a p)->(∀F H,Rep Z F H d v)->Says G U Z X e (.lit d):=fun {e d v} h1 h2 h3 h4=>
   Says.mk' hK (fun B=>jml h1 h4) h2 h3 fun ρ=>by simp only[evT,trF,evE,R.bind_ok',deref];exact Lr.refl
  have prd:∀{vs:List Expr}{es:List E},mapO (trE T n sc X.N) vs=some es->∀B,Paired (fun e E'=>PE X e (tE Z X B (evE G U E'))/\PT X e (tT Z X B (evT G U E'))) vs es:=fun q B=>jbU (fun e E' z=>⟨(ih1 _ _ z).pe B,(ih1 _ _ z).pt B⟩) q;have prn:∀{vs:List Expr}{es:List E},mapO (trE T n sc X.N) vs=some es->∀B,Paired (fun e E'=>PE X e (tE Z X B (evE G U E'))/\∀a p,e≠.Starred a p) vs es:=fun q B=>jbU (fun e E' z=>⟨(ih1 _ _ z).pe B,(ih1 _ _ z).ns⟩) q;have h0:=h;cases e with
  |Constant c k pos=>
   replace h:=jaq h;obtain⟨d,hl,rfl⟩:=h;cases c with
   |none=>cases hl;exact lit jnE (fun _=>rfl) (fun _ _ z=>by cases z) fun _ _=>by simp only[Rep]
   |bool v=>cases hl;exact lit jpm (fun _=>rfl) (fun _ _ z=>by cases z) fun _ _=>by simp only[Rep]
   |int i=>cases hl;exact lit jnD (fun _=>rfl) (fun _ _ z=>by cases z) fun _ _=>by simp only[Rep]
   |str x=>cases hl;exact lit jnF (fun _=>rfl) (fun _ _ z=>by cases z) fun _ _=>by simp only[Rep]
   |_=>exact jah hl
  |Name x pos=>
   replace h:=jal h;obtain⟨hb,h⟩:=h;replace h:=jaC h;rcases h with ⟨hk,h⟩ | h
   ·replace h:=jaq h;obtain⟨i,q,rfl⟩:=h;refine Says.mk' hK (fun B=>jj6 (pos:=pos) D (by simpa using hk) (jaG q) hb) (fun _=>rfl) (fun _ _ z=>by cases z) fun ρ=>?_
    simp only[evT,trF,evE];cases e:ρ[i]? with
    |none=>exact Lr.none
    |some s=>
     cases s with
     |no=>exact Lr.none
     |_=>simp only[R.bind_ok',deref,e];exact Lr.refl
   ·replace h:=jal h;obtain⟨hk,h⟩:=h;replace h:=jaq h;obtain⟨d,q,rfl⟩:=h;obtain⟨u,v,hm,rv,rp⟩:=D.cons x d q;exact lit (jhl (D.gl (jeo hk)) hm rv (jdw hb).1) (fun _=>rfl) (fun _ _ z=>by cases z) rp
  |BinOp l op r pos=>
   replace h:=jcq h;obtain⟨o,El,Er,ho,hl,hr,rfl⟩:=h;have Sl:=ih1 _ _ hl;have Sr:=ih1 _ _ hr;cases jmC ho;refine Says.mk' hK (fun B=>PE.imp (jpw (jpN hK o) (Sl.pe B) (Sr.pe B)) fun σ H Q q=>tE.two (fun _ _ _=>jl9) (fun _ _ _=>jjW) (by simpa only[evE] using q)) (fun _=>rfl) (fun _ _ z=>by cases z) lrO
  |UnaryOp o a pos=>
   replace h:=jbD h;obtain⟨f,Ea,ho,q,rfl⟩:=h;have S:=ih1 _ _ q;cases o with
   |Not=>
    cases ho;exact⟨fun B=>PE.imp (jnM (S.pe B)) fun σ H Q z=>jmf (by simpa only[evE] using z),fun B=>PT.imp (jnI (S.pt B)) fun σ H Q z=>jj2 (by simpa only[evT] using z),fun _ _ z=>by cases z⟩
   |_=>exact jah ho
  |BoolOp o vs pos=>
   replace h:=jac h;obtain⟨es,q,h⟩:=h;cases o with
   |And=>exact⟨fun B=>(jih (prd q B) h).1,fun B=>(jih (prd q B) h).2.pt,fun _ _ z=>by cases z⟩
   |Or=>exact⟨fun B=>(jlg (prd q B) h).1,fun B=>(jlg (prd q B) h).2.pt,fun _ _ z=>by cases z⟩
  |Compare a os cs pos=>
   replace h:=jac h;obtain⟨⟨op,c⟩,h1,h⟩:=h;replace h1:=jbD h1;obtain⟨op',c',e1,e2,e3⟩:=h1;cases e3;cases jaM e1;cases jaM e2;replace h:=jal h;obtain⟨hmk,h⟩:=h;replace h:=jcq h;obtain⟨o,Ea,Ec,ho,ha,hc,rfl⟩:=h;have Sa:=ih1 _ _ ha;have Sc:=ih1 _ _ hc;cases jmD ho;have ok:=jpP (X:=X) hK D.un o;have be:∀x y c,bD (cmD o) x y≠.err c:=fun x y c z=>by
    unfold bD at z;cases e:cmD o x y with
    |ok b=>rw[e]at z;cases z
    |err c'=>exact jmc e
    |stk=>rw[e]at z;cases z
   have bs:∀x y i,bD (cmD o) x y≠.ok (.slot i):=fun x y i z=>by
    unfold bD at z;obtain⟨b,_,z⟩:=R.bind_ok z;cases z
   refine⟨fun B=>PE.imp (jlI ok (Sa.pe B) (Sc.pe B) hmk) fun σ H Q q=>tE.two be bs (by simpa only[evE,bD,R.bind_assoc,R.bind_ok'] using q),fun B=>PT.imp (jlJ ok (Sa.pe B) (Sc.pe B) hmk) fun σ H Q q=>?_,fun _ _ z=>by cases z⟩
   have q2:=tT.toE (by simpa only[evT] using q)
   simp only[R.bind_assoc,R.bind_ok']at q2;exact tE.two be bs (by simpa only[bD,R.bind_assoc,R.bind_ok'] using q2)
  |IfExp c a b pos=>
   replace h:=jcq h;obtain⟨Ec,Ea,Eb,hc,ha,hb,rfl⟩:=h;have Sc:=ih1 _ _ hc;have Sa:=ih1 _ _ ha;have Sb:=ih1 _ _ hb;exact Says.nt (fun B=>PE.imp (jjp (Sc.pt B) (Sa.pe B) (Sb.pe B)) fun σ H Q z=>jou (by simpa only[evE] using z)) (fun ρ=>by simp only[evT]) fun _ _ z=>by cases z
  |Tuple es k pos=>
   replace h:=jaq h;obtain⟨Es',q,rfl⟩:=h;exact Says.nt (fun B=>jmm (prn q B)) (fun ρ=>by simp only[evT]) fun _ _ z=>by cases z
  |List es pos=>
   replace h:=jaq h;obtain⟨Es',q,rfl⟩:=h;exact Says.nt (fun B=>jmn (prn q B)) (fun ρ=>by simp only[evT]) fun _ _ z=>by cases z
  |Subscript a i pos=>
   replace h:jpZ (trE T n sc X.N) a i=some E':=h;unfold jpZ at h;cases hs:jmB i with
   |some p=>
    rw[hs]at h;obtain⟨lo,hi,st⟩:=p;obtain⟨p2,rfl⟩:=jiA hs;replace h:=jal h;obtain⟨hst,h⟩:=h;cases st with
    |some _=>cases hst
    |none=>
    replace h:=jcq h;obtain⟨Ea,Elo,Ehi,ha,hlo,hhi,rfl⟩:=h;have Sa:=ih1 _ _ ha;have part:∀{o:Option Expr}{O:Oe},jpW (trE T n sc X.N) o=some O->∀B,PO X o (tO Z X B (evO G U O)):=fun {o O} z B=>by
     cases o with
     |none=>cases z;exact jox
     |some e=>
      obtain⟨E',q,rfl⟩:=jaq z;exact joy ((ih1 _ _ q).pe B)
    refine Says.mk' hK (fun B=>PE.imp (jjz (jpS hK) (Sa.pe B) (part hlo B) (part hhi B)) fun σ H Q q=>tE.slice (by simpa only[evE] using q)) (fun _=>rfl) (fun _ _ z=>by cases z) fun ρ=>?_
    simp only[evT,trF,evE,R.bind_assoc,R.bind_ok'];exact Lr.refl.bind fun _=>Lr.refl.bind fun _=>Lr.refl.bind fun _=>Lr.refl.bind fun _=>Lr.refl.bind fun _=>Lr.deref.bind fun _=>Lr.refl
   |none=>
    rw[hs]at h;replace h:=jbD h;obtain⟨Ea,Ei,ha,hi',rfl⟩:=h;have Sa:=ih1 _ _ ha;have Si:=ih1 _ _ hi';refine Says.mk' hK (fun B=>PE.imp (jpG (jpR hK) (Sa.pe B) (Si.pe B) (jj8 fun a b c d z=>by subst z;cases hs)) fun σ H Q q=>tE.two (fun x y c z=>?_) (fun x y i z=>?_) (by simpa only[evE,jph,R.bind_assoc,R.bind_ok'] using q)) (fun _=>rfl) (fun _ _ z=>by cases z) fun ρ=>?_
    ·unfold jph at z;cases e:jfP x y with
     |ok d=>rw[e]at z;cases z
     |err c'=>exact jj7 e
     |stk=>rw[e]at z;cases z
    ·unfold jph at z;obtain⟨d,_,z⟩:=R.bind_ok z;cases z
    ·simp only[evT,trF,evE,R.bind_assoc,R.bind_ok',deref];exact Lr.refl
  |Call fn args ks pos=>
   replace h:=jal h;obtain⟨hks,h⟩:=h;cases jaQ hks;replace h:=jbp h;rcases h with ⟨f,hn,h⟩ | h
   ·obtain⟨p,rfl⟩:=jaR hn;replace h:=jal h;obtain⟨hc,h⟩:=h;replace hc:=jaZ hc;obtain⟨hb,hf⟩:=hc;have hf:=jeo hf;cases hk:jcQ T.defs f with
    |some k=>
     rw[hk]at h;replace h:=jal h;obtain⟨hq,h⟩:=h;replace h:=jaq h;obtain⟨es,q,rfl⟩:=h;refine Says.mk' hK (fun B=>jj5 D hq hf hb hk (prn q B)) (fun _=>rfl) (fun _ _ z=>by cases z) fun ρ=>?_
     simp only[evT,trF,evE,R.bind_assoc,R.bind_ok'];exact Lr.refl.bind fun _=>Lr.refl.bind fun _=>Lr.refl.bind fun _=>Lr.deref.bind fun _=>Lr.refl
    |none=>
     rw[hk]at h;replace h:jp0 T sc (trE T n sc X.N) f args=some E':=h;unfold jp0 at h;cases hnest:jiz T sc f args with
     |some p'=>
      rw[hnest]at h;obtain⟨bf,b⟩:=p';replace h:=jaq h;obtain⟨Eb,q,rfl⟩:=h;have S:=ih1 _ _ q;obtain⟨g,p2,pos2,rfl,hq,hb2,hg2,hnf⟩:=jkl hnest;exact Says.mk' hK (fun B=>jki (p:=p) (pos:=pos) D hq hf hb hg2 hb2 (S.pe B) S.ns hnf) (fun _=>rfl) (fun _ _ z=>by cases z) lrB
     |none=>
      rw[hnest]at h;cases args with
      |nil=>exact jah h
      |cons a r=>
       cases r with
       |nil=>
        replace h:=jbD h;obtain⟨g,Ea,hg,ha,rfl⟩:=h;have S:=ih1 _ _ ha;exact Says.mk' hK (fun B=>jmx (p:=p) (pos:=pos) D hf hb (S.pe B) S.ns hg) (fun _=>rfl) (fun _ _ z=>by cases z) lrB
       |cons b r=>
        cases r with
        |cons c r=>exact jah h
        |nil=>
         replace h:=jaC h;rcases h with ⟨hfi,h⟩ | h
         ·cases jb2 hfi;replace h:=jac h;obtain⟨ks,hks,h⟩:=h;replace h:=jal h;obtain⟨hl,h⟩:=h;replace h:=jaq h;obtain⟨Ea,ha,rfl⟩:=h;have S:=ih1 _ _ ha;refine Says.mk' hK (fun B=>jmu (p:=p) (pos:=pos) D hf (of_decide_eq_true (ja8 hl)) (S.pe B) S.ns hks) (fun _=>rfl) (fun _ _ z=>by cases z) fun ρ=>?_
          simp only[evT,trF,evE,R.bind_assoc,R.bind_ok',deref,jbz];exact Lr.refl
         replace h:=jaC h;rcases h with ⟨hm,h⟩ | h
         ·cases jb2 hm;replace h:=jal h;obtain⟨hq,h⟩:=h;replace h:=jbD h;obtain⟨Ea,Eb,ha,hb',rfl⟩:=h;have Sa:=ih1 _ _ ha;have Sb:=ih1 _ _ hb';exact Says.nt (fun B=>joF (p:=p) (pos:=pos) D (jhr (D.calm hq)) (D.blt _ (by decide +kernel)) (by decide +kernel) hb hf (Sa.pe B) Sa.ns (Sb.pe B) Sb.ns fun ρ=>by simp only[evE,jpi,jqM,R.bind_assoc,R.bind_ok']) (fun ρ=>by simp only[evT]) fun _ _ z=>by cases z
         exact jah h
   replace h:=jac h;obtain⟨⟨v,m',apos⟩,hn,h⟩:=h;cases jf9 hn;replace h:=jaC h;rcases h with ⟨hm,h⟩ | h
   ·cases jb2 hm;replace h:=jal h;obtain⟨hc,h⟩:=h;replace h:=jaq h;obtain⟨Ev,q,rfl⟩:=h;replace hc:=jaZ hc;obtain⟨hc,c3⟩:=hc;replace hc:=jaZ hc;obtain⟨c1,c2⟩:=hc;cases jaQ c3;exact Says.mk' hK (fun B=>jkg ((ih1 _ _ q).pe B) (jiC (ja8 c1)) (ja8 c2)) (fun _=>rfl) (fun _ _ z=>by cases z) lrB
   replace h:=jbp h;rcases h with ⟨sf,hsf,h⟩ | h
   ·replace h:=jal h;obtain⟨hc,h⟩:=h;replace hc:=jaZ hc;obtain⟨c1,c2⟩:=hc;replace h:=jac h;obtain⟨a,ha,h⟩:=h;cases jaM ha;replace h:=jbD h;obtain⟨Ev,Ea,q1,q2,rfl⟩:=h;exact Says.nt (fun B=>joD hK hsf ((ih1 _ _ q1).pe B) ((ih1 _ _ q2).pe B) (ih1 _ _ q2).ns (jiC (ja8 c1)) (ja8 c2)) (fun ρ=>by simp only[evT]) fun _ _ z=>by cases z
   replace h:=jac h;obtain⟨x,hv,h⟩:=h;obtain⟨xp,rfl⟩:=jaR hv;replace h:=jal h;obtain⟨hc,h⟩:=h;replace h:=jaq h;obtain⟨i,q,rfl⟩:=h;replace hc:=jaZ hc;obtain⟨hc,c5⟩:=hc;replace hc:=jaZ hc;obtain⟨hc,c4⟩:=hc;replace hc:=jaZ hc;obtain⟨hc,c3⟩:=hc;replace hc:=jaZ hc;obtain⟨c1,c2⟩:=hc;cases jaQ c5;cases jb2 (ja8 c3);exact Says.nt (fun B=>jmv D (jeo c2) (jaG q) c1 (ja8 c4)) (fun ρ=>by simp only[evT]) fun _ _ z=>by cases z
  |ListComp elt gens scope pos=>
   obtain⟨hq,tg,iter,ks,N,cn,nt,caps,tgs,one,it,fc,Ee,Ec,e1,rfl,cd,ev⟩:=jey D ih (ihT _) h0;cases e1;refine Says.nt (fun B=>?_) (fun ρ=>by simp only[evT]) fun _ _ z=>by cases z
   have:=jmw (pos:=pos) hK (D.calm hq) cd.C (cd.hi B) cd.hT cd.hlow cd.hE (xx:=!T.deep) (fun z=>D.top (by cases e:T.deep with | false=>rfl | true=>rw[e]at z;cases z)) cd.hK cd.hs
   rw[tE.congr ev];exact this
  |_=>exact jah h
end DJ
namespace DJ
open PySem PySem.Spec PyProof.Rows L2
section
variable {X:Cx}{pins:List (Addr×Obj)}{σ:L2.St}{H:Hp}{s:Shared}{B h':Heap}
theorem Inv.freeOf (I:Inv X pins σ H s){a:Addr}(h:s.heap.get? a=none):H a=none:=by
 cases e:H a with
 |none=>rfl
 |some o=>
  obtain⟨u,q⟩:=jlk (I.hok a o e);rw[h]at q;cases q
theorem jdy {E:XK}{ea:Addr}{cls a0:Value}(I:Inv X pins σ H s)(hfn:∀x,X.fn x=true)(hex:X.ex=[])(hst:X.stack=X.env::X.outer)(Hs:Has X pins H B)(k:B.StaysIn s.heap)(fl:Heap.FlyingW B X.outer ea cls a0 h')(up:s.heap.UpToSlots h')(hn:H ea=none)(q:E cls none H) :
  CXD X.prog X.w X.outer X.H₀ X.s₀ E (.ref ea) { s with heap:=h' }:=by
 have I':Inv X pins σ H { s with heap:=h' }:=Inv.flown (t':=s.toks) I hfn Hs k fl.1 up
 have b:=I'.base;rw[hex]at b;refine⟨ea,cls,a0,H,B,rfl,I'.os,I'.bare,b,I'.hok,fl,fun b o e n=>Hs.s0 b o e (fun z=>?_) (by rw[hex];simp),Hs.tr,hn,q⟩
 rcases List.mem_cons.mp (I.stkSub b z)with z | z
 ·have:=jrY e;rw[z]at this;exact absurd this (Nat.not_lt.mpr I.ok.above)
 ·exact n z
end
section
variable {P:Program}{w:World}{K:Frag}{mg:Str->Option Value}{base:Heap}{N:List Str}{qual:Str}{scope:Scope}{f:Addr}{cd:Value}{A:Around}{outer:List Env}{s s':Shared}{H H':Hp}{E:XK}{pins:List (Addr×Obj)}{σ:L2.St}{ea:Addr}{cls:Value}
theorem joI (I:Inv (jgu (CXD P w) P w K mg base N qual scope f cd A outer s H E) pins σ H' s')(fl:FlyC (jgu (CXD P w) P w K mg base N qual scope f cd A outer s H E) pins ea cls H' s')(q:E cls none H'):(jgu (CXD P w) P w K mg base N qual scope f cd A outer s H E).xe (.ref ea) s':=by
 obtain⟨⟨a0,B,fly,c1,c2,c3,c4⟩,hn⟩:=fl;refine jgJ (B:=B) (cls:=cls) (a0:=a0) I.ok.frames rfl fly fun h'' fl'' up=>?_;exact jdy I (fun _=>rfl) rfl rfl ⟨c1,c2,c3,c4⟩ fly.stays fl'' up hn q
theorem jmE {h':Heap}{vs:List Value}(I:Inv (jgu (CXD P w) P w K mg base N qual scope f cd A outer s H E) pins σ H' s')(mk:Heap.MadeExcOf s'.heap h' ea cls vs)(q:E cls none H'):(jgu (CXD P w) P w K mg base N qual scope f cd A outer s H E).xe (.ref ea) { s' with heap:=h' }:=by
 have Hs:=Has.made I;have I':Inv (jgu (CXD P w) P w K mg base N qual scope f cd A outer s H E) pins σ H' { s' with heap:=h' }:=I.kept (t':=s'.toks) mk.keeps
 refine wpAny_leaves_madeW (base:=PySem.W.hideAll s'.heap (frs (jgu (CXD P w) P w K mg base N qual scope f cd A outer s H E).stack)) (h:=s'.heap) I.ok.frames rfl (fun b o e=>PySem.W.of_hideAll _ e) (jiv I.stack fun b hb=>PySem.W.hideAll_none _ hb) mk fun h'' t fl'' _ _ up=>?_;exact jdy I' (fun _=>rfl) rfl rfl Hs (fun b o e=>mk.keeps b o (PySem.W.of_hideAll _ e)) fl'' up (Inv.freeOf I mk.new) q
end
structure Rcl (K:Frag)(C:Addr):Prop where
 ex:∃(bmB:List Value) (B newId initId:String),PySem.W.excIn K C bmB newId=true/\ExcBaseFacts B newId initId bmB
 nm:∃x,PySem.W.nsIn K mainGlobals x=some (some (.ref C))
theorem jkm (l:List DictEntry):∃ls:List Str,∀x,x ∉ ls->l.find? (fun e=>e.key.isStr x)=none:=by
 induction l with
 |nil=>exact⟨[],fun _ _=>rfl⟩
 |cons e r ih=>
  obtain⟨ls,h⟩:=ih;by_cases hn:∃n,e.key.isStr n=true
  ·obtain⟨n,hn⟩:=hn;exact⟨n::ls,fun x hx=>(List.find?_cons_of_neg (p:=fun e:DictEntry=>e.key.isStr x) (a:=e) fun q=>hx (Value.isStr_inj _ _ _ q hn ▸ .head _)).trans (h x fun k=>hx (.tail _ k))⟩
  ·exact⟨ls,fun x hx=>(List.find?_cons_of_neg (p:=fun e:DictEntry=>e.key.isStr x) (a:=e) fun q=>hn ⟨x,q⟩).trans (h x hx)⟩
theorem jmF {K:Frag}{C:Addr}{bmB:List Value}{newId:String}{h:Heap}{mg:Str->Option Value}{x:Str}(p:Program)(M:Mod K mg h)(e:PySem.W.nsIn K mainGlobals x=some (some (.ref C)))(q:PySem.W.excIn K C bmB newId=true):OwnCls x C bmB newId mg h:=by
 obtain⟨mb,hb,hx⟩:=M.blt;obtain⟨o,es,ep,ho,hd,hs,hf⟩:=M.glob;obtain⟨ls,hl⟩:=jkm es.toList;exact PySem.W.own_of_in (p:=p) (loose:=ls) (mb:=mb) M.kin ⟨M.glob,hb,M.nolimit,hx,fun x _ h _ _ _=>by rw[<-hf x,nsFind,findBy,<-Array.find?_toList,hl x h];rfl⟩ e q
noncomputable def XM (Z:Kn)(X:Cx)(σ:L2.St)(ρ:Rho)(H:Hp)(c:Nat):Prop:=∀(pins:List (Addr×Obj)) (H1:Hp) (s1:Shared) (h':Heap) (ea C:Addr) (vs:List Value),Z.cl[c]?=some C->Inv X pins σ H1 s1->Stl σ ρ H H1->Heap.MadeExcOf s1.heap h' ea (.ref C) vs->X.xe (.ref ea) { s1 with heap:=h' }
noncomputable def joJ (X:Cx)(C:Addr)(t:TA):TS:=fun D σ H=>t σ H fun vs H1=>vs.length<=sizeLine/\∀(pins:List (Addr×Obj)) (s1:Shared) (h':Heap) (ea:Addr) (us:List Value),Inv X pins σ H1 s1->Heap.MadeExcOf s1.heap h' ea (.ref C) us->X.xe (.ref ea) { s1 with heap:=h' }
theorem jkn {X:Cx}{C:Addr}{x:Str}{np cpos pos:Pos}{a:Expr}{t:TA}(hc:X.calm=true)(R:Rcl X.K C)(hg:Gl X x)(hm:X.mg x=some (.ref C))(hd:(x == ("__debug__":Str))=false)(ha:PA X [a] t)(ns:∀e q,a≠.Starred e q) :
  PS X (.Raise (some (.Call (.Name x np) [a] [] cpos)) none pos) (joJ X C t):=by
 intro pins s σ H D I h;obtain⟨⟨bmB,Bn,newId,initId,q,FB⟩,_,qx⟩:=R;have he:starEach [a] X.env=(false,eval a X.env)::starEach [] X.env:=jaf ns;obtain⟨tl,N,nm,qn,bs,hdct,sn,sub,ab,col,dd,k0,k1,k2,k3,k5,mN,hC0,hN0,hni,T0⟩:=(jmF X.prog I.ok.mod qx q).obj;have run:=ha cpos pins s σ H _ I h;refine wpAny_Raise_call_subT (C:=C) (nm:=nm) (q:=qn) (N:=N) (bs:=bs) (bm:=tl) (hdct:=hdct) (sn:=sn) (sub:=sub) (ab:=ab) (col:=col) (dd:=dd) (k0:=k0) (k1:=k1) (k2:=k2) (k3:=k3) (k5:=k5) FB (mN:=mN) (T0.hasType FB.hasBase) (I.ok.hd hc) (by rw[he];rfl) hni (jcF I hg hm ⟨rfl,?_⟩ hd)
 rw[he]at run ⊢;refine Calls.evalArgs_plain (thn run fun us s1 hzz=>?_);obtain⟨vs,H1,I1,r,q1,q2⟩:=hzz;have kp:∀b o,X.base.get? b=some o->s1.heap.get? b=some o:=fun b o e=>(I1.bs b o e).1;exact⟨rfl,by rw[<-r.length];exact q1,kp _ _ hC0,hN0.keeps kp,T0.keeps kp,fun h' e mk=>q2 pins s1 h' e us I1 mk⟩
end DJ
namespace DJ
open PySem PySem.Spec PyProof.Rows L2
noncomputable def FlP (Z:Kn)(B:Bs)(σ:L2.St)(ρ:Rho)(F:Addr->Prop)(H:Hp)(D:Ends):Fl->Prop
 |.nx ρ'=>∀σ' F' H',Go σ ρ F H σ' ρ' F' H'->SR Z B F' H' σ' ρ'->D.nx σ' H'
 |.bk ρ'=>∀σ' F' H',Go σ ρ F H σ' ρ' F' H'->SR Z B F' H' σ' ρ'->D.bk σ' H'
 |.ct ρ'=>∀σ' F' H',Go σ ρ F H σ' ρ' F' H'->SR Z B F' H' σ' ρ'->D.ct σ' H'
 |.rt v ρ'=>∀u σ' F' H',(∀i,v≠.slot i)->Go σ ρ F H σ' ρ' F' H'->SR Z B F' H' σ' ρ'->RV Z F' B.hp H' σ' ρ' v u->D.rt u H'
noncomputable def XS (Z:Kn)(X:Cx)(σ:L2.St)(ρ:Rho)(F:Addr->Prop)(H:Hp)(c:Nat):Prop:=∀σ' ρ' F' H',Go σ ρ F H σ' ρ' F' H'->XW Z X σ' ρ' H' c/\XM Z X σ' ρ' H' c
inductive tS_I (Z:Kn) (X:Cx) (B:Bs) (f:Rho->R Fl) (D:L2.Ends) (σ:L2.St) (H:L2.Hp):Prop
 |mk (F:_) (ρ:_):(SR Z B F H σ ρ)->(Ok (XS Z X σ ρ F H) (f ρ) (FlP Z B σ ρ F H D))->tS_I Z X B f D σ H
noncomputable def tS (Z:Kn)(X:Cx)(B:Bs)(f:Rho->R Fl):TS:=fun D σ H=>tS_I Z X B f D σ H
inductive tSx_I (Z:Kn) (X:Cx) (B:Bs) (f:Rho->R Fl) (D:L2.Ends) (σ:L2.St) (H:L2.Hp):Prop
 |mk (F:_) (ρ:_):(SR Z B F H σ ρ)->(Ok (XW Z X σ ρ H) (f ρ) (FlP Z B σ ρ F H D))->tSx_I Z X B f D σ H
noncomputable def tSx (Z:Kn)(X:Cx)(B:Bs)(f:Rho->R Fl):TS:=fun D σ H=>tSx_I Z X B f D σ H
section
variable {Z:Kn}{X:Cx}{B:Bs}{σ σ1:L2.St}{ρ ρ1:Rho}{F F1:Addr->Prop}{H H1:Hp}{D:Ends}
theorem XS.xw {c:Nat}(h:XS Z X σ ρ F H c):XW Z X σ ρ H c:=(h σ ρ F H Go.refl).1
theorem XS.mono {c:Nat}(h:XS Z X σ ρ F H c)(g:Go σ ρ F H σ1 ρ1 F1 H1):XS Z X σ1 ρ1 F1 H1 c:=fun σ' ρ' F' H' g'=>h σ' ρ' F' H' (g.trans g')
theorem FlP.go {fl:Fl}(h:FlP Z B σ ρ F H D fl)(g:Go σ ρ F H σ1 ρ1 F1 H1):FlP Z B σ1 ρ1 F1 H1 D fl:=by
 cases fl with
 |nx ρ'=>exact fun σ' F' H' g' r=>h σ' F' H' (g.trans g') r
 |bk ρ'=>exact fun σ' F' H' g' r=>h σ' F' H' (g.trans g') r
 |ct ρ'=>exact fun σ' F' H' g' r=>h σ' F' H' (g.trans g') r
 |rt v ρ'=>exact fun u σ' F' H' n g' r q=>h u σ' F' H' n (g.trans g') r q
theorem PS.x {s:Stmt}{f:Rho->R Fl}(h:PS X s (tSx Z X B f)):PS X s (tS Z X B f):=PS.imp h fun D σ H ⟨F,ρ,r,q⟩=>⟨F,ρ,r,q.imp (fun c w=>w.xw) fun _ z=>z⟩
theorem SR.unname (r:SR Z B F H σ ρ){k:Nat}:SR Z B F H (σ.set k none) (ρ.set k .no):=by
 have get:∀{j:Nat}{s:Sl},s≠.no->(ρ.set k .no)[j]?=some s->ρ[j]?=some s/\(σ.set k none)[j]?=σ[j]?:=fun {j s} hs h=>by
  rw[jrv]at h;by_cases e:k=j
  ·rw[if_pos e]at h;split at h
   ·cases h;exact absurd rfl hs
   ·cases h
  ·rw[if_neg e]at h;exact⟨h,jrJ e⟩
 refine⟨r.dom,by simp[r.len],fun i d h=>?_,fun i o f kk h=>?_,fun i j o o' f kk f' k' l ne h h'=>?_,r.base⟩
 ·obtain⟨a,b⟩:=get (by intro z;cases z) h
  rw[b];exact r.dat i d a
 ·obtain⟨a,b⟩:=get (by intro z;cases z) h
  rw[b];exact r.own i o f kk a
 ·obtain⟨a,b⟩:=get (by intro z;cases z) h
  obtain⟨a',b'⟩:=get (by intro z;cases z) h'
  rw[b,b'];exact r.one i j _ _ _ _ _ _ l ne a a'
theorem Go.unname {k:Nat}:Go σ ρ F H (σ.set k none) (ρ.set k .no) F H:=by
 refine⟨fun _ _ h _=>h,fun _ h=>h,fun _ h=>.inl h,fun j o f kk b h1 h2=>?_,fun _ o h=>⟨o,h⟩⟩;rw[jrv]at h1;by_cases e:k=j
 ·rw[if_pos e]at h1;split at h1 <;> cases h1
 ·rw[if_neg e]at h1;rw[jrJ e]at h2;exact .inl ⟨o,kk,h1,h2,id⟩
theorem Inv.unname {pins:List (Addr×Obj)}{s:Shared}{m:Str->Option Value}{k:Nat}{n:Str}{h':Heap}{v:Option Value}{t':Nat}(I:Inv X pins σ H s)(nd:X.N.Nodup)(hk:X.N[k]?=some n)(hn:s.heap.Ns X.env.locals m)(hl:∀(i:Nat) (x:Str) (v:V),X.N[i]?=some x->σ[i]?=some (some v)->Vis X.env.scope x->∃u,RelV v u/\Look X.env s.heap m x u)
  (hn':h'.Ns X.env.locals (fun x=>if x=n then v else m x)) (hs:Heap.SameBut X.env.locals s.heap h'):Inv X pins (σ.set k none) H { s with heap:=h',toks:=t' }:=by
 have ne:∀{b:Addr}{o:Obj},X.s₀.heap.get? b=some o->b≠X.env.locals:=fun e=>jr3 (jr2 (jrY e) I.ok.above);refine⟨I.ok,I.os,I.bare,⟨fun b o e q hb hx=>(hs.2 b (ne e)).trans (I.base.keep b o e q hb hx),fun b o e q hb hx=>?_,I.base.free,fun b o e hx=>?_,I.base.tups,I.base.frzs,I.base.tbls⟩,⟨_,hn',fun j y w e1 e2 e3=>?_⟩,fun y c e=>?_,I.free,I.freeC,fun p hp=>?_,fun b u e=>?_,by simpa using I.len⟩
 ·obtain⟨sl,e1⟩:=I.base.slot b o e q hb hx;exact⟨sl,(hs.2 b (ne e)).trans e1⟩
 ·obtain⟨o',e1⟩:=I.base.there b o e hx;exact⟨o',(hs.2 b (ne e)).trans e1⟩
 ·by_cases hj:k=j
  ·subst hj;rw[jrv]at e2;rw[if_pos rfl]at e2;split at e2 <;> cases e2
  ·rw[jrJ hj]at e2;obtain⟨u,ru,q⟩:=hl j y w e1 e2 e3;refine⟨u,ru,?_⟩;rcases q with ⟨kd,e⟩ | ⟨kd,c,e,z⟩
   ·refine .inl ⟨kd,?_⟩;have:y≠n:=fun e=>hj (jcw nd (e ▸ hk) e1);simp[this,e]
   ·exact .inr ⟨kd,c,e,z.sameBut hs (I.cne y c e)⟩
 ·obtain⟨w',z⟩:=I.cell y c e;exact⟨w',z.sameBut hs (I.cne y c e)⟩
 ·obtain⟨e,q,n1,nf,d⟩:=I.pin p hp;exact⟨(hs.2 p.1 n1).trans e,q,n1,nf,d⟩
 ·refine(I.hok b u e).stay (fun c w' hc q=>(hs.2 c ?_).trans q) (fun _ q=>q) fun _ _ q=>q;rintro rfl;rcases hc with rfl | hc
  ·rw[I.free]at e;cases e
  ·rw[I.free]at hc;cases hc
theorem Inv.track {pins:List (Addr×Obj)}{s:Shared}{a:Addr}{o:HO}(I:Inv X pins σ H s)(hn:H a=none)(h0:X.s₀.heap.get? a=none)(hL:a≠X.env.locals)(hc:∀x c,X.env.cells.lookup x=some c->c≠a)(hp:∀p∈X.pn++pins,p.1≠a)
  (ok:ObjOk X.prog X.w (upd H a o) s.heap a o):Inv X pins σ (upd H a o) s:=by
 refine⟨I.ok,I.os,I.bare,⟨I.base.keep,I.base.slot,fun b ob e q hx=>?_,I.base.there,fun b xs e=>?_,fun b ob u e=>?_,fun b ps e=>?_⟩,I.loc,I.cell,?_,fun x c e=>?_,fun p hp'=>?_,fun b u e=>?_,I.len⟩
 ·rw[jad (fun z=>by rw[z,h0]at e;cases e)];exact I.base.free b ob e q hx
 ·have:=I.base.tups b xs e;rw[jad (jab this hn)];exact this
 ·have:=I.base.frzs b ob u e;rw[jad (jab this hn)];exact this
 ·obtain⟨more,this⟩:=I.base.tbls b ps e;exact⟨more,by rw[jad (jab this hn)];exact this⟩
 ·rw[jad (Ne.symm hL)];exact I.free
 ·rw[jad (hc x c e)];exact I.freeC x c e
 ·obtain⟨e,q,r⟩:=I.pin p hp';exact⟨e,by rw[jad (hp p hp')];exact q,r⟩
 ·by_cases hb:b=a
  ·subst hb;rw[jan]at e;cases e;exact ok
  ·rw[jad hb]at e;refine(I.hok b u e).stay (fun c w' hc q=>q) (fun c q=>?_) fun c ts q=>?_
   ·rw[jad (jab q hn)];exact q
   ·rw[jad (jab q hn)];exact q
end
noncomputable def jnv (X:Cx)(pins:List (Addr×Obj))(E':Value->Shared->Prop):Cx:={ X with xe:=E',pn:=X.pn++pins }
noncomputable def jiF (X:Cx)(pins:List (Addr×Obj))(ea:Addr):Cx:={ X with A:=X.A.mark (some (.ref ea)),calm:=false,xe:=fun _ _=>False,pn:=X.pn++pins }
section
variable {X:Cx}{pins pins':List (Addr×Obj)}{σ:L2.St}{H:Hp}{s:Shared}{E':Value->Shared->Prop}{ea:Addr}
theorem Inv.toTry (I:Inv X pins σ H s):Inv (jnv X pins E') [] σ H s:=
 ⟨⟨I.ok.mod,I.ok.kind,I.ok.glob,I.ok.blt,I.ok.above,I.ok.inj,I.ok.has,I.ok.cab,I.ok.hd,I.ok.frames,I.ok.stk,I.ok.exf,I.ok.bs,I.ok.bsz,I.ok.noex,I.ok.exfs,I.ok.funs,I.ok.frf⟩,I.os,I.bare,I.base,I.loc,I.cell,I.free,I.freeC,fun p hp=>I.pin p (by simpa[jnv] using hp),I.hok,I.len⟩
theorem Inv.ofTry (I:Inv (jnv X pins E') pins' σ H s):Inv X pins σ H s:=
 ⟨⟨I.ok.mod,I.ok.kind,I.ok.glob,I.ok.blt,I.ok.above,I.ok.inj,I.ok.has,I.ok.cab,I.ok.hd,I.ok.frames,I.ok.stk,I.ok.exf,I.ok.bs,I.ok.bsz,I.ok.noex,I.ok.exfs,I.ok.funs,I.ok.frf⟩,I.os,I.bare,I.base,I.loc,I.cell,I.free,I.freeC,fun p hp=>I.pin p (jrN _ hp),I.hok,I.len⟩
theorem Inv.toHnd (I:Inv X pins σ H s):Inv (jiF X pins ea) [] σ H s:=
 ⟨⟨I.ok.mod,I.ok.kind,I.ok.glob,I.ok.blt,I.ok.above,I.ok.inj,I.ok.has,I.ok.cab,(fun z=>nomatch z),I.ok.frames,I.ok.stk,I.ok.exf,I.ok.bs,I.ok.bsz,I.ok.noex,I.ok.exfs,I.ok.funs,I.ok.frf⟩,I.os,I.bare,I.base,I.loc,I.cell,I.free,I.freeC,fun p hp=>I.pin p (by simpa[jiF] using hp),I.hok,I.len⟩
theorem Inv.ofHnd (I:Inv (jiF X pins ea) pins' σ H s)(hd:X.calm=true->X.A.handled=none):Inv X pins σ H s:=
 ⟨⟨I.ok.mod,I.ok.kind,I.ok.glob,I.ok.blt,I.ok.above,I.ok.inj,I.ok.has,I.ok.cab,hd,I.ok.frames,I.ok.stk,I.ok.exf,I.ok.bs,I.ok.bsz,I.ok.noex,I.ok.exfs,I.ok.funs,I.ok.frf⟩,I.os,I.bare,I.base,I.loc,I.cell,I.free,I.freeC,fun p hp=>I.pin p (jrN _ hp),I.hok,I.len⟩
theorem XD.toTry {T:Tab}{G:Calls}{U:Nat->Nat->Bool}{Z:Kn}{n:Nat}{sc:List (Str×NameKind)}(D:XD T G U Z n X sc):XD T G U Z n (jnv X pins E') sc:=⟨D.hK,D.calm,D.nd,D.room,D.un,D.sc,D.blt,D.defs,D.cons,D.excs,D.ecl,D.sub,fun z=>⟨(D.top z).fn,(D.top z).st,(D.top z).fr⟩⟩
theorem XD.toHnd {T:Tab}{G:Calls}{U:Nat->Nat->Bool}{Z:Kn}{n:Nat}{sc:List (Str×NameKind)}(D:XD T G U Z n X sc):XD { T with quiet:=true } G U Z n (jiF X pins ea) sc:=⟨D.hK,(fun z=>nomatch z),D.nd,(fun z=>nomatch z),D.un,D.sc,D.blt,D.defs,D.cons,D.excs,D.ecl,D.sub,fun z=>⟨(D.top z).fn,(D.top z).st,(D.top z).fr⟩⟩
end
theorem jcj {ρ:Rho}{i:Nat}{o:O}{f k:Bool}:(ρ.map jcM)[i]?≠some (.own o f k):=by
 rw[jrw];cases ρ[i]? with
 |none=>intro z;cases z
 |some s=>cases s <;> (intro z;cases z)
theorem jgK {ρ:Rho}{i:Nat}{d:D}(h:(ρ.map jcM)[i]?=some (.dat d)):ρ[i]?=some (.dat d):=by
 rw[jrw]at h;cases e:ρ[i]? with
 |none=>rw[e]at h;cases h
 |some s=>rw[e]at h;cases s <;> cases h;rfl
theorem SR.refused {Z:Kn}{B:Bs}{σ:L2.St}{ρ:Rho}{F:Addr->Prop}{H H':Hp}{ea:Addr}{u:HO}(r:SR Z B F H σ ρ)(st:Stl σ ρ H H')(hn:H' ea=none):SR Z B (fun a=>F a\/a=ea) (upd H' ea u) σ (ρ.map jcM)/\Go σ ρ F H σ (ρ.map jcM) (fun a=>F a\/a=ea) (upd H' ea u):=by
 have up:∀{b:Addr}{o:HO},H' b=some o->upd H' ea u b=some o:=fun {b o} e=>by rw[jad (jab e hn)];exact e
 have kp:Keep F (fun a=>F a\/a=ea) H (upd H' ea u):=fun a ha=>by
  obtain⟨o,e⟩:=r.dom a ha;refine⟨.inl ha,?_⟩;rw[up (st.stay a o e fun m=>r.noF m.ow ha),e]
 refine⟨⟨fun a ha=>?_,by simp[r.len],fun i d h=>?_,fun i o f k h=>absurd h jcj,fun i j o o' f k f' k' l _ h=>absurd h jcj,fun b hb=>?_⟩,⟨fun b o e n=>up (st.stay b o e n),fun a ha=>.inl ha,fun a ha=>?_,fun j o f k b h=>absurd h jcj,fun b o e=>?_⟩⟩
 ·rcases ha with ha | ha
  ·obtain⟨o,e⟩:=r.dom a ha;exact⟨o,up (st.stay a o e fun m=>r.noF m.ow ha)⟩
  ·exact⟨u,by rw[ha];exact jan⟩
 ·obtain⟨v,e1,e2⟩:=r.dat i d (jgK h);exact⟨v,e1,e2.mono kp⟩
 ·refine r.base b ?_;cases e:H b with
  |none=>rfl
  |some o=>
   obtain⟨o',e'⟩:=st.there b o e;rw[up e']at hb;cases hb
 ·rcases ha with ha | ha
  ·exact .inl ha
  ·refine .inr (.inl ?_);cases e:H a with
   |none=>rfl
   |some o=>
    obtain⟨o',e'⟩:=st.there a o e;rw[ha,hn]at e';cases e'
 ·obtain⟨o',e'⟩:=st.there b o e;exact⟨o',up e'⟩
noncomputable def jpj (U:Nat->Nat->Bool)(fb fh:Rho->R Fl)(c k:Nat)(ρ:Rho):R Fl:=match fb ρ with
 |.err c'=>if U c' c then ((fh ((ρ.map jcM).set k (.dat (.exc c')))).noErr).bind fun r=>match r with
   |.nx ρ'=>.ok (.nx (ρ'.set k .no))
   |_=>.stk
  else .stk
 |r=>r
theorem joK {Z:Kn}{U:Nat->Nat->Bool}{X:Cx}{B:Bs}(hK:X.K=Z.K)(S:Ecs U Z)(hfn:∀x,X.fn x=true)(hex:X.ex=[])(hst:X.stack=X.env::X.outer)(hfr:X.env.frame=some X.env.locals)(hcalm:X.calm=true)(nd:X.N.Nodup)
  {st:Stmt}{x n:Str}{np hp pos:Pos}{b₀:Stmt}{suite:List Stmt}{c k:Nat}{C':Addr}{fb fh:Rho->R Fl} (hb:∀pins E',PS (jnv X pins E') st (tSx Z (jnv X pins E') B fb)) (hg:Gl X x) (hm:X.mg x=some (.ref C')) (hC':Z.cl[c]?=some C') (hd:(x == ("__debug__":Str))=false)
  (hk:X.N[k]?=some n) (hloc:X.env.scope.names.lookup n=some .local) (hh:∀pins ea,PSs (jiF X pins ea) (b₀::suite) (tS Z (jiF X pins ea) B fh)) :
  PS X (.Try [st] [.ExceptHandler (some (.Name x np)) (some n) (b₀::suite) hp] [] [] pos) (tS Z X B (jpj U fb fh c k)):=by
 intro pins s σ H D I hz1;obtain⟨F,ρ,r,h⟩:=hz1;refine wpAny_Try_except ?_;generalize hE:(fun (e:Value) (s₁:Shared)=>wpAny (model X.prog X.w) X.A (noteFrame e X.env) (fun _ s₂=>wpAny (model X.prog X.w) X.A (setFlight e none) (fun _ s₃=>wpAny (model X.prog X.w) X.A (handleBy e X.env [.ExceptHandler (some (.Name x np)) (some n) (b₀::suite) hp]) (SP X pins D) X.xe s₃) X.xe s₂) X.xe s₁)=E';have body:=jfJ (hb pins E') jhm [] s σ H D (Inv.toTry I) (by
  refine⟨F,ρ,r,?_⟩;unfold jpj at h;cases hf:fb ρ with
  |ok fl=>rw[hf]at h;exact h
  |stk=>rw[hf]at h;exact False.elim h
  |err c'=>
   rw[hf]at h;simp only at h;split at h
   ·rename_i hU;intro pins' H' s' ea C hC I' stl fly;have I1:Inv X pins σ H' s':=Inv.ofTry I';obtain⟨⟨a0,B0,fly0,c1,c2,c3,c4⟩,hn⟩:=fly;have Hs:Has X pins H' B0:=⟨c1,c2,fun p hp=>c3 p (jrN _ hp),c4⟩;have fly0':FlyA B0 (X.env::X.outer) ea (.ref C) a0 s'.heap:=by rw[<-hst];exact fly0
    have frm:X.A.frames=some (X.env::X.outer):=by rw[<-hst];exact I1.ok.frames
    show E' (.ref ea) s';rw[<-hE];refine jer (B:=B0) (cls:=.ref C) (a0:=a0) frm hfr fly0' fun h5 fly5 up5=>?_;have I5:Inv X pins σ H' { s' with heap:=h5 }:=Inv.flown (t':=s'.toks) I1 hfn Hs fly0.stays fly5.1 up5
    obtain⟨ob,hob,hobc⟩:=fly5.there;refine wpAny_handleBy_cons (codeAny_handlers_test ?_) (by intro q;cases q)
    refine jcF (X:=jiF X pins ea) (Inv.toHnd I5) hg hm ?_ hd;have e':ECls X.K C':=by rw[hK];exact S.ecl C' (jrD hC')
    have hsub:PySem.W.subIn X.K (.ref C) (.ref C')=some true:=by
     rw[hK];have:=S.sub c' c C C' hC hC';rw[hU]at this;exact this
    refine jeX (prog:=X.prog) (w:=X.w) (s:={ s' with heap:=h5 }) I5.kIn e' ⟨ob,hob,hobc⟩ hsub ?_
    refine codeAny_handlers_suite_as ?_;refine lands_againW (s:={ s' with heap:=h5 }) fly5 fun h6 fly6 up6=>?_
    have I6:Inv X pins σ H' { s' with heap:=h6 }:=Inv.flown (t':=s'.toks) I1 hfn Hs fly0.stays fly6.1 (up5.trans up6)
    obtain⟨oe,ws,hoe,hoec,hoed,_⟩:=fly6.first;have notB:B0.get? ea=none:=fly0.new;have notF:ea ∉ frs X.stack:=fun z=>by
     obtain⟨_,o2,q2,q3⟩:=I6.stack.mem z;have q2:h6.get? ea=some o2:=q2;rw[hoe]at q2;cases q2;exact q3 ws hoed
    have no:∀{b:Addr},(∃o',B0.get? b=some o')->b≠ea:=fun ⟨o',q⟩ z=>by rw[z,notB]at q;cases q
    have hL:ea≠X.env.locals:=fun z=>notF (by rw[hst];unfold frs;rw[jrG,hfr,z];exact jrs)
    have I6':Inv X pins σ (upd H' ea (.ext (jfR ea C))) { s' with heap:=h6 }:=by
     refine Inv.track I6 hn ?_ hL (fun y c hc=>no (Hs.cl y c (hfn y) hc)) (fun p hp=>no (Hs.pn p hp)) ⟨⟨oe,ws,hoe,hoec,hoed⟩,⟨oe,hoe⟩,fun h1 h2 ⟨o,vs,q1,q2⟩ kk=>⟨o,vs,kk o q1,q2⟩⟩;cases e:X.s₀.heap.get? ea with
     |none=>rfl
     |some o0=>
      exact absurd rfl (no (Hs.s0 ea o0 e notF (by rw[hex];simp)))
    refine jcx (X:=X) I6' nd hk (.inl hloc) (v:=.ref ea) rfl (fun s7 I7=>?_) (.inr hloc);obtain⟨r6,g6⟩:=r.refused (u:=.ext (jfR ea C)) stl hn;have r7:=r6.put (i:=k) (d:=.exc c') (v:=.ref ea) (by simp only[Rep];exact⟨ea,C,rfl,.inr rfl,hC,jan⟩)
    have g7:=g6.trans (Go.put (i:=k) (d:=.exc c') (v:=.ref ea));cases hfh:fh ((ρ.map jcM).set k (.dat (.exc c')))with
    |err c2=>rw[hfh]at h;exact False.elim h
    |stk=>rw[hfh]at h;exact False.elim h
    |ok fl=>
     rw[hfh]at h;have h:Ok (XS Z X σ ρ F H) (match fl with | .nx ρ'=>.ok (.nx (ρ'.set k .no)) | _=>.stk) (FlP Z B σ ρ F H D):=h
     refine jrW (hh pins ea [] s7 _ _ (Ends.mk (fun σ8 H8=>∃F8 ρ8,Go σ ρ F H σ8 ρ8 F8 H8/\SR Z B F8 H8 σ8 ρ8/\FlP Z B σ ρ F H D (.nx (ρ8.set k .no))) (fun _ _=>False) (fun _ _=>False) (fun _ _=>False)) (Inv.toHnd I7) ⟨_,_,r7,?_⟩) (fun f s8 q8=>?_) fun _ _ z=>False.elim z
     ·rw[hfh];cases fl with
      |nx ρ8=>exact fun σ' F' H'' g' r'=>⟨F',ρ8,g7.trans g',r',h⟩
      |bk _=>exact False.elim h
      |ct _=>exact False.elim h
      |rt _ _=>exact False.elim h
     ·cases f with
      |next=>
       obtain⟨σ8,H8,I8',F8,ρ8,g8,r8,q8⟩:=q8;have I8:Inv X pins σ8 H8 s8:=Inv.ofHnd I8' I.ok.hd;obtain⟨m,hns,hl⟩:=I8.loc;refine wpAny_nameGoes_keeps (env:=X.env) hloc hns (by rw[I8.ok.kind];rfl) fun h9 v ns9 sb9=>?_
       exact⟨σ8.set k none,H8,Inv.unname I8 nd hk hns hl ns9 sb9,q8 _ F8 H8 (g8.trans Go.unname) r8.unname⟩
      |brk=>obtain⟨_,_,_,q⟩:=q8;exact False.elim q
      |cont=>obtain⟨_,_,_,q⟩:=q8;exact False.elim q
      |ret u=>obtain⟨_,_,_,_,_,q⟩:=q8;exact False.elim q
   ·exact False.elim h)
 refine jrW body (fun f s1 q=>?_) fun e s1 q=>?_
 ·cases f with
  |next=>obtain⟨σ',H',I',q⟩:=q;exact wpAny_execs_nil ⟨σ',H',Inv.ofTry I',q⟩
  |brk=>obtain⟨σ',H',I',q⟩:=q;exact⟨σ',H',Inv.ofTry I',q⟩
  |cont=>obtain⟨σ',H',I',q⟩:=q;exact⟨σ',H',Inv.ofTry I',q⟩
  |ret u=>obtain⟨v,σ',H',I',rv,q⟩:=q;exact⟨v,σ',H',Inv.ofTry I',rv,q⟩
 ·exact q
end DJ
namespace DJ
open PySem PySem.Spec PyProof.Rows L2
section
variable {G:Calls}{U:Nat->Nat->Bool}{Z:Kn}{X:Cx}{B:Bs}
theorem RV.unlk {F:Addr->Prop}{H0 H:Hp}{σ:L2.St}{ρ:Rho}{lk:List Nat}{w:Vl}{v:V}(h:RV Z F H0 H σ ρ w v):RV Z F H0 H σ (unlk lk ρ) w v:=by
 cases w with
 |dat d=>exact h
 |tmp o=>obtain⟨l,e,h1,h2,h3,h4⟩:=h;exact⟨l,e,h1,fun z=>h2 z.unlk,h3,h4⟩
 |slot i=>exact h
theorem jko {v:Vl}{ρ:Rho}{c:Nat}:jjP v ρ≠.err c:=by
 cases v with
 |dat d=>intro z;cases z
 |tmp o=>intro z;cases z
 |slot i=>
  simp only[jjP];split <;> (intro z;cases z)
theorem joL {e:Expr}{f:Rho->R (Vl×Rho)}{pos:Pos}(h:PE X e (tE Z X B f)):PS X (.Return (some e) pos) (tSx Z X B fun ρ=>(f ρ).bind fun p=>jjP p.1 p.2):=by
 refine PS.imp (jnP h) fun D σ H hzz=>?_;obtain⟨F,ρ,r,q⟩:=hzz;refine⟨F,ρ,r,q.bind.imp (fun _ w=>w) fun p h1 v F' H' g r' rv=>?_⟩;obtain⟨fl,hf,h2⟩:=h1.pure fun c=>jko;obtain⟨w,ρ'⟩:=p;cases w with
 |dat d=>cases hf;exact h2 v σ F' H' (fun _ z=>by cases z) g r' rv
 |tmp o=>cases hf;exact h2 v σ F' H' (fun _ z=>by cases z) g r' (rv.base r.base)
 |slot i=>
  have rv:σ[i]?=some (some v):=rv;simp only[jjP]at hf;split at hf
  ·rename_i o e;cases hf;obtain⟨l,e1,e2,e3,e4⟩:=r'.own i o _ _ e;rw[rv]at e1;cases e1;refine h2 (.ref l) σ F' H' (fun _ z=>by cases z) (g.trans (Go.weak Le.no)) (r'.weak Le.no) ⟨l,rfl,e2,fun z=>?_,e4.2 rfl,e3⟩
   obtain⟨j,o',f',k',z1,z2⟩:=z;rw[jrv]at z1;by_cases hij:i=j
   ·rw[if_pos hij]at z1;split at z1 <;> cases z1
   ·rw[if_neg hij]at z1;exact r'.one i j _ _ _ _ _ _ l hij e z1 rv z2
  ·cases hf
theorem jmG {pos:Pos}:PS X (.Return none pos) (tSx Z X B fun ρ=>.ok (.rt (.dat .non) ρ)):=by
 refine PS.imp jlE fun D σ H hzz=>?_;obtain⟨F,ρ,r,q⟩:=hzz;exact q .non σ F H (fun _ z=>by cases z) Go.refl r (by show Rep _ _ _ _ _;simp only[Rep])
theorem jmH {pos:Pos}:PS X (.Pass pos) (tSx Z X B fun ρ=>.ok (.nx ρ)):=PS.imp jlD fun D σ H ⟨F,ρ,r,q⟩=>q σ F H Go.refl r
theorem joM {pos:Pos}:PS X (.Break pos) (tSx Z X B fun ρ=>.ok (.bk ρ)):=PS.imp jjq fun D σ H ⟨F,ρ,r,q⟩=>q σ F H Go.refl r
theorem joN {pos:Pos}:PS X (.Continue pos) (tSx Z X B fun ρ=>.ok (.ct ρ)):=PS.imp jeS fun D σ H ⟨F,ρ,r,q⟩=>q σ F H Go.refl r
theorem jiG {e:Expr}{f:Rho->R (Vl×Rho)}{pos:Pos}(h:PE X e (tE Z X B f))(hs:swapsWith e none pos.line X.env=pure false):PS X (.Expr e pos) (tSx Z X B fun ρ=>(f ρ).bind fun p=>.ok (.nx p.2)):=by
 refine PS.imp (jeT h hs) fun D σ H hzz=>?_;obtain⟨F,ρ,r,q⟩:=hzz;exact⟨F,ρ,r,q.bind.imp (fun _ w=>w) fun p h1 v F' H' g r' rv=>h1 σ F' H' g r'⟩
theorem jkp {v:Vl}{ρ:Rho}{c:Nat}:jfQ v ρ≠.err c:=by
 cases v with
 |dat d=>intro z;cases z
 |tmp o=>intro z;cases z
 |slot i=>
  simp only[jfQ];intro z;cases e:toD (.slot i) ρ with
  |ok p=>rw[e]at z;cases z
  |err c=>exact jcg e
  |stk=>rw[e]at z;cases z
theorem jmI {σ:L2.St}{ρ ρ1 ρ2:Rho}{F F1:Addr->Prop}{H H1:Hp}{w:Vl}{v:V}{s:Sl}{i:Nat}(rv:RV Z F1 H H1 σ ρ1 w v)(r:SR Z B F H σ ρ)(r1:SR Z B F1 H1 σ ρ1)(g:Go σ ρ F H σ ρ1 F1 H1)(h:jfQ w ρ1=.ok (s,ρ2)) :
  ∃F2,Go σ ρ F H (σ.set i (some v)) (ρ2.set i s) F2 H1/\SR Z B F2 H1 (σ.set i (some v)) (ρ2.set i s):=by
 have dat:∀{w:Vl},RV Z F1 H H1 σ ρ1 w v->(toD w ρ1).bind (fun p=>(.ok (.dat p.1,p.2):R (Sl×Rho)))=.ok (s,ρ2)->∃F2,Go σ ρ F H (σ.set i (some v)) (ρ2.set i s) F2 H1/\SR Z B F2 H1 (σ.set i (some v)) (ρ2.set i s):=fun {w} rv h=>by
  obtain⟨p,hp,h⟩:=R.bind_ok h;cases h;obtain⟨F2,g2,r2,rp,_⟩:=jej rv r1 g hp;exact⟨F2,g2.trans Go.put,r2.put rp⟩
 cases w with
 |dat d=>exact dat rv h
 |slot j=>exact dat rv h
 |tmp o=>
  cases h;obtain⟨l,rfl,h1,h2,h3,h4⟩:=rv;exact⟨F1,g.putOwn h3,r1.putOwn h1 h2 (r.base l h3) h4⟩
theorem joO {e:Expr}{f:Rho->R (Vl×Rho)}{i:Nat}{x:Str}{pos pos':Pos}(nd:X.N.Nodup)(hi:X.N[i]?=some x)(hx:Loc X.env.scope x)(hf:X.fn x=true\/X.env.scope.names.lookup x=some .local)(h:PE X e (tE Z X B f))
  (hs:swapsWith e (some (.Name x pos')) pos.line X.env=pure false):PS X (.Assign [.Name x pos'] e pos) (tSx Z X B fun ρ=>(f ρ).bind fun p=>(jfQ p.1 p.2).bind fun q=>if i < q.2.length then .ok (.nx (q.2.set i q.1))else .stk):=by
 refine PS.imp (jnS nd hi hx h hs hf) fun D σ H hzz=>?_;obtain⟨F,ρ,r,q⟩:=hzz;refine⟨F,ρ,r,q.bind.imp (fun _ w=>w) fun p h1 v F' H' g r' rv=>?_⟩;obtain⟨t,ht,h2⟩:=h1.bind.pure fun c=>jkp;split at h2
 ·obtain⟨F2,g2,r2⟩:=jmI (i:=i) rv r r' g ht;exact h2 _ F2 H' g2 r2
 ·exact False.elim h2
theorem jp2 {c:Expr}{a b:List Stmt}{pos:Pos}{fc:Rho->R (Bool×Rho)}{fa fb:Rho->R Fl}(hc:PT X c (tT Z X B fc))(ha:PSs X a (tS Z X B fa))(hb:PSs X b (tS Z X B fb)):PS X (.If c a b pos) (tS Z X B fun ρ=>(fc ρ).bind fun t=>if t.1 then fa t.2 else fb t.2):=by
 refine PS.imp (jps hc ha hb) fun D σ H hzz=>?_;obtain⟨F,ρ,r,q⟩:=hzz;refine⟨F,ρ,r,q.bind.imp (fun _ w=>w.xw) fun t p F' H' g r'=>?_⟩;obtain⟨b,ρ1⟩:=t;cases b with
 |true=>rw[if_pos rfl]at p ⊢;exact⟨F',ρ1,r',p.imp (fun _ w=>w.mono g) fun fl z=>z.go g⟩
 |false=>rw[if_neg jr8]at p ⊢;exact⟨F',ρ1,r',p.imp (fun _ w=>w.mono g) fun fl z=>z.go g⟩
theorem joP:PSs X [] (tS Z X B fun ρ=>.ok (.nx ρ)):=PSs.imp jhm fun D σ H ⟨F,ρ,r,q⟩=>q σ F H Go.refl r
theorem jmJ {s:Stmt}{ss:List Stmt}{f g:Rho->R Fl}(h1:PS X s (tS Z X B f))(h2:PSs X ss (tS Z X B g)):PSs X (s::ss) (tS Z X B fun ρ=>(f ρ).bind (jl3 g)):=by
 refine PSs.imp (jfJ h1 h2) fun D σ H hzz=>?_;obtain⟨F,ρ,r,q⟩:=hzz;refine⟨F,ρ,r,q.bind.imp (fun _ w=>w) fun fl p=>?_⟩;cases fl with
 |nx ρ'=>exact fun σ' F' H' g' r'=>⟨F',ρ',r',p.imp (fun _ w=>w.mono g') fun fl z=>z.go g'⟩
 |bk ρ'=>exact p
 |ct ρ'=>exact p
 |rt v ρ'=>exact p
theorem joQ (hK:X.K=Z.K){x:Str}{i:Nat}{e:Expr}{f:Rho->R (Vl×Rho)}{xp apos cpos pos:Pos}(hv:PE X (.Name x xp) (jnr i))(h:PE X e (tE Z X B f))(ns:∀a p,e≠.Starred a p)(hline:(apos.endLine == cpos.line)=true) :
  PS X (.Expr (.Call (.Attribute (.Name x xp) "append" apos) [e] [] cpos) pos) (tSx Z X B fun ρ=>match ρ[i]? with
   |some (.own (.l _) _ _)=>(f ρ).bind fun p=>(toD p.1 p.2).bind fun q=>match q.2[i]? with
    |some (.own (.l xs) f false)=>if fits (xs.length + 1)then .ok (.nx (q.2.set i (.own (.l (xs++[q.1])) f false)))else .stk
    |_=>.stk
   |_=>.stk):=by
 have hbase:attributeBase (.Name x xp) "append" X.env (eval (.Name x xp) X.env)=eval (.Name x xp) X.env:=rfl;have he:=jaf (es:=[]) (env:=X.env) ns;refine PS.imp (jeT (jn7 PySem.F.plainAttrs_list PySem.F.slot_list_append PySem.F.type_list_append jee hv (jaJ h jbu he) hbase (by rw[he];rfl) hline he rfl) rfl) fun D σ H hzz=>?_
 obtain⟨F,ρ,r,q⟩:=hzz;try dsimp only at q
 split at q
 ·rename_i x0 f0 k0 e0;obtain⟨l,e1,_,⟨us,e3,_⟩,_⟩:=r.own i _ _ _ e0;refine⟨.ref l,e1,.inl ⟨rfl,us,SqL.of e3⟩,F,ρ,r,q.bind.imp (fun _ w=>w) fun p h1 v F1 H1 g1 r1 rv=>?_⟩;obtain⟨t,ht,h2⟩:=h1.bind.pure fun c=>jcg;obtain⟨F2,g2,r2,rp,_⟩:=jej rv r1 g1 ht;split at h2
  ·rename_i xs f1 e2;split at h2
   ·rename_i hfit;obtain⟨l2,a1,a2,⟨vs,a3,a4⟩,a5⟩:=r2.own i _ _ _ e2;rw[e1]at a1;cases a1;have hl:=a4.length;have hz:=jaO hfit;refine⟨l,vs,v,rfl,rfl,a3,by omega,?_⟩
    obtain⟨kp,sr⟩:=r2.wr (o':=.l (xs++[t.1])) (u:=.lst (vs++[v])) e2 e1 (fun kp=>⟨vs++[v],jan,(a4.mono kp).append (.one (rp.mono kp))⟩) false;exact h2 σ F2 _ (g2.trans (Go.wr e2 e1)) sr
   ·exact False.elim h2
  ·exact False.elim h2
 ·exact False.elim q
theorem jkq (hK:X.K=Z.K)(hc:X.calm=true){C:Addr}{c:Nat}{x:Str}{np cpos pos:Pos}{a:Expr}{f:Rho->R (Vl×Rho)}(R':Rcl Z.K C)(hC:Z.cl[c]?=some C)(hg:Gl X x)(hm:X.mg x=some (.ref C))(hd:(x == ("__debug__":Str))=false)(ha:PE X a (tE Z X B f))(ns:∀e q,a≠.Starred e q) :
  PS X (.Raise (some (.Call (.Name x np) [a] [] cpos)) none pos) (tS Z X B fun ρ=>(f ρ).bind fun _=>.err c):=by
 refine PS.imp (jkn hc (by rw[hK];exact R') hg hm hd (jaJ ha jbu (jaf ns)) ns) fun D σ H hzz=>?_
 obtain⟨F,ρ,r,q⟩:=hzz;refine⟨F,ρ,r,q.bind.imp (fun _ w=>w.xw) fun p h1 v F' H' g r' rv=>?_⟩;have h1:XS Z X σ ρ F H c:=h1;refine⟨by rw[sizeLine_eq];show 1<=16777216;decide,fun pins s1 h' ea us I1 mk=>?_⟩
 exact(h1 σ p.2 F' H' g).2 pins H' s1 h' ea C us hC I1 ⟨fun _ _ e _=>e,fun _ o e=>⟨o,e⟩⟩ mk
end
inductive ForI (X:Cx) (pins:List (Addr×Obj)) (Z:Kn) (B:Bs) (σ:L2.St) (ρ1:Rho) (F2:Addr->Prop) (H2:Hp) (ls fp:List Addr) (tn:Nat->Heap->Prop) (n:Nat) (Rest:Nat->Rho->Prop) (k:Nat) (s':Shared):Prop
 |mk (i:Nat) (σ':L2.St) (F':Addr->Prop) (H':Hp) (ρ':Rho):k=n - i->i<=n->Inv X pins σ' H' s'->SR Z B F' H' σ' ρ'->Go σ ρ1 F2 H2 σ' ρ' F' H'->GK F2 H2 ls F' H'->tn i s'.heap->(∀b∈fp,H' b=none)->Rest i ρ'->ForI X pins Z B σ ρ1 F2 H2 ls fp tn n Rest k s'
theorem joR {Z:Kn}{X:Cx}{B:Bs}{tg iter:Expr}{body:List Stmt}{pos:Pos}{tgs:List Nat}{one:Bool}{fi:Rho->R (List D×List Nat×Rho)}{fb:Rho->R Fl}(hK:X.K=Z.K)(hp:PassesOwn (model X.prog X.w) X.A X.env X.xe)(hc:X.calm=true)(nd:X.N.Nodup)
  (hi:PI X tg iter (tI Z X B fi)) (hT:TgOk X tg tgs one) (hb:PSs X body (tS Z X B fb)) (hs:∀x,foldedSetIterable iter X.env x=pure x) :
  PS X (.For tg iter body [] pos) (tS Z X B fun ρ=>(fi ρ).bind fun t=>(jb0 (fun x r=>(putT tgs one x r).bind fun r'=>fb r') t.1 t.2.2).bind fun r=>.ok (jde t.2.1 r)):=by
 intro pins s σ H D I hz1;obtain⟨F,ρ,r,h⟩:=hz1;refine wpAny_For (thn (hi pins s σ H (fun J H'=>∃(F':Addr->Prop) (t:List DJ.D×List Nat×Rho) (ls:List Addr),ItR Z B σ ρ F H t.2.2 F' H' t.2.1 ls/\ItmG Z (GK F' H' ls) J t.1/\Ok (XS Z X σ ρ F H) ((jb0 (fun x r=>(putT tgs one x r).bind fun r'=>fb r') t.1 t.2.2).bind fun r=>.ok (jde t.2.1 r)) (FlP Z B σ ρ F H D)) I
  ⟨F,ρ,r,h.bind.imp (fun c w=>w.xw) fun t h1 F' H' J ls ir im=>⟨F',t,ls,ir,im,h1⟩⟩) fun v s1 h1=>thn h1 fun itv s2 hzz=>?_) hs
 obtain⟨it,fp,tn,J,H2,e,I2,T,st2,f2,F2,t,ls,ir,im,q2⟩:=hzz;subst e;obtain⟨xs,lk,ρ1⟩:=t;have W:=im.wk hK (fun l hl=>(ir.on l hl).1) T;have stat:∀{H':Hp},(∀b∈fp,H' b=none)->∀b∈fp,FpOk X pins H' b:=fun hn b hb=>⟨hn b hb,(f2 b hb).2⟩;let Rest:=fun (i:Nat) (ρ':Rho)=>Ok (XS Z X σ ρ F H) ((jb0 (fun x r=>(putT tgs one x r).bind fun r'=>fb r') (xs.drop i) ρ').bind fun r=>.ok (jde lk r)) (FlP Z B σ ρ F H D);refine codeAny_forLoop_any (ForI X pins Z B σ ρ1 F2 H2 ls fp tn xs.length Rest) ?_ xs.length
  ⟨0,σ,F2,H2,ρ1,rfl,Nat.zero_le _,I2,ir.sr,Go.refl,GK.refl,st2,fun b hb=>(f2 b hb).1,q2⟩
 rintro n s3 ⟨i,σ3,F3,H3,ρ3,rfl,hi3,I3,r3,g3,gk3,st3,fr3,q3⟩;by_cases hlt:i < xs.length
 ·have hx:xs[i]?=some xs[i]:=jrq hlt;have q3:Ok (XS Z X σ ρ F H) ((jb0 (fun x r=>(putT tgs one x r).bind fun r'=>fb r') (xs.drop i) ρ3).bind fun r=>.ok (jde lk r)) (FlP Z B σ ρ F H D):=q3;rw[List.drop_eq_getElem_cons hlt]at q3;simp only[jb0,R.bind_assoc]at q3;cases hp3:putT tgs one xs[i] ρ3 with
  |err c=>exact absurd hp3 jdK
  |stk=>rw[hp3]at q3;exact False.elim q3
  |ok ρ4=>
   rw[hp3,R.bind_ok']at q3;have q3:=q3.bind;refine wpAny_passesOwn hp (thn (W.take X rfl rfl hK hc nd tgs one hT i pins s3 σ3 ρ3 ρ4 B F3 H3 _ I3 r3 gk3 (stat fr3) st3 hx hp3) fun o s4 hzz=>?_);obtain⟨u,ho,h4⟩:=hzz;subst ho;refine wpAny_passesOwn hp (thn h4 fun _ s5 h5=>wpAny_passesOwn hp (thn h5 fun _ s6 hzz=>?_));obtain⟨σ6,F6,H6,I6,r6,g6,gk6,st6,fr6,_⟩:=hzz;have I6':=I6.pinned (stat fr6) (W.obj _ _ st6);have gA:Go σ ρ1 F2 H2 σ6 ρ4 F6 H6:=g3.trans g6;have gF:Go σ ρ F H σ6 ρ4 F6 H6:=ir.go.trans gA;have hm6:∀l∈ls,¬Mb σ6 ρ4 l:=fun l hl z=>by
    obtain⟨⟨o,e⟩,nm⟩:=ir.on l hl;rcases gA.mb z with z | z
    ·exact nm z
    ·rw[e]at z;cases z
   refine wpAny_passesOwn hp (thn (hb _ s6 σ6 H6 (Ends.mk (fun σ' H'=>∃F' ρ',SR Z B F' H' σ' ρ'/\Go σ6 ρ4 F6 H6 σ' ρ' F' H'/\Rest (i + 1) ρ') D.rt D.nx (fun σ' H'=>∃F' ρ',SR Z B F' H' σ' ρ'/\Go σ6 ρ4 F6 H6 σ' ρ' F' H'/\Rest (i + 1) ρ')) I6' ⟨F6,ρ4,r6,q3.imp (fun _ w=>w.mono gF) fun fl z=>?_⟩) fun f s7 q7=>?_)
   ·cases fl with
    |nx ρ'=>exact fun σ' F' H' g r'=>⟨F',ρ',r',g,z⟩
    |ct ρ'=>exact fun σ' F' H' g r'=>⟨F',ρ',r',g,z⟩
    |bk ρ'=>exact fun σ' F' H' g r'=>z σ' F' H' (ir.un σ' ρ' F' H' (gA.trans g)) r'.unlk
    |rt w ρ'=>exact fun u σ' F' H' n g r' rv=>z u σ' F' H' n (ir.un σ' ρ' F' H' (gA.trans g)) r'.unlk rv.unlk
   ·have again:∀{σ7:L2.St}{H7:Hp},Inv X (pins++jbO fp s6.heap) σ7 H7 s7->(∃F' ρ',SR Z B F' H7 σ7 ρ'/\Go σ6 ρ4 F6 H6 σ7 ρ' F' H7/\Rest (i + 1) ρ') ->
      ∃m,m < xs.length - i/\ForI X pins Z B σ ρ1 F2 H2 ls fp tn xs.length Rest m s7:=fun {σ7 H7} I7 hzz=>by
     obtain⟨F7,ρ7,r7,g7,q7⟩:=hzz;refine⟨xs.length - (i + 1),Nat.sub_lt_sub_left hlt (Nat.lt_succ_self i),i + 1,σ7,F7,H7,ρ7,rfl,hlt,I7.unpinned,r7,gA.trans g7,gk6.go W.lst r6 g7 hm6,W.keep _ _ _ st6 fun b hb o e=>(I7.pin (b,o) (jrB _ (jrB _ (jbj hb e)))).1,fun b hb=>?_,q7⟩;obtain⟨o,e,d⟩:=W.obj _ _ st6 b hb;exact(I7.pin (b,o) (jrB _ (jrB _ (jbj hb e)))).2.1
    cases f with
    |next=>obtain⟨σ7,H7,I7,n7⟩:=q7;exact again I7 n7
    |cont=>obtain⟨σ7,H7,I7,n7⟩:=q7;exact again I7 n7
    |brk=>obtain⟨σ7,H7,I7,q7⟩:=q7;exact⟨σ7,H7,I7.unpinned,q7⟩
    |ret v=>obtain⟨x7,σ7,H7,I7,r7,q7⟩:=q7;exact⟨x7,σ7,H7,I7.unpinned,r7,q7⟩
 ·have hie:i=xs.length:=by omega
  subst hie;have q3:Ok (XS Z X σ ρ F H) ((jb0 (fun x r=>(putT tgs one x r).bind fun r'=>fb r') (xs.drop xs.length) ρ3).bind fun r=>.ok (jde lk r)) (FlP Z B σ ρ F H D):=q3;rw[List.drop_eq_nil_of_le (jr1 _)]at q3;have q3:FlP Z B σ ρ F H D (.nx (unlk lk ρ3)):=q3;refine wpAny_passesOwn hp (thn (W.done X rfl rfl hK hc pins s3 σ3 F3 H3 I3 r3.dom gk3 (stat fr3) st3) fun o s4 hzz=>?_);obtain⟨ho,I4⟩:=hzz;subst ho;exact wpAny_execs_nil ⟨σ3,H3,I4,q3 σ3 F3 H3 (ir.un σ3 ρ3 F3 H3 g3) r3.unlk⟩
end DJ
namespace L2
open PySem PySem.Spec PyProof.Rows
section
variable {X:Cx}
end
end L2
namespace DJ
open PySem PySem.Spec PyProof.Rows L2
section
variable {Z:Kn}{X:Cx}{B:Bs}
noncomputable def jp3 (i:Nat)(ρ:Rho):R Fl:=match ρ[i]? with
 |some (.own (.l xs) f false)=>.ok (.nx (ρ.set i (.own (.l xs.reverse) f false)))
 |_=>.stk
theorem joS {x:Str}{i:Nat}{xp apos cpos pos:Pos}(hv:PE X (.Name x xp) (jnr i))(hline:(apos.endLine == cpos.line)=true):PS X (.Expr (.Call (.Attribute (.Name x xp) "reverse" apos) [] [] cpos) pos) (tSx Z X B (jp3 i)):=by
 have hbase:attributeBase (.Name x xp) "reverse" X.env (eval (.Name x xp) X.env)=eval (.Name x xp) X.env:=rfl;refine PS.imp (jeT (jhw PySem.F.plainAttrs_list PySem.F.slot_list_reverse PySem.F.type_list_reverse jgA hv hbase hline) rfl) fun D σ H hzz=>?_;obtain⟨F,ρ,r,q⟩:=hzz;unfold jp3 at q;split at q
 ·rename_i xs f e;obtain⟨l,e1,e2,⟨vs,e3,e4⟩,_⟩:=r.own i _ _ _ e;refine⟨.ref l,e1,.inl ⟨rfl,vs,SqL.of e3⟩,l,vs,rfl,rfl,e3,?_⟩;obtain⟨kp,sr⟩:=r.wr (o':=.l xs.reverse) (u:=.lst vs.reverse) e e1 (fun kp=>⟨vs.reverse,jan,(e4.mono kp).reverse⟩) false;exact q σ F _ (Go.wr e e1) sr
 ·exact False.elim q
noncomputable def jp4 (fe fk:Rho->R (Vl×Rho))(i:Nat)(ρ:Rho):R Fl:=(fe ρ).bind fun p=>(toD p.1 p.2).bind fun q=>match q.2[i]? with
 |some (.own (.l _) _ _)=>(fk q.2).bind fun kd=>match kd.2[i]?,kd.1 with
  |some (.own (.l xs) f false),.dat (.int j)=>if 0<=j/\j < xs.length then .ok (.nx (kd.2.set i (.own (.l (xs.set j.toNat q.1)) f false)))else .stk
  |_,_=>.stk
 |_=>.stk
theorem joT {x:Str}{i:Nat}{k e:Expr}{fk fe:Rho->R (Vl×Rho)}{xp spos pos:Pos}(hv:PE X (.Name x xp) (jnr i))(hk:PE X k (tE Z X B fk))(h:PE X e (tE Z X B fe))(hs:swapsWith e (some (.Subscript (.Name x xp) k spos)) pos.line X.env=pure false)(hsl:∀a b c d,k≠.Slice a b c d)
  (hw:swappedStores [.Subscript (.Name x xp) k spos] e X.env=pure none):PS X (.Assign [.Subscript (.Name x xp) k spos] e pos) (tSx Z X B (jp4 fe fk i)):=by
 refine PS.imp (jk0 h (jnR hv hk jjA (by intro v;cases k <;> first | rfl | exact absurd rfl (hsl _ _ _ _))) hs hw rfl) fun D σ H hzz=>?_
 obtain⟨F,ρ,r,q⟩:=hzz;unfold jp4 at q;refine⟨F,ρ,r,q.bind.imp (fun _ w=>w) fun p h1 v F1 H1 g1 r1 rv=>?_⟩;obtain⟨t,ht,h2⟩:=h1.bind.pure fun c=>jcg;obtain⟨F2,g2,r2,rp,_⟩:=jej rv r1 g1 ht;split at h2
 ·rename_i x0 f0 k0 e0;obtain⟨l,e1,_⟩:=r2.own i _ _ _ e0;refine⟨.ref l,e1,F2,t.2,r2,h2.bind.imp (fun c w=>w.mono g2) fun kd h3 kv F3 H3 g3 r3 rk=>?_⟩;split at h3
  ·rename_i xs f1 j e2 ek;split at h3
   ·rename_i hj;obtain⟨l2,a1,a2,⟨vs,a3,a4⟩,a5⟩:=r3.own i _ _ _ e2;rw[e1]at a1;cases a1;have hk0:kv=.int j:=by
     obtain⟨kw,kρ⟩:=kd;simp only at ek;subst ek;have rk:Rep Z F3 H3 (.int j) kv:=rk;simpa only[Rep] using rk
    subst hk0;have hl:=a4.length;have hix:ixN vs.length j=some j.toNat:=by
     unfold ixN;rw[if_pos hj.1,if_pos (by omega)]
    refine⟨l,vs,j,j.toNat,rfl,rfl,a3,hix,?_⟩;have rp3:=rp.mono (g3.keep r2);obtain⟨kp,sr⟩:=r3.wr (o':=.l (xs.set j.toNat t.1)) (u:=.lst (vs.set j.toNat v)) e2 e1 (fun kp=>⟨vs.set j.toNat v,jan,(a4.mono kp).set (rp3.mono kp) _⟩) false;exact h3 σ F3 _ ((g2.trans g3).trans (Go.wr e2 e1)) sr
   ·exact False.elim h3
  ·exact False.elim h3
 ·exact False.elim h2
theorem joU (hK:X.K=Z.K)(hc:X.calm=true)(nd:X.N.Nodup){es:List Expr}{kk:Nat}{tp pos:Pos}{is:List Nat}{e:Expr}{f:Rho->R (Vl×Rho)}(hT:TgsOk X es is)(h:PE X e (tE Z X B f))(hs:swapsWith e (some (.Tuple es kk tp)) pos.line X.env=pure false)(hw:swappedStores [.Tuple es kk tp] e X.env=pure none) :
  PS X (.Assign [.Tuple es kk tp] e pos) (tSx Z X B fun ρ=>(f ρ).bind fun p=>(deref p.1 p.2).bind fun d=>(putT is false d p.2).bind fun ρ'=>.ok (.nx ρ')):=by
 refine PS.imp (jk0 h (jkZ (n:=is.length) hc (hT.pgs nd) hT.lens.1 hT.lens.2) hs hw rfl) fun D σ H hzz=>?_;obtain⟨F,ρ,r,q⟩:=hzz;refine⟨F,ρ,r,q.bind.imp (fun _ w=>w) fun p h1 v F1 H1 g1 r1 rv=>?_⟩;obtain⟨d,hd,h2⟩:=h1.bind.pure fun c=>jaL;obtain⟨ρ',hp,h3⟩:=h2.bind.pure fun c=>jdK;have rb:=ja0 rv r1 hd;cases d with
 |tup ds=>
  simp only[putT]at hp;split at hp
  ·rename_i hl;cases hp;obtain⟨a,vs,rfl,ft,rs⟩:=rb.tup;have hvl:vs.length=is.length:=by rw[hl,rs.length]
   exact⟨a,vs,rfl,(by rw[hK];exact ft.sq),hvl,jhW hvl.symm (h3 _ F1 H1 (g1.trans (r1.putN rs).2) (r1.putN rs).1)⟩
  ·cases hp
 |_=>simp only[putT]at hp <;> cases hp
theorem joV {W:Nat}(hp:PassesOwn (model X.prog X.w) X.A X.env X.xe){c:Expr}{body:List Stmt}{pos:Pos}{fc:Rho->R (Bool×Rho)}{fb:Rho->R Fl}(hc:PT X c (tT Z X B fc))(hb:PSs X body (tS Z X B fb)) :
  PS X (.While c body [] pos) (tS Z X B fun ρ=>jbQ fc fb W ρ):=by
 refine PS.imp (jjs hp hc hb) fun D σ H hzz=>?_;obtain⟨F,ρ,r,q⟩:=hzz;refine⟨fun n σ1 H1=>∃F1 ρ1,Go σ ρ F H σ1 ρ1 F1 H1/\SR Z B F1 H1 σ1 ρ1/\Ok (XS Z X σ ρ F H) (jbQ fc fb n ρ1) (FlP Z B σ ρ F H D),⟨W,F,ρ,Go.refl,r,q⟩,?_⟩;rintro n σ1 H1 ⟨F1,ρ1,g1,r1,q1⟩;cases n with
 |zero=>exact False.elim q1
 |succ n=>
  simp only[jbQ]at q1;refine⟨F1,ρ1,r1,q1.bind.imp (fun _ w=>(w.mono g1).xw) fun t h2 F2 H2 g2 r2=>?_⟩;obtain⟨b,ρ2⟩:=t;cases b with
  |false=>
   rw[if_neg jr8]at h2 ⊢;exact h2 σ1 F2 H2 (g1.trans g2) r2
  |true=>
   rw[if_pos rfl]at h2 ⊢;refine⟨fun σ3 H3=>∃F3 ρ3,Go σ ρ F H σ3 ρ3 F3 H3/\SR Z B F3 H3 σ3 ρ3/\Ok (XS Z X σ ρ F H) (jbQ fc fb n ρ3) (FlP Z B σ ρ F H D),fun σ3 H3 w=>⟨n,Nat.lt_succ_self n,w⟩,F2,ρ2,r2,h2.bind.imp (fun _ w=>w.mono (g1.trans g2)) fun fl z=>?_⟩;have g12:=g1.trans g2;cases fl with
   |nx ρ'=>exact fun σ' F' H' g r'=>⟨F',ρ',g12.trans g,r',z⟩
   |ct ρ'=>exact fun σ' F' H' g r'=>⟨F',ρ',g12.trans g,r',z⟩
   |bk ρ'=>exact fun σ' F' H' g r'=>z σ' F' H' (g12.trans g) r'
   |rt v ρ'=>exact fun u σ' F' H' nsl g r' rv=>z u σ' F' H' nsl (g12.trans g) r' rv
end
end DJ
namespace DJ
open PySem PySem.Spec PyProof.Rows L2
theorem jgL {X:Cx}{scope:Scope}{N cn:List Str}{nt:Nat}{caps:List Nat}{Z:Kn}{B:Bs}{elt tg iter:Expr}{ks:List Expr}{pos spos py:Pos}{tgs:List Nat}{one:Bool}{fi:Rho->R (List D×List Nat×Rho)}{fc:Option (Rho->R (Bool×Rho))}{fe:Rho->R (Vl×Rho)}{y:Str}{j:Nat}
  (hK:X.K=Z.K) (nd:X.N.Nodup) (hj:X.N[j]?=some y) (hy:Loc X.env.scope y) (hf:X.fn y=true\/X.env.scope.names.lookup y=some .local) (hsw:swapsWith (.ListComp elt [⟨tg,iter,ks,0⟩] scope pos) (some (.Name y py)) spos.line X.env=pure true)
  (hc:X.calm=true) (C:CompOk X scope N cn nt caps) (hi:PI X tg iter (tI Z X B fi))
  (hT:∀s' H' fp E,TgOk (cxComp X N scope s' H' fp E) tg tgs one) (hlow:∀i∈tgs,i < nt)
  (hE:∀s' H' fp E B',PE (cxComp X N scope s' H' fp E) elt (tE Z (cxComp X N scope s' H' fp E) B' fe)) {xx:Bool} (Tp:xx=true->TopX X)
  (hk:(ks=[]/\fc=none)\/∃k g,ks=[k]/\fc=some g/\∀s' H' fp E B',PT (cxComp X N scope s' H' fp E) k (tT Z (cxComp X N scope s' H' fp E) B' g)) (hs:∀x,foldedSetIterable iter X.env x=pure x) :
  PS X (.Assign [.Name y py] (.ListComp elt [⟨tg,iter,ks,0⟩] scope pos) spos) (tSx Z X B fun ρ=>((fi ρ).bind fun t=>((compGo (jcP tgs one nt caps fc fe) t.1 t.2.2).pass xx).bind fun ys=>(.ok (.tmp (.l ys.1),unlk t.2.1 ys.2):R (Vl×Rho))).bind fun p=>(jfQ p.1 p.2).bind fun q=>if j < q.2.length then .ok (.nx (q.2.set j q.1))else .stk):=by
 intro pins s σ H D I hz1;obtain⟨F,ρ,r,h⟩:=hz1;rw[exec_Assign_Name_used _ _ _ _ hsw];refine jrR (wpAny_standAt (jrR ?_));show wpAny _ X.A (do let _ <-comprehension (.ListComp elt [⟨tg,iter,ks,0⟩] scope pos) scope X.env _ (newList []) false (eval iter X.env) (some (assign (.Name y py) X.env))) _ _ s
 refine jrR (jrW (wpAny_comprehension_free (use:=some (assign (.Name y py) X.env)) (Q:=fun _ s'=>SP X pins D .next s') rfl hs (jhX (C.cells I)) C.kind C.names ?_) (fun _ s' hq=>jrS (jrS hq)) fun _ _ e=>e);simp only[R.bind_assoc,R.bind_ok']at h;refine thn (hi pins s σ H (fun J H'=>∃(F':Addr->Prop) (t:List DJ.D×List Nat×Rho) (ls:List Addr),ItR Z B σ ρ F H t.2.2 F' H' t.2.1 ls/\ItmG Z (GK F' H' ls) J t.1/\Ok (XW Z X σ ρ H) (((compGo (jcP tgs one nt caps fc fe) t.1 t.2.2).pass xx).bind fun ys=>(jfQ (.tmp (.l ys.1)) (unlk t.2.1 ys.2)).bind fun q=>if j < q.2.length then .ok (.nx (q.2.set j q.1))else .stk) (FlP Z B σ ρ F H D)) I
  ⟨F,ρ,r,h.bind.imp (fun _ w=>w) fun t h1 F' H' J ls ir im=>⟨F',t,ls,ir,im,h1⟩⟩) fun v s1 h1=>thn h1 fun itv s2 hzz=>?_
 obtain⟨it,fp,tn,J,H2,e,I2,Tn,st2,f2,F2,t,ls,ir,im,q2⟩:=hzz;subst e;have fo:∀b∈fp,(b∈X.ex\/X.s₀.heap.objs.size<=b)/\b≠X.env.locals/\(∀x c,X.env.cells.lookup x=some c->c≠b)/\∀p∈X.pn++pins,p.1≠b:=fun b hb=>by
  obtain⟨f0,f1,f3,f4,f5,f6⟩:=f2 b hb;exact⟨f4,f1,f5,f6⟩
 refine jfV (fc:=fc) (RR:=fun acc C'=>compPost (model X.prog X.w) X.A X.xe (some (assign (.Name y py) X.env)) (fun _ s'=>SP X pins D .next s') acc C') hK hc C I2 ir.sr (im.wk hK (fun l hl=>(ir.on l hl).1) Tn) (fun l hl=>(ir.on l hl).2) st2 f2 (fun s' H' E=>hT s' H' fp E) hlow (fun i hi=>?_) (fun s' H' E B'=>hE s' H' fp E B') ?_ rfl (fun z=>?_) ?_ ?_
 ·rw[ir.sr.len,I2.len];exact C.capLt i hi
 ·rcases hk with z | ⟨k,g,e1,e2,hk⟩
  ·exact .inl z
  ·exact .inr ⟨k,g,e1,e2,fun s' H' E B'=>hk s' H' fp E B'⟩
 ·rw[z,jf5]at q2;exact q2
 ·intro ys ρE E s3 l σ' F' H' s' vs hY hl I3 IY gE rE nF nO hl' rp;rw[hY,jb3]at q2;have q2:Ok (XW Z X σ ρ H) (if j < (unlk t.2.1 ρE).length then .ok (.nx ((unlk t.2.1 ρE).set j (.own (.l ys) false false)))else .stk) (FlP Z B σ ρ F H D):=q2;split at q2
  ·have q2:FlP Z B σ ρ F H D (.nx ((unlk t.2.1 ρE).set j (.own (.l ys) false false))):=q2
   ·obtain⟨m,hn,_⟩:=IY.loc;obtain⟨oC,es,ep,eC,dC,rC⟩:=id hn;have eC:s'.heap.get? s3.heap.objs.size=some oC:=eC;have IX:Inv X pins σ H' s':=jdR I3 fo IY (Heap.SameBut.refl _ _);have hCf:H' s3.heap.objs.size=none:=IY.free;have hCL:s3.heap.objs.size≠X.env.locals:=Nat.ne_of_gt I3.lt;have hCs:X.s₀.heap.objs.size<=s3.heap.objs.size:=I3.sz;have hCx:∀x c,X.env.cells.lookup x=some c->c≠s3.heap.objs.size:=fun x c e z=>by
     obtain⟨v,w⟩:=I3.cell x c e;exact absurd w.lt (by rw[z];exact jr5 _)
    have hCp:∀p∈X.pn++pins,p.1≠s3.heap.objs.size:=fun p hp z=>by
     have:=jrY (I3.pin p hp).1;rw[z]at this;exact absurd this (jr5 _)
    have IP:Inv X (pins++[(s3.heap.objs.size,oC)]) σ H' s':=IX.pins_of fun p hp=>(List.mem_append.mp hp).elim (fun z=>IX.pin p (jrB _ z)) fun z=>by
     have e:p=(s3.heap.objs.size,oC):=by simpa using z
     subst e;exact⟨eC,hCf,hCL,I3.nofs (jr1 _),fun v z=>by rw[dC]at z;cases z⟩
    have hlH:H l=none:=ir.go.free hl;have r':SR Z B F' H' (σ.set j (some (.ref l))) ((unlk t.2.1 ρE).set j (.own (.l ys) false false)):=rE.unlk.putOwn nF (fun z=>nO z.unlk) (r.base l hlH) ⟨vs,hl',rp⟩;have g':Go σ ρ F H (σ.set j (some (.ref l))) ((unlk t.2.1 ρE).set j (.own (.l ys) false false)) F' H':=(ir.un σ ρE F' H' gE).putOwn hlH;show wpAny _ X.A (assign (.Name y py) X.env (.ref l)) _ _ _;refine wpAny_assign_Name (jcx IP nd hj hy (v:=.ref l) rfl (fun s4 I4=>?_) hf);have e4:s4.heap.get? s3.heap.objs.size=some oC:=(I4.pin (s3.heap.objs.size,oC) (by simp)).1
    refine⟨m,⟨oC,es,ep,e4,dC,rC⟩,fun h5 sb=>?_⟩;have I5:Inv X pins (σ.set j (some (.ref l))) H' { s4 with heap:=h5 }:=(I4.unpinned).turned (t':=s4.toks) (it:=s3.heap.objs.size) (fun b o hb e=>(sb.2 b hb).trans e) hCf hCL (.inr hCs) hCx hCp
    exact⟨_,H',I5,q2 _ F' H' g' r'⟩
  ·exact False.elim q2
 ·intro c E s3 l σ' H' s' pins' ea Cc hY hl I3 hC IY stl fly;rw[hY]at q2;obtain⟨hx,q2⟩:=jf6 q2;exact jf7 (Tp hx) I3 fo IY fly fun s'' I'' fl''=>q2 pins H' s'' ea Cc hC I'' (Stl.go ir.go stl) fl''
noncomputable def toSs:List S->Ss
 |[]=>.nil
 |s::ss=>.cons s (toSs ss)
noncomputable def jlm (sc:List (Str×NameKind))(x:Str):Bool:=sc.lookup x == some .local || sc.lookup x == some .cell
noncomputable def jdz:Expr->Bool
 |.ListComp ..=>false
 |.SetComp ..=>false
 |.DictComp ..=>false
 |_=>true
noncomputable def isTup:Expr->Bool
 |.Tuple ..=>true
 |_=>false
noncomputable def jp5:Expr->Bool
 |.Slice ..=>true
 |_=>false
noncomputable def jmK (T:Tab)(sc:List (Str×NameKind))(x:Str):Option Nat:=gd (jc9 x || knd sc x != 2) (jcQ T.excs x)
section
variable (T:Tab)
noncomputable def trX (n:Nat)(sc:List (Str×NameKind))(N:List Str)(s:Stmt):Option S:=match s with
 |.Expr e _=>gd (!jdz e) ((trE T n sc N e).map .expr)
 |_=>none
noncomputable def jmL (e:Expr):Option (Str×Str×List Expr):=match e with
 |.Call f as ks pos=>gd (!ks.isEmpty) ((jpY f).bind fun p=>gd (!(p.2.2.endLine == pos.line)) ((jf0 p.1).map fun x=>(x,p.2.1,as)))
 |_=>none
theorem jiH {e:Expr}{p:Str×Str×List Expr}(h:jmL e=some p):∃xp apos cpos,e=.Call (.Attribute (.Name p.1 xp) p.2.1 apos) p.2.2 [] cpos/\(apos.endLine == cpos.line)=true:=by
 cases e with
 |Call f as ks pos=>
  replace h:=jal h;obtain⟨hk,h⟩:=h;cases jaQ hk;replace h:=jac h;obtain⟨⟨v,m,apos⟩,hf,h⟩:=h;cases jf9 hf;replace h:=jal h;obtain⟨hl,h⟩:=h;replace h:=jaq h;obtain⟨x,hx,rfl⟩:=h;obtain⟨np,rfl⟩:=jaR hx;exact⟨np,apos,pos,rfl,ja8 hl⟩
 |_=>exact jah h
noncomputable def joW:Expr->Option (Expr×Expr)
 |.Subscript v k _=>some (v,k)
 |_=>none
theorem jiI {e:Expr}{p:Expr×Expr}(h:joW e=some p):∃q,e=.Subscript p.1 p.2 q:=by
 cases e with
 |Subscript v k q=>cases h;exact⟨q,rfl⟩
 |_=>exact jah h
noncomputable def jrj (tr:Expr->Option E)(q:Bool)(sc:List (Str×NameKind))(N:List Str)(e t:Expr):Option S:=
 jlf (jf0 t) (fun x=>gd (!jlm sc x) (o2 (jcQ N x) (tr e) .asg)) <|
 jlf (jjZ t) (fun es=>gd (q || !jdz e || isTup e) ((mapO jf0 es).bind fun xs=>gd (!xs.all (jlm sc)) (o2 (mapO (jcQ N) xs) (tr e) .unp))) <|
 jlf (joW t) (fun p=>(jf0 p.1).bind fun x=>gd (jc9 x || knd sc x != 1 || !jdz e || jp5 p.2) (o3 (jcQ N x) (tr p.2) (tr e) .sub)) <|
 none
noncomputable def jqS (tr:Expr->Option E)(i:Nat)(m:Str)(as:List Expr):Option S:=
 alt (m == "append") ((jgG as).bind fun e=>(tr e).map (.app i)) <|
 alt (m == "reverse") (gd (!as.isEmpty) (some (.rvs i))) <|
 none
noncomputable def jmM (tr:Expr->Option E)(sc:List (Str×NameKind))(N:List Str)(e:Expr):Option S:=match jmL e with
 |some p=>gd (jc9 p.1 || knd sc p.1 != 1) ((jcQ N p.1).bind fun i=>jqS tr i p.2.1 p.2.2)
 |none=>gd (!jdz e) ((tr e).map .expr)
noncomputable def jrk (n:Nat)(trs:Bool->List (Str×NameKind)->List Str->Stmt->Option S)(q:Bool)(sc:List (Str×NameKind))(N:List Str):Stmt->Option S
 |.Return v _=>match v with
  |some e=>(trE { T with quiet:=q } n sc N e).map .ret
  |none=>some .retN
 |.Pass _=>some .pas
 |.Break _=>some .brk
 |.Continue _=>some .cnt
 |.Assign ts e _=>(jgG ts).bind (jrj (trE { T with quiet:=q } n sc N) q sc N e)
 |.While c body oe _=>gd (q || !oe.isEmpty) (o2 (trE { T with quiet:=q } n sc N c) (mapO (trs q sc N) body) fun c b=>.whl c (toSs b))
 |.If c a b _=>o3 (trE { T with quiet:=q } n sc N c) (mapO (trs q sc N) a) (mapO (trs q sc N) b) fun c a b=>.ife c (toSs a) (toSs b)
 |.For tg iter body oe _=>gd (q || !oe.isEmpty) ((jcW tg).bind fun p=>gd (!p.1.all (jlm sc)) (o3 (mapO (jcQ N) p.1) (jnu { T with quiet:=q } sc (trE { T with quiet:=q } n sc N) p.2 iter) (mapO (trs q sc N) body) fun is it b=>.loop is p.2 it (toSs b)))
 |.Raise x c _=>gd (q || c.isSome) (x.bind fun e=>(jeu e).bind fun p=>(jgG p.2).bind fun a=>o2 (jmK T sc p.1) (trE { T with quiet:=q } n sc N a) .rai)
 |.Try b hs oe fb _=>gd (q || !oe.isEmpty || !fb.isEmpty) ((jgG b).bind fun st=>(jgG hs).bind fun
  |.ExceptHandler t y suite _=>(t.bind jf0).bind fun x=>y.bind fun y=>gd (suite.isEmpty || !(sc.lookup y == some .local)) (o4 (trX { T with quiet:=q } n sc N st) (jmK T sc x) (jcQ N y) (mapO (trs true sc N) suite) fun b c k h=>.tryx b c (some k) (toSs h)))
 |.Expr e _=>jmM (trE { T with quiet:=q } n sc N) sc N e
 |_=>none
noncomputable def trS:Nat->Bool->List (Str×NameKind)->List Str->Stmt->Option S
 |0=>fun _ _ _ _=>none
 |n + 1=>jrk T n (trS n)
end
structure XT (T:Tab)(G:Calls)(U:Nat->Nat->Bool)(Z:Kn)(n:Nat)(X:Cx)(sc:List (Str×NameKind)):Prop extends XD T G U Z n X sc where
 fn:∀x,X.fn x=true
 own:T.quiet=false->PassesOwn (model X.prog X.w) X.A X.env X.xe
 hex:X.ex=[]
 hst:X.stack=X.env::X.outer
 hfr:X.env.frame=some X.env.locals
 rcl:∀C∈Z.cl,Rcl Z.K C
variable {T:Tab}{G:Calls}{U:Nat->Nat->Bool}{Z:Kn}{m W:Nat}
theorem XT.loc {X:Cx}{sc:List (Str×NameKind)}(D:XT T G U Z m X sc){x:Str}(h:jlm sc x=true):L2.Loc X.env.scope x:=by
 unfold jlm at h;simp only[Bool.or_eq_true,beq_iff_eq]at h;unfold L2.Loc;rcases D.sc x with e | ⟨e,_⟩
 ·rw[e];exact h
 ·rw[e]at h;rcases h with z | z <;> cases z
theorem XT.toHnd {X:Cx}{sc:List (Str×NameKind)}(D:XT T G U Z m X sc){pins:List (Addr×Obj)}{ea:Addr}:XT { T with quiet:=true } G U Z m (jiF X pins ea) sc:=⟨D.toXD.toHnd,D.fn,(fun z=>nomatch z),D.hex,D.hst,D.hfr,D.rcl⟩
theorem je6 {X:Cx}{sc:List (Str×NameKind)}(D:XT T G U Z m X sc):∀{xs:List Str}{ps:List Pos}{is:List Nat},ps.length=xs.length->xs.all (jlm sc)=true->mapO (jcQ X.N) xs=some is->TgsOk X ((xs.zip ps).map fun p=>Expr.Name p.1 p.2) is
 |[],_,is,_,_,h=>by cases h;exact .nil
 |x::xs,[],_,h,_,_=>by simp at h
 |x::xs,p::ps,is,h,ha,hm=>by
  obtain⟨i,is',h1,h2,rfl⟩:=jaD hm;simp only[List.all_cons,jr6]at ha;exact .cons (jaG h1) (D.loc ha.1) (.inl (D.fn x)) (je6 D (by simpa using h) ha.2 h2)
theorem joX {X:Cx}{sc:List (Str×NameKind)}(D:XT T G U Z m X sc){tg:Expr}{xs:List Str}{one:Bool}{is:List Nat}(ht:jcW tg=some (xs,one))(ha:xs.all (jlm sc)=true)(hm:mapO (jcQ X.N) xs=some is):TgOk X tg is one/\(one=false->∃es k pos,tg=.Tuple es k pos):=by
 rcases jix ht with ⟨x,p,rfl,rfl,rfl⟩ | ⟨es,k,p,rfl,q,rfl⟩
 ·obtain⟨i,is',h1,h2,rfl⟩:=jaD hm;cases h2;simp only[List.all_cons,List.all_nil,Bool.and_true]at ha;exact⟨.one (jaG h1) (D.loc ha) (.inl (D.fn x)),fun z=>by cases z⟩
 ·obtain⟨ps,l1,l2,e⟩:=jiD q;refine⟨?_,fun _=>⟨_,_,_,rfl⟩⟩;rw[e];exact .many (je6 D l2 ha hm)
theorem jb4 {e:Expr}(h:jdz e=true){t:Option Expr}{l:Nat}{env:Env}:swapsWith e t l env=pure false:=by
 unfold swapsWith;cases e <;> first | rfl | cases h
theorem tS.congr {X:Cx}{B:Bs}{f g:Rho->R Fl}(h:∀ρ,f ρ=g ρ):tS Z X B f=tS Z X B g:=by rw[show f=g from funext h]
theorem tSx.congr {X:Cx}{B:Bs}{f g:Rho->R Fl}(h:∀ρ,f ρ=g ρ):tSx Z X B f=tSx Z X B g:=by rw[show f=g from funext h]
theorem jgd {X:Cx}{B:Bs}{n:Nat}{q:Bool}{sc:List (Str×NameKind)}(ih:∀s S',trS T n q sc X.N s=some S'->PS X s (tS Z X B (evS G U W S'))):∀{ss:List Stmt}{Ss':List S},mapO (trS T n q sc X.N) ss=some Ss'->PSs X ss (tS Z X B (evSs G U W (toSs Ss')))
 |[],Ss',h=>by
  cases h;rw[tS.congr (g:=fun ρ=>.ok (.nx ρ)) fun ρ=>by simp only[toSs,evSs]]
  exact joP
 |s::ss,Ss',h=>by
  obtain⟨S1,Sr,h1,h2,rfl⟩:=jaD h;have:=jmJ (ih s S1 h1) (jgd ih h2);rw[tS.congr (g:=fun ρ=>(evS G U W S1 ρ).bind (jl3 (evSs G U W (toSs Sr)))) fun ρ=>by simp only[toSs,evSs]]
  exact this
theorem jln {X:Cx}{sc:List (Str×NameKind)}(D:XD T G U Z m X sc){x:Str}{c:Nat}(h:jmK T sc x=some c):jc9 x=false/\knd sc x=2/\∃C,Z.cl[c]?=some C/\X.mg x=some (.ref C):=by
 replace h:=jal h;obtain⟨hc,h⟩:=h;replace hc:=jaZ hc;obtain⟨c1,c2⟩:=hc;exact⟨c1,jeo c2,D.excs c x (jaG h)⟩
theorem jkr {X:Cx}{sc:List (Str×NameKind)}{B:Bs}{n:Nat}{st:Stmt}{S':S}(D:XD T G U Z m X sc)(h:trX T n sc X.N st=some S'):PS X st (tSx Z X B (evS G U W S')):=by
 cases st with
 |Expr e pos=>
  replace h:=jal h;obtain⟨hp,h⟩:=h;replace h:=jaq h;obtain⟨E',q,rfl⟩:=h;rw[tSx.congr (g:=fun ρ=>(evE G U E' ρ).bind fun p=>.ok (.nx p.2)) fun ρ=>by simp only[evS]]
  exact jiG ((jci n _ X sc e E' D q).pe B) (jb4 (ja8 hp))
 |_=>exact jah h
end DJ
namespace DJ
open PySem PySem.Spec PyProof.Rows L2
variable {T:Tab}{G:Calls}{U:Nat->Nat->Bool}{Z:Kn}{m W:Nat}
theorem PS.cg {X:Cx}{B:Bs}{s:Stmt}{f g:Rho->R Fl}(h:PS X s (tS Z X B g))(e:∀ρ,f ρ=g ρ):PS X s (tS Z X B f):=by
 rw[tS.congr e];exact h
theorem PS.cgx {X:Cx}{B:Bs}{s:Stmt}{f g:Rho->R Fl}(h:PS X s (tSx Z X B g))(e:∀ρ,f ρ=g ρ):PS X s (tSx Z X B f):=by
 rw[tSx.congr e];exact h
theorem jmN {n:Nat}{X:Cx}{sc:List (Str×NameKind)}{B:Bs}{q:Bool}(D:XT { T with quiet:=q } G U Z m X sc){x:Str}{px pos:Pos}{e:Expr}{i:Nat}{E':E}(hl:jlm sc x=true)(hi:jcQ X.N x=some i)(he:trE { T with quiet:=q } n sc X.N e=some E') :
  PS X (.Assign [.Name x px] e pos) (tS Z X B (evS G U W (.asg i E'))):=by
 have S:=jci n _ X sc e E' D.toXD he;have hK:=D.hK;have hN:=jaG hi;have hx:=D.loc hl;rw[tS.congr (g:=fun ρ=>(evE G U E' ρ).bind fun p=>(jfQ p.1 p.2).bind fun q=>if i < q.2.length then .ok (.nx (q.2.set i q.1))else .stk) fun ρ=>by simp only[evS]]
 refine PS.x ?_;have plain:swapsWith e (some (.Name x px)) pos.line X.env=pure false->PS X (.Assign [.Name x px] e pos) (tSx Z X B fun ρ=>(evE G U E' ρ).bind fun p=>(jfQ p.1 p.2).bind fun q=>if i < q.2.length then .ok (.nx (q.2.set i q.1))else .stk):=fun hs=>joO D.nd hN hx (.inl (D.fn x)) (S.pe B) hs;cases hp:jdz e with
 |true=>exact plain (jb4 hp)
 |false=>
 cases n with
 |zero=>exact jah he
 |succ n=>
 cases e with
 |ListComp elt gens scope cpos=>
  obtain⟨hq,tg,iter,ks,N,cn,nt,caps,tgs,one,it,fc,Ee,Ec,rfl,rfl,cd,ev⟩:=jey D.toXD (jci n _) (jci n _) he;have hsw:swapsWith (.ListComp elt [⟨tg,iter,ks,0⟩] scope cpos) (some (.Name x px)) pos.line X.env=pure (X.env.blockKind == .function && X.env.kindOf x == some .local && px.line == (Expr.ListComp elt [⟨tg,iter,ks,0⟩] scope cpos).pos.line && !(scope.names.any fun p=>p.1 == x && (p.2 == .local || p.2 == .cell))):=rfl;generalize (X.env.blockKind == .function && X.env.kindOf x == some .local && px.line == (Expr.ListComp elt [⟨tg,iter,ks,0⟩] scope cpos).pos.line && !(scope.names.any fun p=>p.1 == x && (p.2 == .local || p.2 == .cell)))=bb at hsw;cases bb with
  |false=>exact plain hsw
  |true=>
   have:=jgL (pos:=cpos) (spos:=pos) (py:=px) hK D.nd hN hx (.inl (D.fn x)) hsw (D.calm hq) cd.C (cd.hi B) cd.hT cd.hlow cd.hE (xx:=!T.deep) (fun z=>D.top (by cases e:T.deep with | false=>rfl | true=>rw[e]at z;cases z)) cd.hK cd.hs
   rw[tSx.congr (f:=fun ρ=>(evE G U (E.comp Ee tgs one nt caps it Ec (!T.deep)) ρ).bind _) (g:=_) fun ρ=>?_]
   ·exact this
   ·rw[ev ρ]
 |SetComp a b c d=>exact jah he
 |DictComp a b c d f=>exact jah he
 |_=>cases hp
theorem jmO {n:Nat}{X:Cx}{sc:List (Str×NameKind)}{B:Bs}{q:Bool}(D:XT { T with quiet:=q } G U Z m X sc){x m':Str}{xp apos cpos pos:Pos}{as:List Expr}{i:Nat}{S':S}(hv:PE X (.Name x xp) (jnr i))(hline:(apos.endLine == cpos.line)=true)(h:jqS (trE { T with quiet:=q } n sc X.N) i m' as=some S') :
  PS X (.Expr (.Call (.Attribute (.Name x xp) m' apos) as [] cpos) pos) (tS Z X B (evS G U W S')):=by
 have hK:=D.hK;have ih:∀{e E'},trE { T with quiet:=q } n sc X.N e=some E'->Says G U Z X e E':=fun {e E'} h=>jci n _ X sc e E' D.toXD h
 refine PS.x ?_;replace h:=jaC h;rcases h with ⟨hm,h⟩ | h
 ·cases jb2 hm;replace h:=jac h;obtain⟨e,h1,h⟩:=h;cases jaM h1;replace h:=jaq h;obtain⟨E',he,rfl⟩:=h;have S:=ih he;rw[tSx.congr (g:=fun ρ=>match ρ[i]? with
   |some (.own (.l _) _ _)=>(evE G U E' ρ).bind fun p=>(toD p.1 p.2).bind fun q=>match q.2[i]? with
    |some (.own (.l xs) f false)=>if fits (xs.length + 1)then .ok (.nx (q.2.set i (.own (.l (xs++[q.1])) f false)))else .stk
    |_=>.stk
   |_=>.stk) fun ρ=>by simp only[evS] <;> rfl]
  exact joQ hK hv (S.pe B) S.ns hline
 replace h:=jaC h;rcases h with ⟨hm,h⟩ | h
 ·cases jb2 hm;replace h:=jal h;obtain⟨h1,h⟩:=h;cases jaQ h1;cases h;exact PS.cgx (joS hv hline) fun ρ=>by simp only[evS,jp3] <;> rfl
 exact jah h
theorem jmP:∀(n:Nat) (X:Cx) (sc:List (Str×NameKind)) (B:Bs) (q:Bool) (s:Stmt) (S':S),XT { T with quiet:=q } G U Z m X sc->trS T n q sc X.N s=some S'->PS X s (tS Z X B (evS G U W S')):=by
 intro n;induction n with
 |zero=>intro X sc B q s S' D h;exact jah h
 |succ n ih=>
  intro X sc B q s S' D h;have ihX:∀{ss:List Stmt}{Ss':List S},mapO (trS T n q sc X.N) ss=some Ss'->PSs X ss (tS Z X B (evSs G U W (toSs Ss'))):=jgd fun s S' h=>ih X sc B q s S' D h;have sa:∀{e E'},trE { T with quiet:=q } n sc X.N e=some E'->Says G U Z X e E':=fun {e E'} h=>jci n _ X sc e E' D.toXD h
  have hK:=D.hK;cases s with
  |Return v pos=>
   cases v with
   |some e=>
    replace h:=jaq h;obtain⟨E',w,rfl⟩:=h;exact PS.cg (PS.x (joL ((sa w).pe B))) fun ρ=>by simp only[evS] <;> rfl
   |none=>
    cases h;exact PS.cg (PS.x jmG) fun ρ=>by simp only[evS] <;> rfl
  |Pass pos=>
   cases h;exact PS.cg (PS.x jmH) fun ρ=>by simp only[evS] <;> rfl
  |Break pos=>
   cases h;exact PS.cg (PS.x joM) fun ρ=>by simp only[evS] <;> rfl
  |Continue pos=>
   cases h;exact PS.cg (PS.x joN) fun ρ=>by simp only[evS] <;> rfl
  |Assign ts e pos=>
   replace h:=jac h;obtain⟨t,ht,h⟩:=h;cases jaM ht;replace h:=jbp h;rcases h with ⟨x,hx,h⟩ | h
   ·obtain⟨px,rfl⟩:=jaR hx;replace h:=jal h;obtain⟨hl,h⟩:=h;replace h:=jbD h;obtain⟨i,E',hi,he,rfl⟩:=h;exact jmN D (ja8 hl) hi he
   replace h:=jbp h;rcases h with ⟨es,hx,h⟩ | h
   ·obtain⟨k,tp,rfl⟩:=jcR hx;replace h:=jal h;obtain⟨hq,h⟩:=h;replace hq:=jaZ hq;obtain⟨hq,hnt⟩:=hq;replace hq:=jaZ hq;obtain⟨hq,hpl⟩:=hq;replace h:=jac h;obtain⟨xs,hxs,h⟩:=h;replace h:=jal h;obtain⟨hl,h⟩:=h;replace h:=jbD h;obtain⟨is,E',h1,he,rfl⟩:=h;obtain⟨ps,l1,l2,ee⟩:=jiD hxs;have hT:TgsOk X es is:=by rw[ee];exact je6 D l2 (ja8 hl) h1
    have hw:swappedStores [.Tuple es k tp] e X.env=pure none:=by
     cases e <;> first | rfl | cases hnt
    refine PS.x ?_;exact PS.cgx (joU hK (D.calm hq) D.nd hT ((sa he).pe B) (jb4 (ja8 hpl)) hw) fun ρ=>by simp only[evS] <;> rfl
   replace h:=jbp h;rcases h with ⟨⟨v,k⟩,hx,h⟩ | h
   ·obtain⟨sp,rfl⟩:=jiI hx;replace h:=jac h;obtain⟨x,hx,h⟩:=h;obtain⟨xp,rfl⟩:=jaR hx;replace h:=jal h;obtain⟨hc,h⟩:=h;replace hc:=jaZ hc;obtain⟨hc,hsl⟩:=hc;replace hc:=jaZ hc;obtain⟨hc,hpl⟩:=hc;replace hc:=jaZ hc;obtain⟨hb,hk⟩:=hc;replace h:=jcq h;obtain⟨i,Ek,E',hi,hek,he,rfl⟩:=h;have hv:PE X (.Name x xp) (jnr i):=jfH (jaG hi) (D.vis (jeo hk)) (jdw hb).1 (jj0 hb);refine PS.x ?_;exact PS.cgx (joT hv ((sa hek).pe B) ((sa he).pe B) (jb4 (ja8 hpl)) (fun a b c d z=>by subst z;cases hsl) rfl) fun ρ=>by simp only[evS,jp4] <;> rfl
   exact jah h
  |While c body oe pos=>
   replace h:=jal h;obtain⟨hq,h⟩:=h;replace hq:=jaZ hq;obtain⟨hq,ho⟩:=hq;cases jaQ ho;replace h:=jbD h;obtain⟨Ec,Sb,hc,hb,rfl⟩:=h;exact PS.cg (joV (D.own hq) ((sa hc).pt B) (ihX hb)) fun ρ=>by simp only[evS] <;> rfl
  |If c a b pos=>
   replace h:=jcq h;obtain⟨Ec,Sa,Sb,hc,ha,hb,rfl⟩:=h;exact PS.cg (jp2 ((sa hc).pt B) (ihX ha) (ihX hb)) fun ρ=>by simp only[evS] <;> rfl
  |For tg iter body oe pos=>
   replace h:=jal h;obtain⟨hq,h⟩:=h;replace hq:=jaZ hq;obtain⟨hq,ho⟩:=hq;cases jaQ ho;replace h:=jac h;obtain⟨⟨xs,one⟩,ht,h⟩:=h;replace h:=jal h;obtain⟨hl,h⟩:=h;replace h:=jcq h;obtain⟨is,it,Sb,h1,h2,h3,rfl⟩:=h;obtain⟨hT,hone⟩:=joX D ht (ja8 hl) h1;have hi:=jgc (tg:=tg) D.toXD (fun e E' z=>sa z) hone h2 B;exact PS.cg (joR hK (D.own hq) (D.calm hq) D.nd hi hT (ihX h3) (jew (jdx h2))) fun ρ=>by simp only[evS] <;> rfl
  |Raise x c pos=>
   replace h:=jal h;obtain⟨hq,h⟩:=h;replace hq:=jaZ hq;obtain⟨hq,hc⟩:=hq;cases c with
   |some _=>cases hc
   |none=>
   replace h:=jac h;obtain⟨e,h1,h⟩:=h;cases h1;replace h:=jac h;obtain⟨⟨x,as⟩,h2,h⟩:=h;obtain⟨np,cpos,rfl⟩:=jch h2;replace h:=jac h;obtain⟨a,h3,h⟩:=h;cases jaM h3;replace h:=jbD h;obtain⟨c,E',hc,he,rfl⟩:=h;obtain⟨hb,hk,C,hC,hm⟩:=jln (T:={ T with quiet:=q }) D.toXD hc
   have S:=sa he;exact PS.cg (jkq hK (D.calm hq) (D.rcl C (jrD hC)) hC (D.gl hk) hm (jdw hb).1 (S.pe B) S.ns) fun ρ=>by simp only[evS] <;> rfl
  |Try bd hs oe fb pos=>
   replace h:=jal h;obtain⟨hq,h⟩:=h;replace hq:=jaZ hq;obtain⟨hq,hfb⟩:=hq;replace hq:=jaZ hq;obtain⟨hq,ho⟩:=hq;cases jaQ ho;cases jaQ hfb;replace h:=jac h;obtain⟨st,h1,h⟩:=h;cases jaM h1;replace h:=jac h;obtain⟨⟨t,y,suite,hp⟩,h1,h⟩:=h;cases jaM h1;replace h:=jac h;obtain⟨x,h1,h⟩:=h;replace h1:=jac h1;obtain⟨t,h2,h1⟩:=h1;obtain⟨np,rfl⟩:=jaR h1;cases h2;replace h:=jac h;obtain⟨y,h1,h⟩:=h;cases h1;replace h:=jal h;obtain⟨hc,h⟩:=h;replace hc:=jaZ hc;obtain⟨hsu,hy⟩:=hc;have hy:sc.lookup y=some .local:=by simpa using hy
   cases suite with
   |nil=>cases hsu
   |cons b₀ suite=>
   replace h:=jle h;obtain⟨b,c,k,hs,hb,hc,hk,hh,rfl⟩:=h;obtain⟨hbd,hkd,C,hC,hm⟩:=jln (T:={ T with quiet:=q }) D.toXD hc
   have hloc:X.env.scope.names.lookup y=some .local:=by
    rcases D.sc y with e | ⟨e,_⟩
    ·rw[e];exact hy
    ·rw[hy]at e;cases e
   rw[tS.congr (g:=jpj U (evS G U W b) (evSs G U W (toSs hs)) c k) fun ρ=>by
    simp only[evS,jpj] <;> (cases evS G U W b ρ <;> rfl)]
   refine joK hK D.toXD.ecs D.fn D.hex D.hst D.hfr (D.calm hq) D.nd (fun pins E'=>jkr D.toXD.toTry hb) (D.gl hkd) hm hC (jdw hbd).1 (jaG hk) hloc fun pins ea=>?_;have DH:XT { T with quiet:=true } G U Z m (jiF X pins ea) sc:=D.toHnd
   exact jgd (X:=jiF X pins ea) (fun s S' h=>ih (jiF X pins ea) sc B true s S' DH h) hh
  |Expr e pos=>
   replace h:jmM (trE { T with quiet:=q } n sc X.N) sc X.N e=some S':=h
   unfold jmM at h;cases ha:jmL e with
   |some p=>
    rw[ha]at h;obtain⟨x,m',as⟩:=p;obtain⟨xp,apos,cpos,rfl,hline⟩:=jiH ha;replace h:=jal h;obtain⟨hc,h⟩:=h;replace hc:=jaZ hc;obtain⟨hb,hk⟩:=hc;replace h:=jac h;obtain⟨i,hi,h⟩:=h;exact jmO D (jfH (jaG hi) (D.vis (jeo hk)) (jdw hb).1 (jj0 hb)) hline h
   |none=>
    rw[ha]at h;replace h:=jal h;obtain⟨hp,h⟩:=h;replace h:=jaq h;obtain⟨E',w,rfl⟩:=h;refine PS.x ?_;exact PS.cgx (jiG ((sa w).pe B) (jb4 (ja8 hp))) fun ρ=>by simp only[evS] <;> rfl
  |_=>exact jah h
end DJ
namespace DJ
open PySem PySem.Spec PyProof.Rows L2
structure DefS where
 name:Str
 N:List Str
 ps:List Str
 st:Stmt
theorem jp6 {α:Type}{P:α->Prop}:∀x∈([]:List α),P x:=fun _ h=>nomatch h
theorem jbN {α:Type}{P:α->Prop}{a:α}{l:List α}(h:P a)(t:∀x∈l,P x):∀x∈a::l,P x:=List.forall_mem_cons.mpr ⟨h,t⟩
noncomputable def From {α:Type}(Q:Nat->α->Prop)(k:Nat)(l:List α):Prop:=∀(i:Nat) (d:α),l[i]?=some d->Q (k + i) d
theorem jdS {α:Type}{Q:Nat->α->Prop}{k:Nat}:From Q k []:=fun _ _ h=>by cases h
theorem jai {α:Type}{Q:Nat->α->Prop}{k:Nat}{a:α}{l:List α}(h:Q k a)(t:From Q (k + 1) l):From Q k (a::l):=fun i d e=>by
 cases i with
 |zero=>cases e;exact h
 |succ i=>
  have:=t i d e;rwa [Nat.add_assoc,Nat.add_comm 1 i]at this
theorem From.at {α:Type}{Q:Nat->α->Prop}{l:List α}(h:From Q 0 l):∀(i:Nat) (d:α),l[i]?=some d->Q i d:=fun i d e=>by
 have:=h i d e;rwa [Nat.zero_add]at this
theorem jrl {α:Type}{P:List α->Prop}(h:P []):∀us:List α,us.length=0->P us
 |[],_=>h
theorem jpk {α:Type}{P:List α->Prop}{n:Nat}(h:∀a (r:List α),r.length=n->P (a::r)):∀us:List α,us.length=n + 1->P us
 |a::r,e=>h a r (Nat.succ.inj e)
theorem jnw {α:Type}{P:List α->Prop}(h:∀a,P [a]):∀us:List α,us.length=1->P us:=jpk fun a=>jrl (P:=fun r=>P (a::r)) (h a)
theorem joY {α:Type}{P:List α->Prop}(h:∀a b,P [a,b]):∀us:List α,us.length=2->P us:=jpk fun a=>jnw (P:=fun r=>P (a::r)) (h a)
theorem jp7 {α:Type}{P:List α->Prop}(h:∀a b c,P [a,b,c]):∀us:List α,us.length=3->P us:=jpk fun a=>joY (P:=fun r=>P (a::r)) (h a)
theorem jqT {α:Type}{P:List α->Prop}(h:∀a b c d,P [a,b,c,d]):∀us:List α,us.length=4->P us:=jpk fun a=>jp7 (P:=fun r=>P (a::r)) (h a)
noncomputable def BindP (d:DefS):Prop:=∀(kV doc pm:Value) (an:Option Addr) (cdv ct:Value) (us:List Value),us.length=d.ps.length->bindArgs (PySem.W.fnOf d.name d.name (defArgs d.st) (defBody d.st) (defScope d.st) .none kV doc pm an cdv ct) ⟨us,[]⟩=pure (d.ps.zip us)
structure Prog (K:Frag)(mg:Str->Option Value)(Z:Kn)(U:Nat->Nat->Bool)(T:Tab)(DS:List DefS)(P:List Def)(fuel:Nat):Prop where
 hK:K=Z.K
 loud:T.quiet=false
 tab:T.defs=DS.map (·.name)
 blt:∀x∈bltNames,mg x=none
 cons:∀x d,T.cons.lookup x=some d->∃u v,mg x=some u/\RelV v u/\∀F H,Rep Z F H d v
 excs:∀(i:Nat) (nm:Str),T.excs[i]?=some nm->∃C,Z.cl[i]?=some C/\mg nm=some (.ref C)
 ecs:Ecs U Z
 rcl:∀C∈Z.cl,Rcl Z.K C
 fns:∀(i:Nat) (d:DefS),DS[i]?=some d->∃f fd,mg d.name=some (.ref f)/\Fun K d.name d.name d.st f fd/\BindP d/\FnScope d.N d.ps (defScope d.st) /\
  ∃ss,mapO (trS T fuel false (defScope d.st).names d.N) (defBody d.st)=some ss/\P[i]?=some ⟨d.ps.length,d.N.length,toSs ss⟩
section
variable {Z:Kn}{B:Bs}{F F':Addr->Prop}{H H':Hp}{N:List Str}{vs:List V}{sls:List Sl}{n:Nat}{σ':L2.St}{ρ':Rho}
theorem jck {i:Nat}{s:Sl}(hs:s≠.no)(h:(sls++List.replicate n Sl.no)[i]?=some s):sls[i]?=some s:=by
 by_cases hi:i < sls.length
 ·rwa [jrI hi]at h
 ·rw[jrE (by omega),List.getElem?_replicate]at h
  split at h
  ·cases h;exact absurd rfl hs
  ·cases h
theorem jiJ {i:Nat}{v:V}(h:vs[i]?=some v):(start N vs)[i]?=some (some v):=by
 unfold L2.start;rw[jrI (by rw[jrz];exact(List.getElem?_eq_some_iff.mp h).1),jrw,h]
 rfl
theorem jbJ {i:Nat}(hi:i < vs.length):(start N vs)[i]?=(vs.map some)[i]?:=by
 rw[jiJ (jrq hi),jrw,jrq hi];rfl
theorem jks (hN:vs.length<=N.length)(r:SR Z B F H (vs.map some) sls):SR Z B F H (start N vs) (sls++List.replicate (N.length - sls.length) .no):=by
 have hl:sls.length=vs.length:=by have:=r.len;simpa using this
 have lt:∀{i:Nat}{s:Sl},sls[i]?=some s->i < vs.length:=fun h=>by rw[<-hl];exact(List.getElem?_eq_some_iff.mp h).1
 refine⟨r.dom,?_,fun i d h=>?_,fun i o f k h=>?_,fun i j o o' f k f' k' l ne h h'=>?_,r.base⟩
 ·unfold L2.start;simp[hl]
 ·have h:=jck (by intro z;cases z) h
  rw[jbJ (lt h)];exact r.dat i d h
 ·have h:=jck (by intro z;cases z) h
  rw[jbJ (lt h)];exact r.own i o f k h
 ·have h:=jck (by intro z;cases z) h
  have h':=jck (by intro z;cases z) h'
  rw[jbJ (lt h),jbJ (lt h')];exact r.one i j _ _ _ _ _ _ l ne h h'
theorem jdT (hl:sls.length=vs.length){b:Addr}(h:Mb (start N vs) (sls++List.replicate n .no) b):Mb (vs.map some) sls b:=by
 obtain⟨i,o,f,h1,h2⟩:=h;have h1:=jck (by intro z;cases z) h1
 rw[jbJ (by rw[<-hl];exact(List.getElem?_eq_some_iff.mp h1).1)]at h2
 exact⟨i,o,f,h1,h2⟩
theorem jkt {k:Nat}{ρ:Rho}{j:Nat}{o:O}{f g:Bool}(h:(jgD k ρ)[j]?=some (.own o f g)):f=true/\ρ[j]?=some (.own o true g)/\j < k:=by
 unfold jgD at h;rw[jrw]at h;have hj:j < k:=by
  refine Nat.lt_of_not_le fun z=>?_;rw[jrH (by simpa using z)]at h
  cases h
 rw[jrq (by simpa using hj),List.getElem_range]at h
 simp only[Option.map_some]at h;split at h
 ·rename_i s e;rw[e];cases s with
  |no=>cases h
  |dat d=>cases h
  |own o1 f1 g1=>
   cases f1 with
   |true=>cases h;exact⟨rfl,rfl,hj⟩
   |false=>cases h
 ·cases h
theorem jku {k:Nat}{ρ:Rho}{j:Nat}{d:D}:(jgD k ρ)[j]?≠some (.dat d):=by
 intro h;unfold jgD at h;rw[jrw]at h;cases e:(List.range k)[j]? with
 |none=>rw[e]at h;cases h
 |some i=>
  rw[e]at h;simp only[Option.map_some]at h;split at h
  ·rename_i s _;cases s with
   |no=>cases h
   |dat d=>cases h
   |own o1 f1 g1=>cases f1 <;> cases h
  ·cases h
theorem jlo (hl:sls.length=vs.length)(hB:∀(k:Nat) (l:Addr),B.lent k=some l->(vs.map some)[k]?=some (some (.ref l)))(g:Go (start N vs) (sls++List.replicate n .no) F H σ' ρ' F' H')(r:SR Z B F' H' σ' ρ') :
  Go (vs.map some) sls F H (vs.map some) (jgD vs.length ρ') F' H'/\SR Z B F' H' (vs.map some) (jgD vs.length ρ')/\∀w u H0,(∀i,w≠.slot i)->RV Z F' H0 H' σ' ρ' w u->RV Z F' H0 H' (vs.map some) (jgD vs.length ρ') w u:=by
 have own:∀{j:Nat}{o:O}{f k:Bool},(jgD vs.length ρ')[j]?=some (.own o f k)->f=true/\ρ'[j]?=some (.own o true k)/\j < vs.length/\∃l,σ'[j]?=some (some (.ref l))/\(vs.map some)[j]?=some (some (.ref l))/\OwR Z B F' H' j o true l:=fun {j o f k} h=>by
  obtain⟨rfl,e,hj⟩:=jkt h;obtain⟨l,e1,e2⟩:=r.own j o _ _ e;exact⟨rfl,e,hj,l,e1,hB j l (e2.2.2.1 rfl),e2⟩
 refine⟨⟨fun b o e nm=>g.stay b o e fun z=>nm (jdT hl z),g.sub,fun a ha=>?_,fun j o f k b h1 h2=>?_,g.there⟩,⟨r.dom,by simp[jgD],fun i d h=>absurd h jku,fun i o f k h=>?_,fun i j o o' f k f' k' l ne h h' q q'=>?_,r.base⟩,fun w u H0 hw rv=>?_⟩
 ·rcases g.new a ha with q | q | q
  ·exact .inl q
  ·exact .inr (.inl q)
  ·exact .inr (.inr (jdT hl q))
 ·obtain⟨rfl,e,hj,l,e1,e2,_⟩:=own h1;rw[h2]at e2;cases e2;rcases g.ow j o true k b e e1 with ⟨o0,k0,a1,a2,a3⟩ | q
  ·have a1:=jck (by intro z;cases z) a1
   rw[jbJ hj]at a2;exact .inl ⟨o0,k0,a1,a2,a3⟩
  ·exact .inr q
 ·obtain⟨rfl,e,hj,l,e1,e2,e3⟩:=own h;exact⟨l,e2,e3⟩
 ·obtain⟨rfl,e,hj,l1,e1,e2,_⟩:=own h;obtain⟨rfl,e',hj',l1',e1',e2',_⟩:=own h';rw[q]at e2;cases e2;rw[q']at e2';cases e2';exact r.one i j _ _ _ _ _ _ l ne e e' e1 e1'
 ·cases w with
  |dat d=>exact rv
  |tmp o=>
   obtain⟨l,e,h1,h2,h3,h4⟩:=rv;refine⟨l,e,h1,fun z=>h2 ?_,h3,h4⟩;obtain⟨j,o',f',k',z1,z2⟩:=z;obtain⟨rfl,e,hj,l1,e1,e2,_⟩:=own z1;rw[z2]at e2;cases e2;exact⟨j,o',_,k',e,e1⟩
  |slot i=>exact absurd rfl (hw i)
end
theorem Stl.start {N:List Str}{vs:List V}{sls:List Sl}{n:Nat}{H H':Hp}(hl:sls.length=vs.length)(s:Stl (start N vs) (sls++List.replicate n .no) H H'):Stl (vs.map some) sls H H':=⟨fun b o e nm=>s.stay b o e fun z=>nm (jdT hl z),s.there⟩
theorem jmQ {Pr:Program}{w:World}{K:Frag}{mg:Str->Option Value}{base:Heap}{Z:Kn}{U:Nat->Nat->Bool}{T:Tab}{DS:List DefS}{P:List Def}{fuel W:Nat}(R:Prog K mg Z U T DS P fuel) :
  ∀(n i:Nat) (d:DefS) (f:Addr) (fd:FuncData),DS[i]?=some d->mg d.name=some (.ref f)->Fun K d.name d.name d.st f fd->FnOk Pr w K mg base (CXD Pr w) n f fd d.ps (spD Z (jaa U W P n) i):=by
 intro n;induction n with
 |zero=>
  intro i d f fd hd hm h2;refine⟨fun vs H Q E h=>?_,fun A outer s H args us vs Q E hr e0 hb hv h=>?_⟩
  ·obtain⟨B,F,sls,_,_,_,h⟩:=h;exact False.elim h
  ·obtain⟨B,F,sls,_,_,_,h⟩:=h;exact False.elim h
 |succ n ih=>
  intro i d f fd hd hm h2;obtain⟨f0,fd0,g1,g2,h3,h4,ss,h5,h6⟩:=R.fns i d hd;have hsl:∀{B:Bs}{F:Addr->Prop}{H:Hp}{vs:List V}{sls:List Sl},SR Z B F H (vs.map some) sls->sls.length=vs.length:=fun r=>by have:=r.len;simpa using this
  have hlen:∀vs H Q E,spD Z (jaa U W P (n + 1)) i vs H Q E->vs.length=d.ps.length:=fun vs H Q E ⟨B,F,sls,r,_,_,h⟩=>by
   simp only[jaa,h6]at h;split at h
   ·rename_i hl;rw[<-hsl r];exact hl
   ·exact False.elim h
  obtain⟨oc,od,kV,doc,pm,an,cdv,ct,osl,rfl,lk,hcd⟩:=h2.ex;refine jpD lk hcd h4 hlen fun A outer s H vs Q E hr hsp=>?_;obtain⟨B,F,sls,r,hB1,hB2,h⟩:=hsp;have hls:=hsl r;simp only[jaa,h6]at h;split at h
  ·rename_i hl;have hpl:d.ps.length<=d.N.length:=by have:=congrArg List.length h4.pre;rw[List.length_take]at this;omega
   have hT:{ T with quiet:=false }=T:=by
    obtain⟨a,b,c,e,q,dp⟩:=T;have:q=false:=R.loud;subst this;rfl
   have D:XT { T with quiet:=false } (jaa U W P n) U Z n (jgu (CXD Pr w) Pr w K mg base d.N d.name (defScope d.st) f cdv A outer s H E) (defScope d.st).names:=by
    refine { hK:=R.hK,calm:=fun _=>rfl,nd:=h4.nd,room:=fun _=>hr,un:=hr.units,sc:=fun x=>.inl rfl,blt:=R.blt,defs:=fun j nm hj=>?_,cons:=R.cons,excs:=R.excs,ecl:=?_,sub:=?_,top:=fun _=>⟨fun _=>rfl,rfl,rfl⟩,fn:=fun _=>rfl,own:=fun _=>PassesOwn.leaving,hex:=rfl,hst:=rfl,hfr:=rfl,rcl:=R.rcl }
    ·have hj:T.defs[j]?=some nm:=hj;rw[R.tab,jrw]at hj;cases q:DS[j]? with
     |none=>rw[q]at hj;cases hj
     |some d'=>
      rw[q]at hj;cases hj;obtain⟨f',fd',a1,a2,a3,_⟩:=R.fns j d' q;exact⟨f',fd',d'.ps,a1,a2.kp,a2.binds a3,ih j d' f' fd' q a1 a2⟩
    ·show ∀C∈Z.cl,ECls K C;rw[R.hK];exact R.ecs.ecl
    ·show ∀(i j:Nat) (C D:Addr),Z.cl[i]?=some C->Z.cl[j]?=some D->PySem.W.mroIn K C (.ref D)=some (U i j);rw[R.hK];exact R.ecs.sub
   refine⟨_,jgd (B:=B) (W:=W) (fun s' S' hs=>jmP fuel _ _ B false s' S' D hs) h5,?_⟩;have hN:d.N.length - d.ps.length=d.N.length - sls.length:=by rw[hl]
   have sr:=jks (N:=d.N) (by rw[<-hls,hl];exact hpl) r
   rw[<-hN]at sr;refine⟨F,_,sr,h.bind.imp (fun c wc=>?_) fun fl z=>?_⟩
   ·intro σ1 ρ1 F1 H1 g1;refine⟨fun pins H' s' ea C hC I stl fly=>joI I fly (wc C H' hC (Stl.start hls (Stl.go g1 stl))),fun pins H' s' h' ea C us hC I stl mk=>jmE I mk (wc C H' hC (Stl.start hls (Stl.go g1 stl)))⟩
   ·have hk:d.ps.length=vs.length:=by rw[<-hl,hls]
    cases fl with
    |nx ρ'=>
     intro σ' F' H' g r';obtain⟨a,b,c⟩:=jlo hls hB2 g r';rw[<-hk]at a b;exact z .non F' H' (fun _ z=>by cases z) a b (by show Rep _ _ _ _ _;simp only[Rep])
    |rt v ρ'=>
     intro u σ' F' H' ns g r' rv;obtain⟨a,b,c⟩:=jlo hls hB2 g r';have rv':=c v u B.hp ns rv;rw[hB1]at rv';rw[<-hk]at a b rv';exact z u F' H' ns a b rv'
    |bk ρ'=>exact False.elim z
    |ct ρ'=>exact False.elim z
  ·exact False.elim h
theorem joZ {Z:Kn}{H:Hp}{a:Addr}{ns:List Int}{G:Calls}{i:Nat}{fin:List Sl}(h:G i [.dat (.lst (ns.map .int))]=.ok (.dat (.bl true),fin))(hS:SqL Z.K H a (ns.map V.int)) :
  spD Z G i [.ref a] H (fun v _=>v=.bl true) fun _ _ _=>False:=by
 have rs:∀(F:Addr->Prop) (ms:List Int),Reps Z F H (ms.map D.int) (ms.map V.int):=fun F ms=>by
  induction ms with
  |nil=>exact .nil
  |cons m ms ih=>exact .cons (by simp only[Rep]) ih
 have rl:∃F:Addr->Prop,Dom F H/\FL Z.K F H a (ns.map V.int):=by
  rcases hS with h | h
  ·refine⟨fun b=>b=a,fun b e=>?_,.inl ⟨rfl,h⟩⟩;have e:b=a:=e;subst e;rcases h with h | ⟨o,h⟩
   ·exact⟨_,h⟩
   ·exact⟨_,h⟩
  ·exact⟨fun _=>False,fun b e=>e.elim,.inr h⟩
 obtain⟨F,dm,fl⟩:=rl;refine⟨⟨H,fun _=>none⟩,F,[.dat (.lst (ns.map .int))],⟨dm,rfl,fun j d e=>?_,fun j o f k e=>?_,fun j j' o o' f k f' k' l _ e=>?_,fun _ z=>z⟩,rfl,(fun _ _ z=>nomatch z),?_⟩
 ·cases j with
  |zero=>simp at e;subst e;exact⟨_,rfl,by simp only[Rep];exact⟨a,_,rfl,fl,rs F ns⟩⟩
  |succ j=>simp at e
 ·cases j with
  |zero=>simp at e
  |succ j=>simp at e
 ·cases j with
  |zero=>simp at e
  |succ j=>simp at e
 ·rw[h];intro v F' H' _ _ _ rp;have rp:Rep Z F' H' (.bl true) v:=rp;simpa only[Rep] using rp
theorem jiK {l:PySem.W.OpenLaw}{q:Program}{loose:List Str}{XP:(Str->Option Value)->Heap->Prop}{YP:World->Heap->Prop}{d:DefRec}{K:Params->Frag}{cl:List Addr}{U:Nat->Nat->Bool}{T:Tab}{DS:List DefS}{P:List Def}{fuel W n i:Nat}{x:Str}{dl:DefS}
  (hn:l.most=some 63) (hdf:d.params.defaults=[]) (hr:Room n callerA) (hY:∀(w:World) (h:Heap),YP w h->(K w.params).In h) (hi:DS[i]?=some dl) (hnm:dl.name=d.name) (hps:dl.ps=[x])
  (hP:∀(w:World) (mg:Str->Option Value) (h:Heap),(K w.params).In h->h.Ns mainGlobals mg->Prog (K w.params) mg ⟨K w.params,cl⟩ U T DS P fuel)
  (hlaw:∀ns:List Int,ns.length<=63->∃fin,jaa U W P n i [.dat (.lst (ns.map .int))]=.ok (.dat (.bl true),fin)) :
  PySem.W.WalkO q loose XP YP l.row.toRowW d [] (fun f vs=>PySem.call f vs):=by
 refine L2.jlT (n:=63) (k:=n) (x:=x) (CX:=fun w=>CXD l.prog w) (sp:=fun w=>spD ⟨K w.params,cl⟩ (jaa U W P n) i) hn (by decide) hdf hr hY (fun w mg fa h KX G hmg=>?_) (fun w H a ns hl _ hS=>?_) fun w H s e s' hx=>?_
 ·have R:=hP w mg h KX G;obtain⟨f,fd,h1,h2,h3,h4,_⟩:=R.fns i dl hi;have h1':=h1;rw[hnm,hmg]at h1;cases h1;refine⟨fd,fun s u=>?_,fun base kb nb=>?_⟩
  ·obtain⟨oc,od,kV,doc,pm,an,cdv,ct,osl,rfl,lk,hcd⟩:=h2.ex;refine .of_eq ?_;have:=h3 kV doc pm an cdv ct [u] (by rw[hps];rfl)
   rw[hps]at this;exact this
  ·have R':=hP w mg base kb nb;have:=jmQ (Pr:=l.prog) (w:=w) (base:=base) (W:=W) R' n i dl fa fd hi h1' h2;rw[hps]at this;exact this
 ·obtain⟨fin,hf⟩:=hlaw ns hl;exact joZ hf hS
 ·obtain⟨ea,cls,a0,H',B,_,_,_,_,_,_,_,_,_,z⟩:=hx;exact z
noncomputable def jkv:List Value->List Str->Bool
 |[],[]=>true
 |.str x _::r,y::ys=>x == y && jkv r ys
 |_,_=>false
theorem jge:∀{us:List Value}{ys:List Str},jkv us ys=true->Vals (ys.map V.str) us
 |[],[],_=>.nil
 |.str x t::r,y::ys,h=>by
  simp only[jkv,jr6,beq_iff_eq]at h;exact .cons ⟨t,by rw[h.1]⟩ (jge h.2)
theorem jiL {Z:Kn}{F:Addr->Prop}{H:Hp}:∀{ys:List Str},Reps Z F H (ys.map D.str) (ys.map V.str)
 |[]=>by simp only[List.map_nil,Reps]
 |y::ys=>.cons (by simp only[Rep]) (jiL (ys:=ys))
theorem jlp {Z:Kn}{mg:Str->Option Value}{x:Str}{a:Addr}{od:Option Addr}{its:Array Value}{k:Nat}{sl:Array (Option Value)}(ys:List Str)(hm:mg x=some (.ref a))(hl:Z.K.lookup a=some ⟨.type "tuple",od,.seq its k,sl⟩)(hv:(jkv its.toList ys && decide (its.size<=sizeLine))=true) :
  ∃u v,mg x=some u/\RelV v u/\∀F H,Rep Z F H (.tup (ys.map .str)) v:=by
 simp only[jr6,decide_eq_true_eq]at hv;refine⟨_,.ref a,hm,rfl,fun F H=>?_⟩;simp only[Rep];exact⟨a,ys.map V.str,rfl,.inr ⟨_,its,k,hl,rfl,rfl,hv.2,jge hv.1⟩,jiL⟩
end DJ
namespace DJ
theorem R.bind_err' {α β:Type}(c:Nat)(f:α->R β):(R.err c).bind f=.err c:=rfl
theorem jiM (g:Rho->R Fl)(ρ:Rho):jl3 g (.nx ρ)=g ρ:=rfl
theorem jiN (g:Rho->R Fl)(v:Vl)(ρ:Rho):jl3 g (.rt v ρ)=.ok (.rt v ρ):=rfl
theorem jmR (g:Rho->R Fl)(ρ:Rho):jl3 g (.bk ρ)=.ok (.bk ρ):=rfl
theorem jmS (g:Rho->R Fl)(ρ:Rho):jl3 g (.ct ρ)=.ok (.ct ρ):=rfl
theorem jat {U:Nat->Nat->Bool}{W:Nat}{P:List Def}{n f:Nat}{xs:List Sl}{d:Def}(h:P[f]?=some d)(hl:xs.length=d.ps) :
  jaa U W P (n + 1) f xs=(evSs (jaa U W P n) U W d.body (xs++List.replicate (d.n - d.ps) .no)).bind (jc8 d.ps):=by
 simp only[jaa,h,if_pos hl]
theorem jbq:∀{ds:List D}{ρ:Rho},jaI [] (ds.map Vl.dat) ρ=.ok (ds.map Sl.dat,ds.map (fun _=>none),ρ)
 |[],ρ=>rfl
 |d::ds,ρ=>by
  simp only[jrx,jaI,List.headD_nil,jdH,toD,R.bind_ok',List.tail_nil,jbq]
theorem jcl:∀{ds:List D}{fin:List Sl}{ρ:Rho},jaY (ds.map fun _=>none) fin ρ=ρ
 |[],fin,ρ=>by simp[jaY]
 |d::ds,[],ρ=>by simp[jaY]
 |d::ds,s::fin,ρ=>by simp only[jrx,jaY];exact jcl
section
variable {G:Calls}{U:Nat->Nat->Bool}{ρ:Rho}{k:Nat}{es:Es}{fin:List Sl}
theorem jaS (ds:List D){v:Vl}(he:evAs G U es ρ=.ok (ds.map Vl.dat,ρ))(hG:G k (ds.map Sl.dat)=.ok (v,fin)):evE G U (.call k [] es) ρ=.ok (v,ρ):=by
 simp only[evE,he,R.bind_ok',jbq,hG,jcl]
theorem jb5 (ds:List D){c:Nat}(he:evAs G U es ρ=.ok (ds.map Vl.dat,ρ))(hG:G k (ds.map Sl.dat)=.err c):evE G U (.call k [] es) ρ=.err c:=by
 simp only[evE,he,R.bind_ok',jbq,hG,R.bind_err']
theorem jgf (ds:List D){b:Bool}(he:evAs G U es ρ=.ok (ds.map Vl.dat,ρ))(hG:G k (ds.map Sl.dat)=.ok (.dat (.bl b),fin)):evT G U (.call k [] es) ρ=.ok (b,ρ):=by
 simp only[evT,he,R.bind_ok',jbq,hG,jcl,deref,jbz]
end
theorem jcm {α:Type}{f:D->Rho->R (Option D×Rho)}{h:α->D}{g:α->D}{ρ:Rho}:∀{xs:List α},(∀x∈xs,f (h x) ρ=.ok (some (g x),ρ))->compGo f (xs.map h) ρ=.ok (xs.map g,ρ)
 |[],_=>rfl
 |x::xs,e=>by
  simp only[jrx,compGo,e x jrs,R.bind_ok',jcm fun y hy=>e y (jrr _ hy)]
theorem jbV {α:Type}{g:α->Bool}:∀(xs:List α),jaH (xs.map fun x=>.bl (g x))=some (xs.map g)
 |[]=>rfl
 |x::xs=>by simp only[jrx,jaH,jbV xs,Option.map_some]
theorem jcX {f:D->Rho->R Fl}(I:Nat->Rho->Prop):∀{xs:List D}{i:Nat}{ρ:Rho},I i ρ->(∀(j:Nat) x ρ,xs[j]?=some x->I (i + j) ρ->∃ρ',f x ρ=.ok (.nx ρ')/\I (i + j + 1) ρ')->∃ρ',jb0 f xs ρ=.ok (.nx ρ')/\I (i + xs.length) ρ'
 |[],i,ρ,h,_=>⟨ρ,rfl,by simpa using h⟩
 |x::xs,i,ρ,h,st=>by
  obtain⟨ρ1,e1,h1⟩:=st 0 x ρ rfl h;obtain⟨ρ2,e2,h2⟩:=jcX I (xs:=xs) (i:=i + 1) h1 fun j y ρ hy hI=>by
   have:=st (j + 1) y ρ (by simpa using hy) (by rwa [show i + (j + 1)=i + 1 + j by omega])
   rwa [show i + (j + 1) + 1=i + 1 + j + 1 by omega]at this
  refine⟨ρ2,?_,by rw[jrA];rwa [show i + (xs.length + 1)=i + 1 + xs.length by omega]⟩
  simp only[jb0,e1,R.bind_ok'];exact e2
end DJ
namespace DJ
section
variable {G:Calls}{U:Nat->Nat->Bool}{W:Nat}{ρ ρ':Rho}{s:S}{ss a:Ss}{c e e':E}{i:Nat}{b:Bool}
theorem jak (h:evS G U W s ρ=.ok (.nx ρ')):evSs G U W (.cons s ss) ρ=evSs G U W ss ρ':=by simp only[evSs,h,R.bind_ok',jiM]
theorem jbF {v:Vl}(h:evS G U W s ρ=.ok (.rt v ρ')):evSs G U W (.cons s ss) ρ=.ok (.rt v ρ'):=by simp only[evSs,h,R.bind_ok',jiN]
theorem jgM (h:evT G U c ρ=.ok (false,ρ)):evS G U W (.ife c a .nil) ρ=.ok (.nx ρ):=by simp only[evS,h,R.bind_ok',jr7,if_false,evSs]
theorem jdU {d:D}(h:evE G U e ρ=.ok (.dat d,ρ'))(hi:i < ρ'.length):evS G U W (.asg i e) ρ=.ok (.nx (ρ'.set i (.dat d))):=by simp only[evS,h,R.bind_ok',jfQ,toD,if_pos hi]
theorem jkw {o:O}(h:evE G U e ρ=.ok (.tmp o,ρ'))(hi:i < ρ'.length):evS G U W (.asg i e) ρ=.ok (.nx (ρ'.set i (.own o false false))):=by simp only[evS,h,R.bind_ok',jfQ,if_pos hi]
theorem jcY {d:D}(h:evE G U e ρ=.ok (.dat d,ρ')):evS G U W (.ret e) ρ=.ok (.rt (.dat d) ρ'):=by simp only[evS,h,R.bind_ok',jjP]
theorem jmT (h:evT G U c ρ=.ok (b,ρ')):evT G U (.not c) ρ=.ok (!b,ρ'):=by simp only[evT,h,R.bind_ok']
theorem jjm {c':E}(h:evT G U c ρ=.ok (false,ρ))(h':evT G U c' ρ=.ok (b,ρ')):evT G U (.or c c') ρ=.ok (b,ρ'):=by simp only[evT,h,R.bind_ok',jr7,if_false,h']
theorem jmU {xs:List D}(h:evE G U e ρ=.ok (.tmp (.l xs),ρ')):evE G U (.blt .tuple e) ρ=.ok (.dat (.tup xs),ρ'):=by simp only[evE,h,R.bind_ok',deref,O.toD,bfD,ja6]
end
end DJ
namespace DJ
open PySem
section
variable {d:D}{o:O}{i:Nat}{ρ:Rho}{xs:List D}{b:Bool}
theorem jag:deref (.dat d) ρ=.ok d:=rfl
theorem ja9:deref (.tmp o) ρ=.ok o.toD:=rfl
theorem jbm:deref (.slot i) ρ=(match ρ[i]? with | some (.own o _ _)=>.ok o.toD | _=>.stk):=rfl
theorem jcn:toD (.dat d) ρ=.ok (d,ρ):=rfl
theorem jmV:toD (.tmp o) ρ=.ok (o.toD,ρ):=rfl
theorem jkx:toD (.slot i) ρ=(match ρ[i]? with | some (.own o false false)=>.ok (o.toD,ρ.set i (.dat o.toD)) | _=>.stk):=rfl
theorem jdV:jfQ (.dat d) ρ=.ok (.dat d,ρ):=rfl
theorem jky:jfQ (.tmp o) ρ=.ok (.own o false false,ρ):=rfl
theorem jiO:jfQ (.slot i) ρ=(toD (.slot i) ρ).bind fun p=>.ok (.dat p.1,p.2):=rfl
theorem jcZ:(O.l xs).toD=.lst xs:=rfl
theorem jkz:jjP (.dat d) ρ=.ok (.rt (.dat d) ρ):=rfl
theorem jkA:jjP (.tmp o) ρ=.ok (.rt (.tmp o) ρ):=rfl
theorem jiP:jjP (.slot i) ρ=(match ρ[i]? with | some (.own o false false)=>.ok (.rt (.tmp o) (ρ.set i .no)) | _=>.stk):=rfl
theorem jkB:jcL (.dat (.bl b))=.ok b:=rfl
theorem jiQ:ja6 (.tup xs)=.ok xs:=rfl
theorem jc0:ja6 (.lst xs)=.ok xs:=rfl
theorem jgN:jbw (.dat (.tup xs)) ρ=.ok (xs,[],ρ):=rfl
theorem jgO:jbw (.dat (.lst xs)) ρ=.ok (xs,[],ρ):=rfl
theorem jgP:jbw (.tmp (.l xs)) ρ=.ok (xs,[],ρ):=rfl
theorem je7:jbw (.slot i) ρ=(match ρ[i]? with
  |some (.own (.l xs) _ true)=>.ok (xs,[],ρ)
  |some (.own (.l xs) f false)=>.ok (xs,[i],ρ.set i (.own (.l xs) f true))
  |_=>.stk):=rfl
theorem jmW {k:Nat}{v:Vl}:jc8 k (.rt v ρ)=.ok (v,jgD k ρ):=rfl
theorem jmX {k:Nat}:jc8 k (.nx ρ)=.ok (.dat .non,jgD k ρ):=rfl
theorem jmY {lo hi:Option Int}:jhi (.tup xs) lo hi=.ok (.dat (.tup (cut xs lo hi))):=rfl
theorem jdW {a b:Int}:opD .add (.int a) (.int b)=.ok (.dat (.int (a + b))):=rfl
theorem jgg {a b:Int}:opD .sub (.int a) (.int b)=.ok (.dat (.int (a - b))):=rfl
theorem jkC {a b:Int}:opD .mul (.int a) (.int b)=if (-(2 ^ 64) < a/\a < 2 ^ 64)\/(-(2 ^ 64) < b/\b < 2 ^ 64)then .ok (.dat (.int (a * b)))else .stk:=rfl
theorem jez {a b:Int}:opD .fdiv (.int a) (.int b)=if 0 < b/\b < 2 ^ 64 then .ok (.dat (.int (a / b)))else .stk:=rfl
theorem jb6 {a b:Int}:opD .mod (.int a) (.int b)=if 0 < b then .ok (.dat (.int (a % b)))else .stk:=rfl
theorem jkD {a b:List D}:opD .add (.tup a) (.tup b)=if fits (a.length + b.length)then .ok (.dat (.tup (a++b)))else .stk:=rfl
theorem jcE {a b:List D}:opD .add (.lst a) (.lst b)=if fits (a.length + b.length)then .ok (.tmp (.l (a++b)))else .stk:=rfl
theorem jgh {a b:PySem.Str}:opD .add (.str a) (.str b)=if fits (a.length + b.length)then .ok (.dat (.str (a++b)))else .stk:=rfl
theorem jkE:bfD .len (.lst xs)=.ok (.dat (.int xs.length)):=rfl
theorem jkF:bfD .len (.tup xs)=.ok (.dat (.int xs.length)):=rfl
theorem jgQ:bfD .tuple (.lst xs)=.ok (.dat (.tup xs)):=rfl
theorem jgR:bfD .tuple (.tup xs)=.ok (.dat (.tup xs)):=rfl
theorem jiR:bfD .list (.lst xs)=.ok (.tmp (.l xs)):=rfl
theorem jiS:bfD .list (.tup xs)=.ok (.tmp (.l xs)):=rfl
theorem jiT:bfD .revl (.lst xs)=.ok (.tmp (.l xs.reverse)):=rfl
theorem jiU:bfD .revt (.lst xs)=.ok (.dat (.tup xs.reverse)):=rfl
theorem jkG {a:Int}:bfD .abs (.int a)=.ok (.dat (.int (if a < 0 then -a else a))):=rfl
theorem jkH {a:Int}:bfD .int (.int a)=.ok (.dat (.int a)):=rfl
theorem jkI:bfD .int (.bl b)=.ok (.dat (.int (if b then 1 else 0))):=rfl
theorem jkJ {a c:D}:cmD .eq a c=eqR a c:=rfl
theorem jo0 {a c:D}:cmD .ne a c=(eqR a c).bind fun c=>.ok (!c):=rfl
theorem jmZ {a c:Int}:cmD .lt (.int a) (.int c)=.ok (decide (a < c)):=rfl
theorem je8 {a c:Int}:cmD .gt (.int a) (.int c)=.ok (decide (c < a)):=rfl
theorem jm0 {a c:Int}:cmD .le (.int a) (.int c)=.ok (decide (a<=c)):=rfl
theorem jm1 {a c:Int}:cmD .ge (.int a) (.int c)=.ok (decide (c<=a)):=rfl
theorem jkK {a c:Int}:eqR (.int a) (.int c)=.ok (a == c):=rfl
theorem jp8 {a c:PySem.Str}:eqR (.str a) (.str c)=.ok (a == c):=rfl
theorem jm2 {j:Int}:jfP (.tup xs) (.int j)=atI xs j:=rfl
theorem jiV {j:Int}:jfP (.lst xs) (.int j)=atI xs j:=rfl
theorem jbW {x:PySem.Str}{j:Int}:jfP (.str x) (.int j)=atC x j:=rfl
theorem jrm {x:D}:atI (x::xs) 0=.ok x:=rfl
theorem jrn {x y:D}:atI (x::y::xs) 1=.ok y:=rfl
theorem jro {x y z:D}:atI (x::y::z::xs) 2=.ok z:=rfl
theorem jp9 {k:Nat}{x:D}(h:xs[k]?=some x):atI xs (k:Int)=.ok x:=by
 unfold atI;rw[if_pos (Int.natCast_nonneg k),Int.toNat_natCast,h]
theorem jm3:jbz (.bl b)=.ok b:=rfl
theorem jo1 {a:Int}:jbz (.int a)=.ok (a != 0):=rfl
theorem jo2:jbz (.tup xs)=.ok (!xs.isEmpty):=rfl
theorem jo3:jbz (.lst xs)=.ok (!xs.isEmpty):=rfl
theorem jo4:jbz .non=.ok false:=rfl
theorem jgS {U:Nat->Nat->Bool}:jap U .non [.int]=.ok false:=rfl
theorem je9 {U:Nat->Nat->Bool}:jap U .non [.bool]=.ok false:=rfl
theorem jgT {U:Nat->Nat->Bool}:jap U .non [.str]=.ok false:=rfl
theorem jeA {U:Nat->Nat->Bool}:jap U .non [.tuple]=.ok false:=rfl
theorem jfa {U:Nat->Nat->Bool}:jap U .non [.list]=.ok false:=rfl
theorem jfb {U:Nat->Nat->Bool}:jap U .non [.dict]=.ok false:=rfl
theorem jiW {U:Nat->Nat->Bool}:jap U (.bl b) [.int]=.ok true:=rfl
theorem jgU {U:Nat->Nat->Bool}:jap U (.bl b) [.bool]=.ok true:=rfl
theorem jiX {U:Nat->Nat->Bool}:jap U (.bl b) [.str]=.ok false:=rfl
theorem jfc {U:Nat->Nat->Bool}:jap U (.bl b) [.tuple]=.ok false:=rfl
theorem jgV {U:Nat->Nat->Bool}:jap U (.bl b) [.list]=.ok false:=rfl
theorem jgW {U:Nat->Nat->Bool}:jap U (.bl b) [.dict]=.ok false:=rfl
theorem jgX {U:Nat->Nat->Bool}{a:Int}:jap U (.int a) [.int]=.ok true:=rfl
theorem jfd {U:Nat->Nat->Bool}{a:Int}:jap U (.int a) [.bool]=.ok false:=rfl
theorem jgY {U:Nat->Nat->Bool}{a:Int}:jap U (.int a) [.str]=.ok false:=rfl
theorem jeB {U:Nat->Nat->Bool}{a:Int}:jap U (.int a) [.tuple]=.ok false:=rfl
theorem jfe {U:Nat->Nat->Bool}{a:Int}:jap U (.int a) [.list]=.ok false:=rfl
theorem jff {U:Nat->Nat->Bool}{a:Int}:jap U (.int a) [.dict]=.ok false:=rfl
theorem jgZ {U:Nat->Nat->Bool}{x:PySem.Str}:jap U (.str x) [.int]=.ok false:=rfl
theorem jfg {U:Nat->Nat->Bool}{x:PySem.Str}:jap U (.str x) [.bool]=.ok false:=rfl
theorem jg0 {U:Nat->Nat->Bool}{x:PySem.Str}:jap U (.str x) [.str]=.ok true:=rfl
theorem jeC {U:Nat->Nat->Bool}{x:PySem.Str}:jap U (.str x) [.tuple]=.ok false:=rfl
theorem jfh {U:Nat->Nat->Bool}{x:PySem.Str}:jap U (.str x) [.list]=.ok false:=rfl
theorem jfi {U:Nat->Nat->Bool}{x:PySem.Str}:jap U (.str x) [.dict]=.ok false:=rfl
theorem jg1 {U:Nat->Nat->Bool}:jap U (.tup xs) [.int]=.ok false:=rfl
theorem jfj {U:Nat->Nat->Bool}:jap U (.tup xs) [.bool]=.ok false:=rfl
theorem jg2 {U:Nat->Nat->Bool}:jap U (.tup xs) [.str]=.ok false:=rfl
theorem jeD {U:Nat->Nat->Bool}:jap U (.tup xs) [.tuple]=.ok true:=rfl
theorem jfk {U:Nat->Nat->Bool}:jap U (.tup xs) [.list]=.ok false:=rfl
theorem jfl {U:Nat->Nat->Bool}:jap U (.tup xs) [.dict]=.ok false:=rfl
theorem jg3 {U:Nat->Nat->Bool}:jap U (.lst xs) [.int]=.ok false:=rfl
theorem jfm {U:Nat->Nat->Bool}:jap U (.lst xs) [.bool]=.ok false:=rfl
theorem jg4 {U:Nat->Nat->Bool}:jap U (.lst xs) [.str]=.ok false:=rfl
theorem jeE {U:Nat->Nat->Bool}:jap U (.lst xs) [.tuple]=.ok false:=rfl
theorem jfn {U:Nat->Nat->Bool}:jap U (.lst xs) [.list]=.ok true:=rfl
theorem jfo {U:Nat->Nat->Bool}:jap U (.lst xs) [.dict]=.ok false:=rfl
theorem jqa:fits 0=true:=rfl
theorem jqb:fits 1=true:=rfl
theorem jqc:fits 2=true:=rfl
theorem jqd:fits 3=true:=rfl
theorem jqe:fits 4=true:=rfl
theorem jqf:fits 5=true:=rfl
theorem jqg:fits 6=true:=rfl
theorem jqh:fits 7=true:=rfl
theorem jqi:fits 8=true:=rfl
theorem jqj:fits 9=true:=rfl
theorem jo5:fits 10=true:=rfl
theorem jm4 {lo hi:Option Int}:jhi (.lst xs) lo hi=.ok (.tmp (.l (cut xs lo hi))):=rfl
theorem jlq {x:PySem.Str}:jqK (.dat (.str x))=.ok x:=rfl
theorem jo6 {x y:PySem.Str}:smD .cnt x (.str y)=.ok (.dat (.int (Txt.count x y))):=rfl
theorem jfp {x y:PySem.Str}:smD .splt x (.str y)=if y.length != 0 && fits x.length && fits (Txt.split x y).length then .ok (.tmp (.l ((Txt.split x y).map .str)))else .stk:=rfl
theorem jdA:∀(ys:List PySem.Str),jbP (ys.map D.str)=some ys
 |[]=>rfl
 |y::ys=>by simp only[jrx,jbP,jdA ys,Option.map_some]
theorem jiY {x:PySem.Str}{ys:List PySem.Str}(h:(ys.map (·.length)).sum + ys.length * x.length<=16777216):smD .join x (.lst (ys.map .str))=.ok (.dat (.str (Txt.join x ys))):=by
 simp only[smD,jdA,if_pos h]
theorem jiZ {x:PySem.Str}{lo hi:Option Int}:jhi (.str x) lo hi=if fits x.length then .ok (.dat (.str (Txt.slice x lo hi)))else .stk:=rfl
theorem jkL {x:PySem.Str}:bfD .len (.str x)=if fits x.length then .ok (.dat (.int x.length))else .stk:=rfl
theorem jm5 {x:PySem.Str}:bfD .isup (.str x)=.ok (.dat (.bl (Txt.isupper x))):=rfl
theorem jg5:jbB (.dat (.tup xs)) ρ=.ok (xs,[],ρ):=rfl
theorem jg6:jbB (.dat (.lst xs)) ρ=.ok (xs,[],ρ):=rfl
theorem jg7:jbB (.tmp (.l xs)) ρ=.ok (xs,[],ρ):=rfl
theorem jfq:jbB (.slot i) ρ=jbw (.slot i) ρ:=rfl
theorem jg8 {x:PySem.Str}:jbB (.dat (.str x)) ρ=if fits x.length then .ok (x.cps.toList.map (fun c=>D.str ⟨#[c]⟩),[],ρ)else .stk:=rfl
end
section
variable {G:Calls}{U:Nat->Nat->Bool}{W:Nat}
theorem jb7 {α:Type}{xx:Bool}{elt:E}{caps:List Nat}{it:DJ.It}{ρ:Rho}{xs:List α}{h g:α->D}(hi:evI G U it ρ=.ok (xs.map h,[],ρ))(hE:∀x∈xs,evE G U elt (.dat (h x)::jbg ρ caps)=.ok (.dat (g x),.dat (h x)::jbg ρ caps))
  (hB:∀s,jaK caps 1 (s::jbg ρ caps) ρ=ρ):evE G U (.comp elt [0] true 1 caps it .none xx) ρ=.ok (.tmp (.l (xs.map g)),ρ):=by
 simp only[evE,hi,R.bind_ok'];rw[jcm (g:=g)]
 ·rw[jb3];rfl
 ·intro x hx;have:=hE x hx;simp only[putT,jdf,List.replicate,List.cons_append,List.nil_append,List.set_cons_zero,R.bind_ok',this,toD,hB]
theorem jlr:opD .pow (.int 10) (.int 18)=.ok (.dat (.int (10 ^ 18))):=by
 show (if 0<=(18:Int)/\(18:Int)<=1000000/\(10:Int).natAbs < 2 ^ 64 then R.ok (Vl.dat (.int (10 ^ (18:Int).toNat)))else R.stk)=_;rw[if_pos (by decide)]
 rfl
theorem ji0 {α β:Type}(f:α->β)(xs:List α)(lo hi:Option Int):cut (xs.map f) lo hi=(cut xs lo hi).map f:=by
 unfold cut;rw[jrz,List.map_take,List.map_drop]
theorem jdX {α:Type}(xs:List α)(k:Nat):cut xs none (some (k:Int))=xs.take k:=by
 show List.take ((if (k:Int) < 0 then ((k:Int) + xs.length).toNat else min (k:Int).toNat xs.length) - 0) (List.drop 0 xs)=_;rw[if_neg (by omega),Int.toNat_natCast,List.drop_zero,Nat.sub_zero,List.take_eq_take_iff]
 omega
theorem jgi {α:Type}(xs:List α)(k:Nat):cut xs (some (k:Int)) none=xs.drop k:=by
 show List.take (xs.length - (if (k:Int) < 0 then ((k:Int) + xs.length).toNat else min (k:Int).toNat xs.length)) (List.drop (if (k:Int) < 0 then ((k:Int) + xs.length).toNat else min (k:Int).toNat xs.length) xs)=_;rw[if_neg (by omega),Int.toNat_natCast]
 by_cases h:k<=xs.length
 ·rw[Nat.min_eq_left h,List.take_of_length_le (by simp)]
 ·rw[Nat.min_eq_right (by omega),List.drop_eq_nil_of_le (jr1 _),List.drop_eq_nil_of_le (by omega),List.take_nil]
theorem jgj (k:Nat)(h:k<=16777216):jdd (.int k)=.ok ((List.range k).map fun (j:Nat)=>D.int j):=by
 show (if -16777216<=(k:Int)/\(k:Int)<=16777216 then R.ok (jgC 0 (k:Int).toNat)else R.stk)=_;rw[if_pos (by omega)]
 simp[jgC]
theorem jba {n:Nat}(h:n<=16777216):fits n=true:=by simp[fits];exact h
theorem jkM {α:Type}{h:α->D}{i:Nat}{ys:List α}{c:α}{f:Bool}{ρ:Rho}(e:ρ[i]?=some (.own (.l ((ys++[c]).map h)) f false)):evE G U (.pop i) ρ=.ok (.dat (h c),ρ.set i (.own (.l (ys.map h)) f false)):=by
 simp only[evE,e,List.map_append,jrx,List.map_nil,List.getLast?_append,List.getLast?_singleton,Option.some_or,List.dropLast_concat]
theorem jdY {α:Type}{xs:List α}(h:0 < xs.length):∃ys c,xs=ys++[c]:=by
 rcases List.eq_nil_or_concat xs with rfl | ⟨ys,c,e⟩
 ·simp at h
 ·exact⟨ys,c,by simpa using e⟩
theorem jbX {α:Type}{f:D->Rho->R Fl}{h:α->D}(I:Rho->Prop):∀{xs:List α}{ρ:Rho},I ρ->(∀x∈xs,∀ρ,I ρ->∃ρ',f (h x) ρ=.ok (.nx ρ')/\I ρ')->∃ρ',jb0 f (xs.map h) ρ=.ok (.nx ρ')/\I ρ'
 |[],ρ,h,_=>⟨ρ,rfl,h⟩
 |x::xs,ρ,h,st=>by
  obtain⟨ρ1,e1,h1⟩:=st x jrs ρ h;obtain⟨ρ2,e2,h2⟩:=jbX I (xs:=xs) h1 fun y hy=>st y (jrr _ hy);exact⟨ρ2,by simp only[jrx,jb0,e1,R.bind_ok'];exact e2,h2⟩
theorem jeF {c:Rho->R (Bool×Rho)}{f:Rho->R Fl}(I:Nat->Rho->Prop):∀{k m:Nat}{ρ:Rho},k < m->I k ρ->(∀k ρ,I (k + 1) ρ->c ρ=.ok (true,ρ)/\∃ρ',f ρ=.ok (.nx ρ')/\I k ρ')->(∀ρ,I 0 ρ->c ρ=.ok (false,ρ))->∃ρ',jbQ c f m ρ=.ok (.nx ρ')/\I 0 ρ'
 |0,m + 1,ρ,_,h,_,st0=>⟨ρ,by simp only[jbQ,st0 ρ h,R.bind_ok',jr7,if_false],h⟩
 |k + 1,m + 1,ρ,hk,h,st,st0=>by
  obtain⟨e1,ρ1,e2,h1⟩:=st k ρ h;obtain⟨ρ2,e3,h3⟩:=jeF I (k:=k) (m:=m) (by omega) h1 st st0
  exact⟨ρ2,by simp only[jbQ,e1,R.bind_ok',if_true,e2];exact e3,h3⟩
 |_,0,_,hk,_,_,_=>absurd hk (Nat.not_lt_zero _)
end
end DJ
local macro_rules | `(tactic| simp_arith[$xs,*])=>do
  let l<-("DJ.evSs DJ.evS DJ.evE DJ.evT DJ.evEs DJ.evAs DJ.evO DJ.evI jrK jrL List.set_cons_zero List.set_cons_succ jrA jrM Nat.reduceAdd Nat.reduceLT Nat.lt_add_one Nat.zero_lt_succ DJ.R.bind_ok' DJ.jag DJ.ja9 DJ.jbm DJ.jcn DJ.jmV DJ.jkx DJ.jdV DJ.jky DJ.jiO DJ.jcZ DJ.jkz DJ.jkA DJ.jiP DJ.jkB DJ.jiQ DJ.jc0 DJ.jgN DJ.jgO DJ.jgP DJ.je7 DJ.jmW DJ.jmX DJ.jmY DJ.jm4 DJ.jiM DJ.jiN DJ.jmR DJ.jmS DJ.jdW DJ.jgg DJ.jkC DJ.jez DJ.jb6 DJ.jkD DJ.jcE DJ.jgh DJ.jkE DJ.jkF DJ.jgQ DJ.jgR DJ.jiR DJ.jiS DJ.jiT DJ.jiU DJ.jkG DJ.jkH DJ.jkI DJ.jkJ DJ.jo0 DJ.jmZ DJ.je8 DJ.jm0 DJ.jm1 DJ.jkK DJ.jp8 DJ.jm2 DJ.jiV DJ.jbW DJ.jrm DJ.jrn DJ.jro DJ.jm3 DJ.jo1 DJ.jo2 DJ.jo3 DJ.jo4 DJ.jgS DJ.jqa DJ.jqb DJ.jqc DJ.jqd DJ.jqe DJ.jqf DJ.jqg DJ.jqh DJ.jqi DJ.jqj DJ.jo5 DJ.je9 DJ.jgT DJ.jeA DJ.jfa DJ.jfb DJ.jiW DJ.jgU DJ.jiX DJ.jfc DJ.jgV DJ.jgW DJ.jgX DJ.jfd DJ.jgY DJ.jeB DJ.jfe DJ.jff DJ.jgZ DJ.jfg DJ.jg0 DJ.jeC DJ.jfh DJ.jfi DJ.jg1 DJ.jfj DJ.jg2 DJ.jeD DJ.jfk DJ.jfl DJ.jg3 DJ.jfm DJ.jg4 DJ.jeE DJ.jfn DJ.jfo if_true jr7 if_false Bool.not_true Bool.not_false Int.reducePow Int.reduceNeg Int.reduceLT Int.reduceLE and_self or_true true_or and_true true_and DJ.jlq DJ.jo6 DJ.jfp DJ.jiZ DJ.jkL DJ.jm5 DJ.jg5 DJ.jg6 DJ.jg7 DJ.jfq DJ.jg8".splitOn " ").toArray.mapM fun s=>`(Lean.Parser.Tactic.simpLemma| $(Lean.mkIdent s.toName):term)
  `(tactic| simp only[$l,*,$xs,*])
namespace Law
open PySem L2 DJ
noncomputable def top (i:Nat):Stmt:=PySem.Challenge.pw_tallysets_k52_grammars_refused.main.body.getD i (.Pass ⟨0,0,0,0⟩)
noncomputable def d_is_sign:DefS:=⟨"is_sign",["mark"],["mark"],top 14⟩
noncomputable def jb8:Ss:=
 .cons (.ret (.blt .isup (.var 0))) (
 .nil)
noncomputable def d_signs_in:DefS:=⟨"signs_in",["right"],["right"],top 15⟩
noncomputable def jcr:E:=.comp (.var 0) [0] true 1 [] (.seq (.var 0)) (.some (.call 0 [] (.cons (.var 0) .nil))) true
noncomputable def jbK:Ss:=
 .cons (.ret (jcr)) (
 .nil)
noncomputable def d_read_right:DefS:=⟨"read_right",["text","many"],["text","many"],top 16⟩
noncomputable def jaE:E:=.comp (.or (.cmp .isin (.var 0) (.lit (.tup [.str "A",.str "B",.str "C"]))) (.cmp .isin (.var 0) (.slc (.lit (.str "abcd")) .none (.some (.var 1))))) [0] true 1 [1] (.seq (.var 0)) .none true
noncomputable def jav:Ss:=
 .cons (.ife (.cmp .gt (.blt .len (.var 0)) (.lit (.int 4))) (.cons (.rai 3 (.lit (.str "a right text is too long"))) (
  .nil)) (.nil)) (
 .cons (.ife (.not (.blt .all (jaE))) (.cons (.rai 3 (.lit (.str "a right text has something else than signs and the grammar's letters"))) (
  .nil)) (.nil)) (
 .cons (.ife (.cmp .gt (.blt .len (.call 1 [] (.cons (.var 0) .nil))) (.lit (.int 2))) (.cons (.rai 3 (.lit (.str "a right text has too many signs"))) (
  .nil)) (.nil)) (
 .cons (.ret (.var 0)) (
 .nil))))
noncomputable def d_read_rule:DefS:=⟨"read_rule",["text","many"],["text","many"],top 17⟩
noncomputable def jaz:Ss:=
 .cons (.ife (.or (.cmp .lt (.blt .len (.var 0)) (.lit (.int 2))) (.or (.cmp .notin (.idx (.var 0) (.lit (.int 0))) (.lit (.tup [.str "A",.str "B",.str "C"]))) (.cmp .ne (.idx (.var 0) (.lit (.int 1))) (.lit (.str "="))))) (.cons (.rai 3 (.lit (.str "a rule does not begin with a sign and an equals"))) (
  .nil)) (.nil)) (
 .cons (.ret (.tup (.cons (.idx (.var 0) (.lit (.int 0))) (.cons (.call 2 [] (.cons (.slc (.var 0) (.some (.lit (.int 2))) .none) (.cons (.var 1) .nil))) .nil)))) (
 .nil))
noncomputable def d_read_grammar:DefS:=⟨"read_grammar",["text","parts","many"],["text"],top 18⟩
noncomputable def jar:E:=.comp (.call 3 [] (.cons (.var 0) (.cons (.var 1) .nil))) [0] true 1 [2] (.seq (.slc (.var 1) (.some (.lit (.int 1))) .none)) .none true
noncomputable def jao:Ss:=
 .cons (.asg 1 (.sm .splt (.var 0) (.lit (.str ";")))) (
 .cons (.ife (.cmp .notin (.idx (.var 1) (.lit (.int 0))) (.lit (.tup [.str "1",.str "2",.str "3",.str "4"]))) (.cons (.rai 3 (.lit (.str "there is no number of letters ahead"))) (
  .nil)) (.nil)) (
 .cons (.ife (.or (.cmp .lt (.blt .len (.var 1)) (.lit (.int 2))) (.cmp .gt (.blt .len (.var 1)) (.bin .add (.lit (.int 8)) (.lit (.int 1))))) (.cons (.rai 3 (.lit (.str "there are no rules, or too many"))) (
  .nil)) (.nil)) (
 .cons (.asg 2 (.blt .int (.idx (.var 1) (.lit (.int 0))))) (
 .cons (.ret (.tup (.cons (.var 2) (.cons (.blt .tuple (jar)) .nil)))) (
 .nil)))))
noncomputable def d__law_deck:DefS:=⟨"_law_deck",["_law_cells","_law_many","_law_deck_here","_law_seed","_law_cell"],["_law_cells","_law_many"],top 20⟩
noncomputable def jb9:E:=.comp (.bin .mod (.var 0) (.bin .pow (.lit (.int 10)) (.lit (.int 18)))) [0] true 1 [] (.seq (.slc (.var 0) .none (.some (.var 1)))) .none true
noncomputable def ja1:Ss:=
 .cons (.asg 3 (.bin .mod (.bin .add (.bin .mul (.var 3) (.lit (.int 797))) (.var 4)) (.lit (.int 999999929)))) (
 .nil)
noncomputable def ja2:Ss:=
 .cons (.asg 3 (.bin .mod (.bin .add (.bin .mul (.var 3) (.lit (.int 69621))) (.lit (.int 5))) (.lit (.int 2147483629)))) (
 .cons (.app 2 (.var 3)) (
 .nil))
noncomputable def jbb:Ss:=
 .cons (.asg 2 (jb9)) (
 .cons (.asg 3 (.bin .add (.lit (.int 1013)) (.bin .mul (.lit (.int 7)) (.blt .len (.var 2))))) (
 .cons (.loop [4] true (.seq (.var 2)) ja1) (
 .cons (.whl (.cmp .lt (.blt .len (.var 2)) (.var 1)) ja2) (
 .cons (.rvs 2) (
 .cons (.ret (.var 2)) (
 .nil))))))
noncomputable def d__law_right:DefS:=⟨"_law_right",["_law_deck_here","_law_many","_law_signs","_law_most","_law_cell","_law_right_here","_law_left","_law_k"],["_law_deck_here","_law_many","_law_signs","_law_most"],top 21⟩
noncomputable def jax:Ss:=
 .cons (.asg 4 (.bin .mod (.bin .add (.bin .mul (.bin .fdiv (.var 4) (.lit (.int 5))) (.lit (.int 48271))) (.bin .mul (.lit (.int 7)) (.var 7))) (.lit (.int 2147483629)))) (
 .cons (.ife (.and (.cmp .eq (.bin .mod (.var 4) (.lit (.int 3))) (.lit (.int 1))) (.and (.cmp .gt (.var 6) (.lit (.int 0))) (.cmp .ne (.var 2) (.lit (.str ""))))) (.cons (.asg 5 (.bin .add (.var 5) (.idx (.var 2) (.bin .mod (.bin .fdiv (.var 4) (.lit (.int 3))) (.blt .len (.var 2)))))) (
  .cons (.asg 6 (.bin .sub (.var 6) (.lit (.int 1)))) (
  .nil))) (.cons (.asg 5 (.bin .add (.var 5) (.idx (.lit (.str "abcd")) (.bin .mod (.bin .fdiv (.var 4) (.lit (.int 3))) (.var 1))))) (
  .nil))) (
 .nil))
noncomputable def jaW:Ss:=
 .cons (.asg 4 (.pop 0)) (
 .cons (.asg 5 (.lit (.str ""))) (
 .cons (.asg 6 (.lit (.int 2))) (
 .cons (.loop [7] true (.rng1 (.bin .mod (.var 4) (.bin .add (.var 3) (.lit (.int 1))))) jax) (
 .cons (.ret (.var 5)) (
 .nil)))))
noncomputable def d__law_refused:DefS:=⟨"_law_refused",["_law_text_here","_law_own","error"],["_law_text_here"],top 22⟩
noncomputable def jcs:Ss:=
 .cons (.asg 1 (.lst (.cons (.isi (.var 2) [.exc 3]) (.cons (.isi (.var 2) [.verr]) .nil)))) (
 .cons (.app 1 (.isi (.var 2) [.exc 1,.exc 2,.exc 4,.exc 5])) (
 .nil))
noncomputable def jaF:Ss:=
 .cons (.asg 1 (.lst (.nil))) (
 .cons (.tryx (.expr (.call 4 [] (.cons (.var 0) .nil))) 0 (some 2) jcs) (
 .cons (.ret (.cmp .eq (.var 1) (.lst (.cons (.lit (.bl true)) (.cons (.lit (.bl true)) (.cons (.lit (.bl false)) .nil)))))) (
 .nil)))
noncomputable def d__law_text:DefS:=⟨"_law_text",["_law_many","_law_rules"],["_law_many","_law_rules"],top 23⟩
noncomputable def jbr:E:=.comp (.bin .add (.bin .add (.var 0) (.lit (.str "="))) (.var 1)) [0,1] false 2 [] (.seq (.var 1)) .none true
noncomputable def jbc:Ss:=
 .cons (.ret (.sm .join (.lit (.str ";")) (.bin .add (.lst (.cons (.blt .str (.var 0)) .nil)) (jbr)))) (
 .nil)
noncomputable def d__law_bad_right:DefS:=⟨"_law_bad_right",["_law_right_here","_law_many","_law_cell","_law_at","_law_way","_law_odd"],["_law_right_here","_law_many","_law_cell"],top 24⟩
noncomputable def jaj:Ss:=
 .cons (.asg 3 (.bin .mod (.bin .fdiv (.var 2) (.lit (.int 7))) (.bin .add (.blt .len (.var 0)) (.lit (.int 1))))) (
 .cons (.asg 4 (.bin .mod (.var 2) (.lit (.int 7)))) (
 .cons (.ife (.cmp .eq (.var 4) (.lit (.int 0))) (.cons (.ret (.bin .mul (.lit (.str "a")) (.lit (.int 5)))) (
  .nil)) (.nil)) (
 .cons (.ife (.cmp .eq (.var 4) (.lit (.int 1))) (.cons (.ret (.idx (.lst (.cons (.lit (.str "CBA")) (.cons (.lit (.str "AAA")) (.cons (.lit (.str "BaBB")) (.cons (.lit (.str "CCBa")) .nil))))) (.bin .mod (.bin .fdiv (.var 2) (.lit (.int 70))) (.lit (.int 4))))) (
  .nil)) (.nil)) (
 .cons (.ife (.and (.cmp .eq (.var 4) (.lit (.int 2))) (.cmp .lt (.var 1) (.lit (.int 4)))) (.cons (.ret (.bin .add (.bin .add (.slc (.var 0) .none (.some (.min2 (.var 3) (.lit (.int 3))))) (.idx (.lit (.str "bcd")) (.bin .sub (.var 1) (.lit (.int 1))))) (.slc (.var 0) (.some (.min2 (.var 3) (.lit (.int 3)))) (.some (.lit (.int 3)))))) (
  .nil)) (.nil)) (
 .cons (.asg 5 (.idx (.lst (.cons (.lit (.str "e")) (.cons (.lit (.str "0")) (.cons (.lit (.str "D")) (.cons (.lit (.str "+")) (.cons (.lit (.str ",")) (.cons (.lit (.str "_")) (.cons (.lit (.str "=")) (.cons (.lit (.str "Z")) (.cons (.lit (.str "-")) (.cons (.lit (.str "(")) (.cons (.lit (.str ".")) (.cons (.lit (.str "z")) .nil))))))))))))) (.bin .mod (.bin .fdiv (.var 2) (.lit (.int 70))) (.lit (.int 12))))) (
 .cons (.ret (.bin .add (.bin .add (.slc (.var 0) .none (.some (.min2 (.var 3) (.lit (.int 3))))) (.var 5)) (.slc (.var 0) (.some (.min2 (.var 3) (.lit (.int 3)))) (.some (.lit (.int 3)))))) (
 .nil)))))))
noncomputable def d__law_bad_rule:DefS:=⟨"_law_bad_rule",["_law_rule","_law_many","_law_cell","_law_sign","_law_right_here","_law_way"],["_law_rule","_law_many","_law_cell"],top 25⟩
noncomputable def jam:Ss:=
 .cons (.unp [3,4] (.var 0)) (
 .cons (.asg 5 (.bin .mod (.var 2) (.lit (.int 4)))) (
 .cons (.ife (.cmp .eq (.var 5) (.lit (.int 0))) (.cons (.ret (.bin .add (.bin .add (.idx (.lst (.cons (.lit (.str "D")) (.cons (.lit (.str "a")) (.cons (.lit (.str "")) (.cons (.lit (.str "AB")) (.cons (.lit (.str "1")) (.cons (.lit (.str "=")) (.cons (.lit (.str "A ")) (.cons (.lit (.str "CBA")) .nil))))))))) (.bin .mod (.bin .fdiv (.var 2) (.lit (.int 4))) (.lit (.int 8)))) (.lit (.str "="))) (.var 4))) (
  .nil)) (.nil)) (
 .cons (.ife (.cmp .eq (.var 5) (.lit (.int 1))) (.cons (.ret (.bin .add (.bin .add (.var 3) (.idx (.lst (.cons (.lit (.str "")) (.cons (.lit (.str "==")) (.cons (.lit (.str ":")) (.cons (.lit (.str "=A=")) (.cons (.lit (.str " = ")) .nil)))))) (.bin .mod (.bin .fdiv (.var 2) (.lit (.int 4))) (.lit (.int 5))))) (.var 4))) (
  .nil)) (.nil)) (
 .cons (.ret (.bin .add (.bin .add (.var 3) (.lit (.str "="))) (.call 9 [] (.cons (.var 4) (.cons (.var 1) (.cons (.bin .fdiv (.var 2) (.lit (.int 4))) .nil)))))) (
 .nil)))))
noncomputable def d__law_faulty:DefS:=⟨"_law_faulty",["_law_many","_law_rules","_law_way","_law_cell","_law_text_here","_law_at","_law_place","_law_words"],["_law_many","_law_rules","_law_way","_law_cell"],top 26⟩
noncomputable def jbd:E:=.comp (.bin .add (.bin .add (.var 0) (.lit (.str "="))) (.var 1)) [0,1] false 2 [] (.seq (.var 1)) .none true
noncomputable def jas:Ss:=
 .cons (.asg 4 (.call 8 [] (.cons (.var 0) (.cons (.var 1) .nil)))) (
 .cons (.asg 5 (.bin .mod (.var 3) (.blt .len (.var 1)))) (
 .cons (.ife (.cmp .eq (.var 2) (.lit (.int 0))) (.cons (.ret (.bin .add (.idx (.lst (.cons (.lit (.str "0")) (.cons (.lit (.str "5")) (.cons (.lit (.str "")) (.cons (.lit (.str "11")) (.cons (.lit (.str "01")) (.cons (.lit (.str "a")) (.cons (.lit (.str "-1")) (.cons (.lit (.str "2 ")) .nil))))))))) (.bin .mod (.var 3) (.lit (.int 8)))) (.slc (.var 4) (.some (.lit (.int 1))) .none))) (
  .nil)) (.nil)) (
 .cons (.ife (.cmp .eq (.var 2) (.lit (.int 1))) (.cons (.ret (.idx (.lst (.cons (.blt .str (.var 0)) (.cons (.bin .add (.blt .str (.var 0)) (.lit (.str ";"))) (.cons (.sm .join (.lit (.str ";")) (.bin .add (.lst (.cons (.blt .str (.var 0)) .nil)) (.bin .mul (.lst (.cons (.lit (.str "A=a")) .nil)) (.lit (.int 9))))) (.cons (.slc (.var 4) (.some (.lit (.int 2))) .none) (.cons (.lit (.str "")) .nil)))))) (.bin .mod (.var 3) (.lit (.int 5))))) (
  .nil)) (.nil)) (
 .cons (.ife (.cmp .eq (.var 2) (.lit (.int 2))) (.cons (.asg 6 (.bin .mod (.bin .fdiv (.var 3) (.lit (.int 11))) (.bin .add (.blt .len (.var 4)) (.lit (.int 1))))) (
  .cons (.ret (.bin .add (.bin .add (.slc (.var 4) .none (.some (.var 6))) (.idx (.lst (.cons (.lit (.str " ")) (.cons (.lit (.str "\n")) (.cons (.lit (.str ";;")) (.cons (.lit (.str "\t")) (.cons (.lit (.str "/")) .nil)))))) (.bin .mod (.var 3) (.lit (.int 5))))) (.slc (.var 4) (.some (.var 6)) .none))) (
  .nil))) (.nil)) (
 .cons (.ife (.cmp .eq (.var 2) (.lit (.int 3))) (.cons (.ret (.idx (.lst (.cons (.bin .add (.var 4) (.lit (.str ";"))) (.cons (.bin .add (.lit (.str ";")) (.var 4)) (.cons (.bin .add (.var 4) (.lit (.str " "))) (.cons (.bin .add (.lit (.str " ")) (.var 4)) (.cons (.bin .add (.var 4) (.lit (.str "\n"))) .nil)))))) (.bin .mod (.var 3) (.lit (.int 5))))) (
  .nil)) (.nil)) (
 .cons (.asg 7 (jbd)) (
 .cons (.sub 7 (.var 5) (.call 10 [] (.cons (.idx (.var 1) (.var 5)) (.cons (.var 0) (.cons (.bin .fdiv (.var 3) (.lit (.int 9))) .nil))))) (
 .cons (.ret (.sm .join (.lit (.str ";")) (.bin .add (.lst (.cons (.blt .str (.var 0)) .nil)) (.var 7)))) (
 .nil)))))))))
noncomputable def d_law:DefS:=⟨"law",["_law_script","_law_deck_here","_law_many","_law_rules","_law_k","_law_sign","_law_good","_law_cell","_law_number"],["_law_script"],top 27⟩
noncomputable def jdZ:Ss:=
 .cons (.asg 5 (.idx (.lit (.str "CBA")) (.bin .mod (.pop 1) (.lit (.int 3))))) (
 .cons (.app 3 (.tup (.cons (.var 5) (.cons (.call 6 [true,false,false,false] (.cons (.var 1) (.cons (.var 2) (.cons (.lit (.str "CBA")) (.cons (.lit (.int 4)) .nil))))) .nil)))) (
 .nil))
noncomputable def jd0:E:=.comp (.bin .mod (.var 0) (.bin .pow (.lit (.int 10)) (.lit (.int 18)))) [0] true 1 [] (.seq (.slc (.var 0) .none (.some (.lit (.int 40))))) .none true
noncomputable def jd1:Ss:=
 .cons (.asg 8 (.bin .mod (.bin .add (.bin .add (.bin .mul (.var 7) (.lit (.int 39373))) (.blt .len (.var 3))) (.lit (.int 1))) (.lit (.int 2147483629)))) (
 .cons (.ife (.not (.call 7 [] (.cons (.call 11 [] (.cons (.var 2) (.cons (.var 3) (.cons (.bin .mod (.var 8) (.lit (.int 7))) (.cons (.bin .fdiv (.var 8) (.lit (.int 7))) .nil))))) .nil))) (.cons (.ret (.lit (.bl false))) (
  .nil)) (.nil)) (
 .cons (.ife (.cmp .ne (.call 4 [] (.cons (.var 6) .nil)) (.tup (.cons (.var 2) (.cons (.blt .tuple (.var 3)) .nil)))) (.cons (.ret (.lit (.bl false))) (
  .nil)) (.nil)) (
 .nil)))
noncomputable def ji1:Ss:=
 .cons (.asg 1 (.call 5 [] (.cons (.slc (.var 0) .none (.some (.lit (.int 63)))) (.cons (.lit (.int 72)) .nil)))) (
 .cons (.asg 2 (.bin .add (.lit (.int 1)) (.bin .mod (.pop 1) (.lit (.int 4))))) (
 .cons (.asg 3 (.lst (.nil))) (
 .cons (.loop [4] true (.rng1 (.bin .add (.lit (.int 1)) (.bin .mod (.pop 1) (.lit (.int 8))))) jdZ) (
 .cons (.asg 6 (.call 8 [] (.cons (.var 2) (.cons (.var 3) .nil)))) (
 .cons (.loop [7] true (.seq (.bin .add (.blt .lrng (.lit (.int 12))) (jd0))) jd1) (
 .cons (.ret (.lit (.bl true))) (
 .nil)))))))
noncomputable def T:Tab:=⟨["is_sign","signs_in","read_right","read_rule","read_grammar","_law_deck","_law_right","_law_refused","_law_text","_law_bad_right","_law_bad_rule","_law_faulty","law"],[[],[],[],[],[],[],[true,false,false,false],[],[],[],[],[],[]],[("LETTERS",(.str "abcd")),("SIGNS",(.tup [.str "A",.str "B",.str "C"])),("MANIES",(.tup [.str "1",.str "2",.str "3",.str "4"])),("MOST_RULES",(.int 8)),("MOST_PLACES",(.int 4)),("MOST_SIGNS",(.int 2))],["TallyError","NoTally","NoFan","NoText","NoTree","TooGreat"],false,false⟩
noncomputable def U (i j:Nat):Bool:=(([[true,false,false,false,false,false],[true,true,false,false,false,false],[true,false,true,false,false,false],[true,false,false,true,false,false],[true,false,false,false,true,false],[true,false,false,false,false,true]]:List (List Bool)).getD i []).getD j false
noncomputable def DS:List DefS:=[d_is_sign,d_signs_in,d_read_right,d_read_rule,d_read_grammar,d__law_deck,d__law_right,d__law_refused,d__law_text,d__law_bad_right,d__law_bad_rule,d__law_faulty,d_law]
noncomputable def P:List Def:=[⟨1,1,jb8⟩,⟨1,1,jbK⟩,⟨2,2,jav⟩,⟨2,2,jaz⟩,⟨1,3,jao⟩,⟨2,5,jbb⟩,⟨4,8,jaW⟩,⟨1,3,jaF⟩,⟨2,2,jbc⟩,⟨3,6,jaj⟩,⟨3,6,jam⟩,⟨4,8,jas⟩,⟨1,9,ji1⟩]
theorem ji2:FnScope d_is_sign.N d_is_sign.ps (defScope d_is_sign.st):=⟨rfl,rfl,rfl,by decide +kernel,rfl,by decide +kernel,by decide +kernel⟩
theorem ji3:(mapO (trS T 60 false (defScope d_is_sign.st).names d_is_sign.N) (defBody d_is_sign.st)).map toSs=some jb8:=by kernel_rfl
theorem ji4:BindP d_is_sign:=fun _ _ _ _ _ _=>jnw fun _=>rfl
theorem jg9:FnScope d_signs_in.N d_signs_in.ps (defScope d_signs_in.st):=⟨rfl,rfl,rfl,by decide +kernel,rfl,by decide +kernel,by decide +kernel⟩
theorem jha:(mapO (trS T 60 false (defScope d_signs_in.st).names d_signs_in.N) (defBody d_signs_in.st)).map toSs=some jbK:=by kernel_rfl
theorem jhb:BindP d_signs_in:=fun _ _ _ _ _ _=>jnw fun _=>rfl
theorem jeG:FnScope d_read_right.N d_read_right.ps (defScope d_read_right.st):=⟨rfl,rfl,rfl,by decide +kernel,rfl,by decide +kernel,by decide +kernel⟩
theorem jeH:(mapO (trS T 60 false (defScope d_read_right.st).names d_read_right.N) (defBody d_read_right.st)).map toSs=some jav:=by kernel_rfl
theorem jeI:BindP d_read_right:=fun _ _ _ _ _ _=>joY fun _ _=>rfl
theorem jfr:FnScope d_read_rule.N d_read_rule.ps (defScope d_read_rule.st):=⟨rfl,rfl,rfl,by decide +kernel,rfl,by decide +kernel,by decide +kernel⟩
theorem jfs:(mapO (trS T 60 false (defScope d_read_rule.st).names d_read_rule.N) (defBody d_read_rule.st)).map toSs=some jaz:=by kernel_rfl
theorem jft:BindP d_read_rule:=fun _ _ _ _ _ _=>joY fun _ _=>rfl
theorem jdh:FnScope d_read_grammar.N d_read_grammar.ps (defScope d_read_grammar.st):=⟨rfl,rfl,rfl,by decide +kernel,rfl,by decide +kernel,by decide +kernel⟩
theorem jdi:(mapO (trS T 60 false (defScope d_read_grammar.st).names d_read_grammar.N) (defBody d_read_grammar.st)).map toSs=some jao:=by kernel_rfl
theorem jdj:BindP d_read_grammar:=fun _ _ _ _ _ _=>jnw fun _=>rfl
theorem jfu:FnScope d__law_deck.N d__law_deck.ps (defScope d__law_deck.st):=⟨rfl,rfl,rfl,by decide +kernel,rfl,by decide +kernel,by decide +kernel⟩
theorem jfv:(mapO (trS T 60 false (defScope d__law_deck.st).names d__law_deck.N) (defBody d__law_deck.st)).map toSs=some jbb:=by kernel_rfl
theorem jfw:BindP d__law_deck:=fun _ _ _ _ _ _=>joY fun _ _=>rfl
theorem jeJ:FnScope d__law_right.N d__law_right.ps (defScope d__law_right.st):=⟨rfl,rfl,rfl,by decide +kernel,rfl,by decide +kernel,by decide +kernel⟩
theorem jeK:(mapO (trS T 60 false (defScope d__law_right.st).names d__law_right.N) (defBody d__law_right.st)).map toSs=some jaW:=by kernel_rfl
theorem jeL:BindP d__law_right:=fun _ _ _ _ _ _=>jqT fun _ _ _ _=>rfl
theorem jdk:FnScope d__law_refused.N d__law_refused.ps (defScope d__law_refused.st):=⟨rfl,rfl,rfl,by decide +kernel,rfl,by decide +kernel,by decide +kernel⟩
theorem jdl:(mapO (trS T 60 false (defScope d__law_refused.st).names d__law_refused.N) (defBody d__law_refused.st)).map toSs=some jaF:=by kernel_rfl
theorem jdm:BindP d__law_refused:=fun _ _ _ _ _ _=>jnw fun _=>rfl
theorem jfx:FnScope d__law_text.N d__law_text.ps (defScope d__law_text.st):=⟨rfl,rfl,rfl,by decide +kernel,rfl,by decide +kernel,by decide +kernel⟩
theorem jfy:(mapO (trS T 60 false (defScope d__law_text.st).names d__law_text.N) (defBody d__law_text.st)).map toSs=some jbc:=by kernel_rfl
theorem jfz:BindP d__law_text:=fun _ _ _ _ _ _=>joY fun _ _=>rfl
theorem jct:FnScope d__law_bad_right.N d__law_bad_right.ps (defScope d__law_bad_right.st):=⟨rfl,rfl,rfl,by decide +kernel,rfl,by decide +kernel,by decide +kernel⟩
theorem jcu:(mapO (trS T 60 false (defScope d__law_bad_right.st).names d__law_bad_right.N) (defBody d__law_bad_right.st)).map toSs=some jaj:=by kernel_rfl
theorem jcv:BindP d__law_bad_right:=fun _ _ _ _ _ _=>jp7 fun _ _ _=>rfl
theorem jc1:FnScope d__law_bad_rule.N d__law_bad_rule.ps (defScope d__law_bad_rule.st):=⟨rfl,rfl,rfl,by decide +kernel,rfl,by decide +kernel,by decide +kernel⟩
theorem jc2:(mapO (trS T 60 false (defScope d__law_bad_rule.st).names d__law_bad_rule.N) (defBody d__law_bad_rule.st)).map toSs=some jam:=by kernel_rfl
theorem jc3:BindP d__law_bad_rule:=fun _ _ _ _ _ _=>jp7 fun _ _ _=>rfl
theorem jd2:FnScope d__law_faulty.N d__law_faulty.ps (defScope d__law_faulty.st):=⟨rfl,rfl,rfl,by decide +kernel,rfl,by decide +kernel,by decide +kernel⟩
theorem jd3:(mapO (trS T 60 false (defScope d__law_faulty.st).names d__law_faulty.N) (defBody d__law_faulty.st)).map toSs=some jas:=by kernel_rfl
theorem jd4:BindP d__law_faulty:=fun _ _ _ _ _ _=>jqT fun _ _ _ _=>rfl
theorem jqk:FnScope d_law.N d_law.ps (defScope d_law.st):=⟨rfl,rfl,rfl,by decide +kernel,rfl,by decide +kernel,by decide +kernel⟩
theorem jql:(mapO (trS T 60 false (defScope d_law.st).names d_law.N) (defBody d_law.st)).map toSs=some ji1:=by kernel_rfl
theorem jqm:BindP d_law:=fun _ _ _ _ _ _=>jnw fun _=>rfl
end Law
namespace Law
open PySem L2 DJ Tx
variable {W n:Nat}
noncomputable abbrev CD (W n:Nat):Calls:=jaa U W P n
noncomputable abbrev chD (c:Nat):D:=.str ⟨#[c]⟩
noncomputable def up (c:Nat):Bool:=decide (c < 90)
noncomputable def OkC (m c:Nat):Prop:=c=65\/c=66\/c=67\/(97<=c/\c < 97 + m)
theorem ok7 {m c:Nat}(hm:m<=4)(h:OkC m c):(c=65\/c=66\/c=67)\/(c=97\/c=98\/c=99\/c=100):=by
 rcases h with h | h | h | h
 ·exact .inl (.inl h)
 ·exact .inl (.inr (.inl h))
 ·exact .inl (.inr (.inr h))
 ·exact .inr (by omega)
theorem jm6 {m c:Nat}(hm:m<=4)(h:OkC m c):Txt.isupper ⟨#[c]⟩=up c:=by
 rcases ok7 hm h with (rfl | rfl | rfl) | (rfl | rfl | rfl | rfl) <;> decide +kernel
noncomputable def SG:D:=.tup [.str "A",.str "B",.str "C"]
theorem jo7 {c:Nat}(h:c=65\/c=66\/c=67):cmD .isin (chD c) (.tup [.str "A",.str "B",.str "C"])=.ok true:=by
 rcases h with rfl | rfl | rfl <;> rfl
theorem jm7 {c:Nat}(h:c=65\/c=66\/c=67):cmD .notin (chD c) (.tup [.str "A",.str "B",.str "C"])=.ok false:=by
 rcases h with rfl | rfl | rfl <;> rfl
theorem jm8 {c:Nat}(h:c=97\/c=98\/c=99\/c=100):cmD .isin (chD c) (.tup [.str "A",.str "B",.str "C"])=.ok false:=by
 rcases h with rfl | rfl | rfl | rfl <;> rfl
noncomputable def jaP (m:Nat):List Nat:=[97,98,99,100].take m
theorem jqU {m:Nat}(h1:1<=m)(h2:m<=4):Txt.slice "abcd" none (some (m:Int))=mk (jaP m):=by
 have:m=1\/m=2\/m=3\/m=4:=by omega
 rcases this with rfl | rfl | rfl | rfl <;> decide +kernel
theorem jm9 {m c:Nat}(h1:1<=m)(h2:m<=4)(h:97<=c/\c < 97 + m):c∈jaP m:=by
 have:m=1\/m=2\/m=3\/m=4:=by omega
 rcases this with rfl | rfl | rfl | rfl <;> simp[jaP] <;> omega
theorem jqn {m:Nat}(h2:m<=4):(jaP m).length=m:=by simp[jaP];omega
theorem jo8 {m c:Nat}(h1:1<=m)(h2:m<=4)(h:97<=c/\c < 97 + m):cmD .isin (chD c) (.str (mk (jaP m)))=.ok true:=by
 show R.ok (Txt.contains (mk (jaP m)) ⟨#[c]⟩)=_;rw[jhL,decide_eq_true (show c∈(mk (jaP m)).cps.toList from jm9 h1 h2 h)]
theorem f4:fits ("abcd":Str).length=true:=by decide +kernel
theorem jbx {l:List Nat}(h:l.length<=100000):fits (mk l).length=true:=jba (by rw[ja5];omega)
theorem jc4 {α:Type}{f:D->Rho->R (Option D×Rho)}{h g:α->D}{p:α->Bool}{ρ:Rho}:∀{xs:List α},(∀x∈xs,f (h x) ρ=.ok (if p x then some (g x)else none,ρ))->compGo f (xs.map h) ρ=.ok ((xs.filter p).map g,ρ)
 |[],_=>rfl
 |x::xs,e=>by
  simp only[jrx,compGo,e x jrs,R.bind_ok',jc4 fun y hy=>e y (jrr _ hy),List.filter_cons];cases p x <;> rfl
theorem ji5 {xx:Bool}{G:Calls}{U:Nat->Nat->Bool}{α:Type}{elt k:E}{caps:List Nat}{it:DJ.It}{ρ:Rho}{xs:List α}{h g:α->D}{p:α->Bool}(hi:evI G U it ρ=.ok (xs.map h,[],ρ))(hk:∀x∈xs,evT G U k (.dat (h x)::jbg ρ caps)=.ok (p x,.dat (h x)::jbg ρ caps))(hE:∀x∈xs,evE G U elt (.dat (h x)::jbg ρ caps)=.ok (.dat (g x),.dat (h x)::jbg ρ caps))
  (hB:∀s,jaK caps 1 (s::jbg ρ caps) ρ=ρ):evE G U (.comp elt [0] true 1 caps it (.some k) xx) ρ=.ok (.tmp (.l ((xs.filter p).map g)),ρ):=by
 simp only[evE,hi,R.bind_ok'];rw[jc4 (g:=g) (p:=p)]
 ·rw[jb3];rfl
 ·intro x hx;have a:=hk x hx;have b:=hE x hx;simp only[putT,jdf,List.replicate,List.cons_append,List.nil_append,List.set_cons_zero,R.bind_ok',a];cases p x with
  |true=>simp only[if_true,b,R.bind_ok',toD,hB]
  |false=>simp only[jr7,if_false,hB]
theorem ji6 {m c:Nat}(hm:m<=4)(h:OkC m c):CD W (n + 1) 0 [.dat (chD c)]=.ok (.dat (.bl (up c)),[.no]):=by
 rw[CD,jat (d:=⟨1,1,jb8⟩) rfl rfl];simp only[jb8,List.cons_append,List.nil_append,Nat.sub_self,List.replicate];simp_arith[jm6 hm h];rfl
theorem ji7 {G:Calls}{U:Nat->Nat->Bool}{l:List Nat}{ρ:Rho}{i:Nat}(h:ρ[i]?=some (.dat (.str (mk l))))(hl:l.length<=100000):evI G U (.seq (.var i)) ρ=.ok (l.map chD,[],ρ):=by
 simp_arith[h,jbx hl]
theorem ji8 {m:Nat}{l:List Nat}(hm:m<=4)(h:∀c∈l,OkC m c)(hl:l.length<=100):CD W (n + 2) 1 [.dat (.str (mk l))]=.ok (.tmp (.l ((l.filter up).map chD)),[.no]):=by
 rw[CD,jat (d:=⟨1,1,jbK⟩) rfl rfl];have e1:evE (jaa U W P (n + 1)) U jcr [.dat (.str (mk l))]=.ok (.tmp (.l ((l.filter up).map chD)),[.dat (.str (mk l))]):=by
  refine ji5 (h:=chD) (g:=chD) (p:=up) (xs:=l) (ji7 rfl (by omega)) (fun c hc=>?_) (fun c hc=>rfl) fun s=>rfl
  exact jgf [chD c] rfl (ji6 hm (h c hc))
 simp only[jbK,List.cons_append,List.nil_append,Nat.sub_self,List.replicate];simp_arith[e1];rfl
structure OkR (m:Nat)(l:List Nat):Prop where
 len:l.length<=4
 all:∀c∈l,OkC m c
 few:(l.filter up).length<=2
theorem jkN {α:Type}(xs:List α):bfD .all (.lst (xs.map fun _=>D.bl true))=.ok (.dat (.bl true)):=by
 simp only[bfD,jc0,R.bind_ok',jbV (g:=fun _:α=>true)];simp
theorem jna {m:Nat}{l:List Nat}(h1:1<=m)(hm:m<=4)(h:OkR m l):CD W (n + 3) 2 [.dat (.str (mk l)),.dat (.int m)]=.ok (.dat (.str (mk l)),[.no,.no]):=by
 rw[CD,jat (d:=⟨2,2,jav⟩) rfl rfl];have hl:=h.len;have fl:fits (mk l).length=true:=jbx (by omega)
 have e1:evE (jaa U W P (n + 2)) U jaE [.dat (.str (mk l)),.dat (.int m)]=.ok (.tmp (.l (l.map fun _=>D.bl true)),[.dat (.str (mk l)),.dat (.int m)]):=by
  refine jb7 (h:=chD) (g:=fun _=>D.bl true) (xs:=l) (ji7 rfl (by omega)) (fun c hc=>?_) fun s=>rfl
  show evE (jaa U W P (n + 2)) U _ [.dat (chD c),.dat (.int m)]=_;have hc:=h.all c hc;rcases ok7 hm hc with hs | hs
  ·simp_arith[jo7 hs]
   rfl
  ·have hs2:97<=c/\c < 97 + m:=by
    rcases hc with e | e | e | e <;> omega
   simp_arith[jm8 hs,f4,jqU h1 hm,jo8 h1 hm hs2]
   rfl
 have t1:evT (jaa U W P (n + 2)) U (.cmp .gt (.blt .len (.var 0)) (.lit (.int 4))) [.dat (.str (mk l)),.dat (.int m)]=.ok (false,[.dat (.str (mk l)),.dat (.int m)]):=by
  simp_arith[fl]
  rw[decide_eq_false (by rw[ja5];omega)]
 have t2:evT (jaa U W P (n + 2)) U (.not (.blt .all jaE)) [.dat (.str (mk l)),.dat (.int m)]=.ok (false,[.dat (.str (mk l)),.dat (.int m)]):=by
  refine jmT (b:=true) ?_;simp only[evT,e1,R.bind_ok',ja9,jcZ,jkN,jag,jm3]
 have t3:evT (jaa U W P (n + 2)) U (.cmp .gt (.blt .len (.call 1 [] (.cons (.var 0) .nil))) (.lit (.int 2))) [.dat (.str (mk l)),.dat (.int m)]=.ok (false,[.dat (.str (mk l)),.dat (.int m)]):=by
  have hc:=jaS (G:=jaa U W P (n + 2)) (U:=U) (ρ:=[.dat (.str (mk l)),.dat (.int m)]) (es:=.cons (.var 0) .nil) [.str (mk l)] rfl (ji8 (W:=W) (n:=n) hm h.all (by omega))
  have hf:=h.few;have hc2:evE (jaa U W P (n + 2)) U (.blt .len (.call 1 [] (.cons (.var 0) .nil))) [.dat (.str (mk l)),.dat (.int m)]=.ok (.dat (.int (((l.filter up).map chD).length:Int)),[.dat (.str (mk l)),.dat (.int m)]):=by
   rw[evE,hc];rfl
  rw[evT,hc2];simp_arith[jrz];rw[decide_eq_false (by omega)]
 show (evSs (jaa U W P (n + 2)) U W jav [.dat (.str (mk l)),.dat (.int m)]).bind (jc8 2)=_;unfold jav;rw[jak (jgM t1),jak (jgM t2),jak (jgM t3)];simp_arith[];rfl
end Law
namespace Law
open PySem L2 DJ Tx
variable {W n:Nat}
noncomputable abbrev Rl:=Nat×List Nat
structure OkRl (m:Nat)(r:Rl):Prop where
 sg:r.1=65\/r.1=66\/r.1=67
 rt:OkR m r.2
noncomputable def rL (r:Rl):List Nat:=r.1::61::r.2
noncomputable def rT (r:Rl):Str:=mk (rL r)
noncomputable def rD (r:Rl):D:=.tup [.str ⟨#[r.1]⟩,.str (mk r.2)]
noncomputable def jnb (m:Nat)(rs:List Rl):D:=.tup [.int m,.tup (rs.map rD)]
theorem at0 {a b:Nat}{l:List Nat}(h:l.length<=100):atC (mk (a::b::l)) 0=.ok (chD a):=by
 unfold atC;rw[if_pos (jbx (by simp;omega))]
 rfl
theorem at1 {a b:Nat}{l:List Nat}(h:l.length<=100):atC (mk (a::b::l)) 1=.ok (chD b):=by
 unfold atC;rw[if_pos (jbx (by simp;omega))]
 rfl
theorem jgk {G:Calls}{U:Nat->Nat->Bool}{a b:E}{x y:D}{ρ ρ1 ρ2:Rho}(ha:evE G U a ρ=.ok (.dat x,ρ1))(hb:evE G U b ρ1=.ok (.dat y,ρ2)):evE G U (.tup (.cons a (.cons b .nil))) ρ=.ok (.dat (.tup [x,y]),ρ2):=by
 have h2:evEs G U (.cons b .nil) ρ1=.ok ([y],ρ2):=by
  rw[evEs,hb];rfl
 rw[evE,evEs,ha];simp only[R.bind_ok',jcn,h2];rfl
theorem jo9 {G:Calls}{U:Nat->Nat->Bool}{f:Sm}{a b:E}{x:Str}{v w:Vl}{d:D}{ρ ρ1 ρ2:Rho}(ha:evE G U a ρ=.ok (.dat (.str x),ρ1))(hb:evE G U b ρ1=.ok (v,ρ2))(hd:deref v ρ2=.ok d)(h:smD f x d=.ok w):evE G U (.sm f a b) ρ=.ok (w,ρ2):=by
 rw[evE,ha];simp only[R.bind_ok',jlq];rw[hb];simp only[R.bind_ok',hd,h]
theorem jrp:cmD .ne (chD 61) (.str "=")=.ok false:=rfl
theorem jls {m:Nat}{r:Rl}(h1:1<=m)(hm:m<=4)(h:OkRl m r):CD W (n + 4) 3 [.dat (.str (rT r)),.dat (.int m)]=.ok (.dat (rD r),[.no,.no]):=by
 obtain⟨c,l⟩:=r;have hs:c=65\/c=66\/c=67:=h.sg;have hl:l.length<=4:=h.rt.len;have fl:fits (mk (c::61::l)).length=true:=jbx (by simp;omega)
 rw[CD,jat (d:=⟨2,2,jaz⟩) rfl rfl];have t1:evT (jaa U W P (n + 3)) U (.or (.cmp .lt (.blt .len (.var 0)) (.lit (.int 2))) (.or (.cmp .notin (.idx (.var 0) (.lit (.int 0))) (.lit (.tup [.str "A",.str "B",.str "C"]))) (.cmp .ne (.idx (.var 0) (.lit (.int 1))) (.lit (.str "="))))) [.dat (.str (mk (c::61::l))),.dat (.int m)]=.ok (false,[.dat (.str (mk (c::61::l))),.dat (.int m)]):=by
  refine jjm ?_ (jjm ?_ ?_)
  ·simp_arith[fl]
   rw[decide_eq_false (by rw[ja5];simp;omega)]
  ·simp only[evT,evE,jrK,R.bind_ok',jag,jbW,at0 (jr4 hl (by decide)),jm7 hs]
  ·simp only[evT,evE,jrK,R.bind_ok',jag,jbW,at1 (jr4 hl (by decide)),jrp]
 have e1:evE (jaa U W P (n + 3)) U (.call 2 [] (.cons (.slc (.var 0) (.some (.lit (.int 2))) .none) (.cons (.var 1) .nil))) [.dat (.str (mk (c::61::l))),.dat (.int m)]=.ok (.dat (.str (mk l)),[.dat (.str (mk (c::61::l))),.dat (.int m)]):=by
  refine jaS [.str (mk l),.int m] ?_ (jna h1 hm h.rt);have sl:Txt.slice (mk (c::61::l)) (some 2) none=mk l:=jbk (c::61::l) 2 (by simp)
  simp_arith[fl,sl]
  rfl
 have e0:evE (jaa U W P (n + 3)) U (.idx (.var 0) (.lit (.int 0))) [.dat (.str (mk (c::61::l))),.dat (.int m)]=.ok (.dat (chD c),[.dat (.str (mk (c::61::l))),.dat (.int m)]):=by
  simp only[evE,jrK,R.bind_ok',jag,jbW,at0 (jr4 hl (by decide))]
 show (evSs (jaa U W P (n + 3)) U W jaz [.dat (.str (mk (c::61::l))),.dat (.int m)]).bind (jc8 2)=_;unfold jaz;rw[jak (jgM t1)];rw[jbF (v:=.dat (rD (c,l))) (ρ':=[.dat (.str (mk (c::61::l))),.dat (.int m)]) (jcY (jgk e0 e1))];rfl
noncomputable def mT (m:Nat):Str:=Str.ofString (toString (m:Int))
theorem jqo {m:Nat}(h1:1<=m)(hm:m<=4):mT m=mk [48 + m]:=by
 have:m=1\/m=2\/m=3\/m=4:=by omega
 rcases this with rfl | rfl | rfl | rfl <;> decide +kernel
theorem jqp {m:Nat}(h1:1<=m)(hm:m<=4):cmD .notin (.str (mk [48 + m])) (.tup [.str "1",.str "2",.str "3",.str "4"])=.ok false:=by
 have:m=1\/m=2\/m=3\/m=4:=by omega
 rcases this with rfl | rfl | rfl | rfl <;> rfl
theorem jlt {m:Nat}(h1:1<=m)(hm:m<=4):bfD .int (.str (mk [48 + m]))=.ok (.dat (.int m)):=by
 have e:PySem.intText? (mk [48 + m])=some (m:Int):=by
  have:m=1\/m=2\/m=3\/m=4:=by omega
  rcases this with rfl | rfl | rfl | rfl <;> decide +kernel
 show (if (mk [48 + m]).length<=640 then (match PySem.intText? (mk [48 + m])with | some n=>R.ok (Vl.dat (.int n)) | none=>.stk)else .stk)=_
 rw[if_pos (show (mk [48 + m]).length<=640 from(by decide:1<=640)),e]
noncomputable def jda (m:Nat)(rs:List Rl):List Nat:=(48 + m)::rs.flatMap fun r=>59::rL r
theorem jnc (m:Nat)(rs:List Rl):jl 59 ([48 + m]::rs.map rL)=jda m rs:=by
 have key:∀(x:List Nat) (rs:List Rl),jl 59 (x::rs.map rL)=x++rs.flatMap fun r=>59::rL r:=by
  intro x rs;induction rs generalizing x with
  |nil=>simp[jl]
  |cons r rs ih=>
   show x++59::jl 59 (rL r::rs.map rL)=_;rw[ih];simp
 rw[key];rfl
theorem jgl (m:Nat)(rs:List Rl):Txt.join ";" (mk [48 + m]::rs.map rT)=mk (jda m rs):=by
 refine jhJ ?_;have e:Txt.join ";" (mk [48 + m]::rs.map rT)=Str.join ⟨#[59]⟩ (mk [48 + m]::rs.map rT):=StrLaws.glued_eq_join _ _;rw[e,jcK,<-jnc];simp only[jrx,List.map_map];rfl
theorem jc5 {m:Nat}{r:Rl}(hm:m<=4)(h:OkRl m r):59 ∉ rL r:=by
 intro z;have hs:=h.sg;rcases List.mem_cons.mp z with e | z
 ·omega
 ·rcases List.mem_cons.mp z with e | z
  ·cases e
  ·rcases ok7 hm (h.rt.all _ z)with e | e <;> omega
theorem ji9 {m:Nat}{rs:List Rl}(hm:m<=4)(h:∀r∈rs,OkRl m r):Txt.split (mk (jda m rs)) ";"=mk [48 + m]::rs.map rT:=by
 rw[<-jgl];refine jds (c:=59) (by simp) fun p hp=>?_
 rcases List.mem_cons.mp hp with rfl | hp
 ·intro z;have:59=48 + m:=by simpa using z
  omega
 ·obtain⟨r,hr,rfl⟩:=List.mem_map.mp hp;exact jc5 hm (h r hr)
theorem jja {m:Nat}{r:Rl}(h:OkRl m r):(rL r).length<=6:=by
 have:=h.rt.len;simp[rL];omega
theorem jfA {m:Nat}:∀{rs:List Rl},(∀r∈rs,OkRl m r)->(rs.flatMap fun r=>59::rL r).length<=7 * rs.length
 |[],_=>by simp
 |r::rs,h=>by
  have:=jfA (rs:=rs) fun r hr=>h r (jrr _ hr);have:=jja (h r (by simp))
  simp only[List.flatMap_cons,jrF,jrA];omega
theorem jjb {m:Nat}:∀{rs:List Rl},(∀r∈rs,OkRl m r)->((rs.map rT).map (·.length)).sum<=6 * rs.length
 |[],_=>by simp
 |r::rs,h=>by
  have:=jjb (rs:=rs) fun r hr=>h r (jrr _ hr);have e:(rT r).length=(rL r).length:=ja5 _;have:=jja (h r (by simp))
  simp only[jrx,List.sum_cons,jrA];omega
theorem jnd {m:Nat}{rs:List Rl}(h1:1<=m)(hm:m<=4)(h:∀r∈rs,OkRl m r)(hn:rs.length<=8)(h0:1<=rs.length):CD W (n + 5) 4 [.dat (.str (mk (jda m rs)))]=.ok (.dat (jnb m rs),[.no]):=by
 rw[CD,jat (d:=⟨1,3,jao⟩) rfl rfl];have sp:smD .splt (mk (jda m rs)) (.str ";")=.ok (.tmp (.l (D.str (mk [48 + m])::rs.map fun r=>D.str (rT r)))):=by
  rw[jfp,ji9 hm h,if_pos]
  ·simp
  ·have:=jfA h;have l1:fits (mk (jda m rs)).length=true:=jbx (by simp only[jda,jrA];omega)
   have l2:fits (mk [48 + m]::rs.map rT).length=true:=jba (by simp;omega)
   rw[l1,l2];rfl
 generalize hps:(D.str (mk [48 + m])::rs.map fun r=>D.str (rT r))=ps at sp;have p0:jfP (.lst ps) (.int 0)=.ok (.str (mk [48 + m])):=by rw[<-hps];rfl
 have pl:ps.length=rs.length + 1:=by rw[<-hps];simp
 have pc:cut ps (some 1) none=rs.map fun r=>D.str (rT r):=by
  rw[show (some 1:Option Int)=some ((1:Nat):Int)from rfl,jgi,<-hps];rfl
 let st:Rho:=[.dat (.str (mk (jda m rs))),.own (.l ps) false false,.no]
 let st2:Rho:=[.dat (.str (mk (jda m rs))),.own (.l ps) false false,.dat (.int m)]
 have t1:evT (jaa U W P (n + 4)) U (.cmp .notin (.idx (.var 1) (.lit (.int 0))) (.lit (.tup [.str "1",.str "2",.str "3",.str "4"]))) st=.ok (false,st):=by
  simp only[st,evT,evE,jrK,jrL,R.bind_ok',jbm,jag,jcZ,p0,jqp h1 hm]
 have t2:evT (jaa U W P (n + 4)) U (.or (.cmp .lt (.blt .len (.var 1)) (.lit (.int 2))) (.cmp .gt (.blt .len (.var 1)) (.bin .add (.lit (.int 8)) (.lit (.int 1))))) st=.ok (false,st):=by
  refine jjm ?_ ?_
  ·simp_arith[st]
   rw[decide_eq_false (by omega)]
  ·simp_arith[st]
   rw[decide_eq_false (by omega)]
 have e1:evE (jaa U W P (n + 4)) U jar st2=.ok (.tmp (.l (rs.map rD)),st2):=by
  refine jb7 (h:=fun r=>D.str (rT r)) (g:=rD) (xs:=rs) ?_ (fun r hr=>?_) fun s=>rfl
  ·simp only[st2];simp_arith[pc]
  ·exact jaS [.str (rT r),.int m] rfl (jls h1 hm (h r hr))
 show (evSs (jaa U W P (n + 4)) U W jao [.dat (.str (mk (jda m rs))),.no,.no]).bind (jc8 1)=_;unfold jao;rw[jak (jkw (jo9 rfl rfl rfl sp) (by simp))]
 show (evSs (jaa U W P (n + 4)) U W _ st).bind (jc8 1)=_;rw[jak (jgM t1),jak (jgM t2)];rw[jak (ρ':=st2) (by simp only[st,evS,evE,jrK,jrL,R.bind_ok',jbm,jag,jcZ,p0,jlt h1 hm,jdV];rfl)]
 rw[jbF (v:=.dat (jnb m rs)) (ρ':=st2) (by
  have ev:evE (jaa U W P (n + 4)) U (.blt .tuple jar) st2=.ok (.dat (.tup (rs.map rD)),st2):=jmU e1;have e2:evE (jaa U W P (n + 4)) U (.var 2) st2=.ok (.dat (.int m),st2):=rfl;exact jcY (jgk e2 ev))]
 rfl
end Law
namespace Law
open PySem L2 DJ Tx
variable {W n:Nat}
theorem jpa (ns:List Int)(hW:73<=W):∃xs:List Int,xs.length=72/\CD W (n + 1) 5 [.dat (.lst (ns.map .int)),.dat (.int 72)]=.ok (.tmp (.l (xs.map .int)),[.no,.no]):=by
 rw[CD,jat (d:=⟨2,5,jbb⟩) rfl rfl];let ys:List Int:=(ns.take 72).map fun c=>c % 1000000000000000000;have hy:ys.length<=72:=by simp[ys];omega
 let st (o:Sl) (s3 s4:Sl):Rho:=[.dat (.lst (ns.map .int)),.dat (.int 72),o,s3,s4]
 have e1:evE (jaa U W P n) U jb9 (st .no .no .no)=.ok (.tmp (.l (ys.map D.int)),st .no .no .no):=by
  have:=jb7 (G:=jaa U W P n) (U:=U) (elt:=.bin .mod (.var 0) (.bin .pow (.lit (.int 10)) (.lit (.int 18)))) (caps:=[]) (it:=.seq (.slc (.var 0) .none (.some (.var 1)))) (xx:=true) (ρ:=st .no .no .no) (h:=D.int) (g:=fun c=>.int (c % 1000000000000000000)) (xs:=ns.take 72) (by
   simp_arith[st,ji0]
   rw[show (72:Int)=((72:Nat):Int)from rfl,jdX]) (fun c hc=>by simp_arith[jlr]) (fun s=>rfl)
  simp only[ys,List.map_map];exact this
 have lp:∀a,∃ρ',jb0 (fun x r=>(putT [4] true x r).bind fun r'=>evSs (jaa U W P n) U W ja1 r') (ys.map D.int) (st (.own (.l (ys.map D.int)) false true) (.dat (.int a)) .no)=.ok (.nx ρ')/\∃b s,ρ'=st (.own (.l (ys.map D.int)) false true) (.dat (.int b)) s:=fun a=>by
  refine jbX (fun ρ'=>∃b s,ρ'=st (.own (.l (ys.map D.int)) false true) (.dat (.int b)) s) ⟨_,_,rfl⟩ fun x hx ρ hρ=>?_;obtain⟨b,s,rfl⟩:=hρ;refine⟨_,?_,(b * 797 + x) % 999999929,.dat (.int x),rfl⟩;show evSs (jaa U W P n) U W ja1 (st (.own (.l (ys.map D.int)) false true) (.dat (.int b)) (.dat (.int x)))=_;unfold ja1;simp_arith[st]
 obtain⟨ρ1,e3,b,s,rfl⟩:=lp (1013 + 7 * ((ys.map D.int).length:Int));have wl:=jeF (c:=fun r=>evT (jaa U W P n) U (.cmp .lt (.blt .len (.var 2)) (.var 1)) r) (f:=fun r=>evSs (jaa U W P n) U W ja2 r)
  (fun k ρ=>∃(zs:List Int) (a:Int) (s4:Sl),ρ=st (.own (.l (zs.map D.int)) false false) (.dat (.int a)) s4/\zs.length + k=72)
  (k:=72 - ys.length) (m:=W) (ρ:=st (.own (.l (ys.map D.int)) false false) (.dat (.int b)) s) (by omega) ⟨ys,b,s,rfl,by omega⟩
  (fun k ρ hρ=>by
   obtain⟨zs,a,s4,rfl,hz⟩:=hρ;refine⟨?_,_,?_,zs++[(a * 69621 + 5) % 2147483629],(a * 69621 + 5) % 2147483629,s4,rfl,by simp;omega⟩
   ·simp_arith[st,jrz]
    rw[decide_eq_true (by omega)]
   ·have f:fits (zs.length + 1)=true:=by simp[fits];omega
    unfold ja2;simp_arith[st,jrz,f];simp)
  (fun ρ hρ=>by
   obtain⟨zs,a,s4,rfl,hz⟩:=hρ;simp_arith[st,jrz];rw[decide_eq_false (by omega)])
 obtain⟨ρ2,e4,zs,a,s4,rfl,hz⟩:=wl;refine⟨zs.reverse,by simp;omega,?_⟩
 show (evSs (jaa U W P n) U W jbb (st .no .no .no)).bind (jc8 2)=_;unfold jbb;rw[jak (jkw e1 (by simp[st]))]
 show (evSs (jaa U W P n) U W _ (st (.own (.l (ys.map D.int)) false false) .no .no)).bind (jc8 2)=_;rw[jak (ρ':=st (.own (.l (ys.map D.int)) false false) (.dat (.int (1013 + 7 * ((ys.map D.int).length:Int)))) .no) (by simp_arith[st])]
 rw[jak (ρ':=st (.own (.l (ys.map D.int)) false false) (.dat (.int b)) s) (by
  have e3':=e3;simp only[st]at e3' ⊢;simp_arith[e3',jde,unlk])]
 rw[jak (show evS (jaa U W P n) U W (.whl (.cmp .lt (.blt .len (.var 2)) (.var 1)) ja2) _=_ from e4)];simp_arith[st,List.map_reverse];rfl
theorem jlu {i:Int}(h0:0<=i)(h1:i < 3):∃c,atC "CBA" i=.ok (chD c)/\(c=65\/c=66\/c=67):=by
 have:i=0\/i=1\/i=2:=by omega
 rcases this with rfl | rfl | rfl
 ·exact⟨67,rfl,by omega⟩
 ·exact⟨66,rfl,by omega⟩
 ·exact⟨65,rfl,by omega⟩
theorem jne {i:Int}{m:Nat}(hm:m<=4)(h0:0<=i)(h1:i < m):∃c,atC "abcd" i=.ok (chD c)/\97<=c/\c < 97 + m:=by
 have:i=0\/i=1\/i=2\/i=3:=by omega
 rcases this with rfl | rfl | rfl | rfl
 ·exact⟨97,rfl,by omega⟩
 ·exact⟨98,rfl,by omega⟩
 ·exact⟨99,rfl,by omega⟩
 ·exact⟨100,rfl,by omega⟩
theorem jnf {m:Nat}{ys:List Int}{c:Int}(h1:1<=m)(hm:m<=4):∃l,OkR m l/\CD W (n + 1) 6 [.own (.l ((ys++[c]).map .int)) true false,.dat (.int m),.dat (.str "CBA"),.dat (.int 4)]=.ok (.dat (.str (mk l)),[.own (.l (ys.map .int)) true false,.no,.no,.no]):=by
 rw[CD,jat (d:=⟨4,8,jaW⟩) rfl rfl];let st (c:Int) (l:List Nat) (q:Int) (s:Sl):Rho:=[.own (.l (ys.map .int)) true false,.dat (.int m),.dat (.str "CBA"),.dat (.int 4),.dat (.int c),.dat (.str (mk l)),.dat (.int q),s];have hm0:(0:Int) < m:=by omega
 have lp:=jcX (f:=fun x r=>(putT [7] true x r).bind fun r'=>evSs (jaa U W P n) U W jax r')
  (fun j ρ=>∃(c':Int) (l:List Nat) (q:Int) (s:Sl),ρ=st c' l q s/\l.length=j/\(∀c∈l,OkC m c)/\((l.filter up).length:Int) + q=2/\0<=q)
  (xs:=(List.range (c % 5).toNat).map fun (j:Nat)=>D.int j) (i:=0) (ρ:=st c [] 2 .no)
  ⟨c,[],2,.no,rfl,rfl,(fun c hc=>by cases hc),rfl,by decide⟩ (fun j x ρ hxj hρ=>by
   obtain⟨c',l,q,s,rfl,g1,g2,g3,g4⟩:=hρ;have hj:j < (c % 5).toNat/\x=.int (j:Int):=by
    rw[jrw]at hxj;cases e:(List.range (c % 5).toNat)[j]? with
    |none=>rw[e]at hxj;cases hxj
    |some k=>
     rw[e]at hxj;obtain⟨a1,a2⟩:=List.getElem?_eq_some_iff.mp e;rw[List.getElem_range]at a2;subst a2;cases hxj;exact⟨by simpa using a1,rfl⟩
   obtain⟨hj,rfl⟩:=hj;let z:Int:=(c' / 5 * 48271 + 7 * (j:Int)) % 2147483629;have hz0:0<=z:=Int.emod_nonneg _ (by decide)
   have s1:evS (jaa U W P n) U W (.asg 4 (.bin .mod (.bin .add (.bin .mul (.bin .fdiv (.var 4) (.lit (.int 5))) (.lit (.int 48271))) (.bin .mul (.lit (.int 7)) (.var 7))) (.lit (.int 2147483629)))) (st c' l q (.dat (.int j)))=.ok (.nx (st z l q (.dat (.int j)))):=by
    simp_arith[st]
    rfl
   have hl5:l.length<=5:=by omega
   by_cases hb:z % 3 == 1/\0 < q
   ·obtain⟨hb1,hb2⟩:=hb;obtain⟨d,hd,hd3⟩:=jlu (i:=z / 3 % 3) (Int.emod_nonneg _ (by decide)) (Int.emod_lt_of_pos _ (by decide))
    refine⟨st z (l++[d]) (q - 1) (.dat (.int j)),?_,z,l++[d],q - 1,_,rfl,by simp;omega,fun c hc=>?_,?_,by omega⟩
    ·show evSs (jaa U W P n) U W jax (st c' l q (.dat (.int j)))=_;unfold jax;rw[jak s1];have t1:evT (jaa U W P n) U (.and (.cmp .eq (.bin .mod (.var 4) (.lit (.int 3))) (.lit (.int 1))) (.and (.cmp .gt (.var 6) (.lit (.int 0))) (.cmp .ne (.var 2) (.lit (.str ""))))) (st z l q (.dat (.int j)))=.ok (true,st z l q (.dat (.int j))):=by
      have hne:cmD .ne (.str "CBA") (.str "")=.ok true:=rfl;simp only[st,evT,evE,jrK,jrL,R.bind_ok',jag,jb6,show (0:Int) < 3 from by decide,if_true,jkJ,jkK,hb1,je8,decide_eq_true hb2,hne]
     have f1:fits ("CBA":Str).length=true:=rfl;have l3:(("CBA":Str).length:Int)=3:=rfl;have f2:fits ((mk l).length + (⟨#[d]⟩:Str).length)=true:=jba (by rw[ja5];show l.length + 1<=_;omega)
     have ap:mk l++(⟨#[d]⟩:Str)=mk (l++[d]):=jhM l [d];rw[jak (ρ':=st z (l++[d]) (q - 1) (.dat (.int j))) (by
      simp only[evS,t1,R.bind_ok',if_true];simp_arith[st,f1,l3,hd,f2,ap])]
     rfl
    ·rcases List.mem_append.mp hc with hc | hc
     ·exact g2 c hc
     ·have:c=d:=by simpa using hc
      subst this;rcases hd3 with e | e | e
      ·exact .inl e
      ·exact .inr (.inl e)
      ·exact .inr (.inr (.inl e))
    ·have:up d=true:=by simp[up];omega
     rw[List.filter_append,jrF,List.filter_cons,this];simp;omega
   ·obtain⟨d,hd,hd3⟩:=jne (i:=z / 3 % m) hm (Int.emod_nonneg _ (by omega)) (Int.emod_lt_of_pos _ hm0)
    refine⟨st z (l++[d]) q (.dat (.int j)),?_,z,l++[d],q,_,rfl,by simp;omega,fun c hc=>?_,?_,g4⟩
    ·show evSs (jaa U W P n) U W jax (st c' l q (.dat (.int j)))=_;unfold jax;rw[jak s1];have t1:evT (jaa U W P n) U (.and (.cmp .eq (.bin .mod (.var 4) (.lit (.int 3))) (.lit (.int 1))) (.and (.cmp .gt (.var 6) (.lit (.int 0))) (.cmp .ne (.var 2) (.lit (.str ""))))) (st z l q (.dat (.int j)))=.ok (false,st z l q (.dat (.int j))):=by
      cases hb1:(z % 3 == 1)with
      |false=>simp only[st,evT,evE,jrK,jrL,R.bind_ok',jag,jb6,show (0:Int) < 3 from by decide,if_true,jkJ,jkK,hb1,jr7,if_false]
      |true=>
       have hb2:¬ 0 < q:=fun h=>hb ⟨hb1,h⟩;simp only[st,evT,evE,jrK,jrL,R.bind_ok',jag,jb6,show (0:Int) < 3 from by decide,if_true,jkJ,jkK,hb1,je8,decide_eq_false hb2,jr7,if_false]
     have f2:fits ((mk l).length + (⟨#[d]⟩:Str).length)=true:=jba (by rw[ja5];show l.length + 1<=_;omega)
     have ap:mk l++(⟨#[d]⟩:Str)=mk (l++[d]):=jhM l [d];rw[jak (ρ':=st z (l++[d]) q (.dat (.int j))) (by
      simp only[evS,t1,R.bind_ok',jr7,if_false];simp_arith[st,hm0,hd,f2,ap])]
     rfl
    ·rcases List.mem_append.mp hc with hc | hc
     ·exact g2 c hc
     ·have:c=d:=by simpa using hc
      subst this;exact .inr (.inr (.inr hd3))
    ·have:up d=false:=by simp[up];omega
     rw[List.filter_append,jrF,List.filter_cons,this];simpa using g3)
 obtain⟨ρ1,e1,c',l,q,s,rfl,g1,g2,g3,g4⟩:=lp;rw[jrz,List.length_range,Nat.zero_add]at g1;refine⟨l,⟨by omega,g2,by omega⟩,?_⟩
 have rg:jdd (.int (c % 5))=.ok ((List.range (c % 5).toNat).map fun (j:Nat)=>D.int j):=by
  have:=jgj (c % 5).toNat (by omega)
  rwa [show ((c % 5).toNat:Int)=c % 5 by omega]at this
 show (evSs (jaa U W P n) U W jaW [.own (.l ((ys++[c]).map .int)) true false,.dat (.int m),.dat (.str "CBA"),.dat (.int 4),.no,.no,.no,.no]).bind (jc8 4)=_;unfold jaW;rw[jak (ρ':=[.own (.l (ys.map .int)) true false,.dat (.int m),.dat (.str "CBA"),.dat (.int 4),.dat (.int c),.no,.no,.no]) (by rw[evS,jkM (h:=D.int) (ys:=ys) (c:=c) rfl];rfl)]
 rw[jak (ρ':=[.own (.l (ys.map .int)) true false,.dat (.int m),.dat (.str "CBA"),.dat (.int 4),.dat (.int c),.dat (.str ""),.no,.no]) (by simp_arith[])]
 rw[jak (ρ':=st c [] 2 .no) (by simp_arith[];rfl)]
 rw[jak (ρ':=st c' l q s) (by
  have e1':=e1;simp only[st]at e1' ⊢;simp_arith[show (4:Int) + 1=5 from rfl,show (0:Int) < 5 from by decide,rg,e1',jde,unlk])]
 simp_arith[st]
 rfl
end Law
namespace Law
open PySem L2 DJ Tx
variable {W n:Nat}
theorem jpl (a c:Nat):((⟨#[a]⟩:Str) == ⟨#[c]⟩)=(c == a):=by
 by_cases h:c=a
 ·simp[h]
 ·have h2:(⟨#[a]⟩:Str)≠⟨#[c]⟩:=fun z=>h (by cases z;rfl)
  rw[beq_eq_false_iff_ne.mpr h2,beq_eq_false_iff_ne.mpr h]
noncomputable def sgB (c:Nat):Bool:=c == 65 || (c == 66 || c == 67)
theorem jjc (c:Nat):cmD .isin (chD c) (.tup [.str "A",.str "B",.str "C"])=.ok (sgB c):=by
 show R.ok ((⟨#[65]⟩:Str) == ⟨#[c]⟩ || ((⟨#[66]⟩:Str) == ⟨#[c]⟩ || ((⟨#[67]⟩:Str) == ⟨#[c]⟩ || false)))=_;rw[jpl,jpl,jpl,Bool.or_false];rfl
theorem jng (c:Nat):cmD .notin (chD c) (.tup [.str "A",.str "B",.str "C"])=.ok (!sgB c):=by
 have h:inX (chD c) (.tup [.str "A",.str "B",.str "C"])=.ok (sgB c):=jjc c;show (inX (chD c) (.tup [.str "A",.str "B",.str "C"])).bind (fun c=>R.ok (!c))=_;rw[h];rfl
noncomputable def okc (m c:Nat):Bool:=sgB c || decide (c∈jaP m)
theorem jjd {m c:Nat}(hm:m<=4)(h:okc m c=true):OkC m c:=by
 simp only[okc,sgB,Bool.or_eq_true,beq_iff_eq,decide_eq_true_eq]at h;rcases h with (h | h | h) | h
 ·exact .inl h
 ·exact .inr (.inl h)
 ·exact .inr (.inr (.inl h))
 ·refine .inr (.inr (.inr ?_));have:m=0\/m=1\/m=2\/m=3\/m=4:=by omega
  rcases this with rfl | rfl | rfl | rfl | rfl <;> simp[jaP]at h <;> omega
noncomputable def okR (m:Nat)(l:List Nat):Bool:=decide (l.length<=4) && (l.all (okc m) && decide ((l.filter up).length<=2))
noncomputable def jaA (m:Nat):List Nat->Bool
 |a::b::l=>sgB a && (b == 61 && okR m l)
 |_=>false
section
variable {G:Calls}{U:Nat->Nat->Bool}{W:Nat}{ρ ρ1:Rho}{c k:Nat}{e a b:E}{x d:D}{t:E}{s:S}{ss:Ss}
theorem jby (h:evS G U W s ρ=.err c):evSs G U W (.cons s ss) ρ=.err c:=by simp only[evSs,h,R.bind_err']
theorem jdn (h:evT G U t ρ=.ok (true,ρ)):evS G U W (.ife t (.cons (.rai k (.lit d)) .nil) .nil) ρ=.err k:=by
 simp only[evS,h,R.bind_ok',if_true,evSs,evE,R.bind_err']
theorem jlv (h:evE G U e ρ=.err c):evS G U W (.ret e) ρ=.err c:=by simp only[evS,h,R.bind_err']
theorem jje (ha:evE G U a ρ=.ok (.dat x,ρ1))(hb:evE G U b ρ1=.err c):evE G U (.tup (.cons a (.cons b .nil))) ρ=.err c:=by
 have h2:evEs G U (.cons b .nil) ρ1=.err c:=by
  rw[evEs,hb];rfl
 rw[evE,evEs,ha];simp only[R.bind_ok',jcn,h2,R.bind_err']
theorem jkO {c':E}(h:evT G U t ρ=.ok (true,ρ)):evT G U (.or t c') ρ=.ok (true,ρ):=by simp only[evT,h,R.bind_ok',if_true]
end
theorem jqq {m c:Nat}{G:Calls}{U:Nat->Nat->Bool}(h1:1<=m)(hm:m<=4):evE G U (.or (.cmp .isin (.var 0) (.lit (.tup [.str "A",.str "B",.str "C"]))) (.cmp .isin (.var 0) (.slc (.lit (.str "abcd")) .none (.some (.var 1))))) [.dat (chD c),.dat (.int m)]=.ok (.dat (.bl (okc m c)),[.dat (chD c),.dat (.int m)]):=by
 have hi:cmD .isin (chD c) (.str (mk (jaP m)))=.ok (decide (c∈jaP m)):=by
  show R.ok (Txt.contains (mk (jaP m)) ⟨#[c]⟩)=_;rw[jhL]
 cases hs:sgB c with
 |true=>
  have:=jjc c;rw[hs]at this;simp_arith[this,okc,hs];rfl
 |false=>
  have:=jjc c;rw[hs]at this;simp_arith[this,f4,jqU h1 hm,hi,okc,hs];rfl
theorem jnh {m:Nat}(l:List Nat):bfD .all (.lst (l.map fun c=>D.bl (okc m c)))=.ok (.dat (.bl (l.all (okc m)))):=by
 simp only[bfD,jc0,R.bind_ok',jbV (g:=okc m)];rw[List.all_map];rfl
theorem jni {m:Nat}{l:List Nat}(h1:1<=m)(hm:m<=4)(hl:l.length<=1000)(h:okR m l=false):CD W (n + 3) 2 [.dat (.str (mk l)),.dat (.int m)]=.err 3:=by
 rw[CD,jat (d:=⟨2,2,jav⟩) rfl rfl];have fl:fits (mk l).length=true:=jbx (by omega)
 show (evSs (jaa U W P (n + 2)) U W jav [.dat (.str (mk l)),.dat (.int m)]).bind (jc8 2)=_;have t1:evT (jaa U W P (n + 2)) U (.cmp .gt (.blt .len (.var 0)) (.lit (.int 4))) [.dat (.str (mk l)),.dat (.int m)]=.ok (decide (4 < l.length),[.dat (.str (mk l)),.dat (.int m)]):=by
  simp_arith[fl]
  rw[show decide ((4:Int) < ((mk l).length:Int))=decide (4 < l.length)from by rw[ja5];exact decide_eq_decide.mpr (by omega)]
 have e1:evE (jaa U W P (n + 2)) U jaE [.dat (.str (mk l)),.dat (.int m)]=.ok (.tmp (.l (l.map fun c=>D.bl (okc m c))),[.dat (.str (mk l)),.dat (.int m)]):=
  jb7 (h:=chD) (g:=fun c=>D.bl (okc m c)) (xs:=l) (ji7 rfl (by omega)) (fun c hc=>jqq h1 hm) fun s=>rfl
 have t2:evT (jaa U W P (n + 2)) U (.not (.blt .all jaE)) [.dat (.str (mk l)),.dat (.int m)]=.ok (!l.all (okc m),[.dat (.str (mk l)),.dat (.int m)]):=by
  refine jmT ?_;simp only[evT,e1,R.bind_ok',ja9,jcZ,jnh,jag,jm3]
 unfold jav;by_cases h4:l.length<=4
 ·rw[decide_eq_false (by omega)]at t1
  rw[jak (jgM t1)];cases ha:l.all (okc m)with
  |false=>
   rw[ha]at t2;rw[jby (jdn t2)];rfl
  |true=>
   rw[ha]at t2;rw[jak (jgM t2)];have hx:∀c∈l,OkC m c:=fun c hc=>jjd hm (List.all_eq_true.mp ha c hc);have hf:2 < (l.filter up).length:=by
    simp only[okR,ha,decide_eq_true h4,Bool.true_and,decide_eq_false_iff_not]at h;omega
   have t3:evT (jaa U W P (n + 2)) U (.cmp .gt (.blt .len (.call 1 [] (.cons (.var 0) .nil))) (.lit (.int 2))) [.dat (.str (mk l)),.dat (.int m)]=.ok (true,[.dat (.str (mk l)),.dat (.int m)]):=by
    have hc:=jaS (G:=jaa U W P (n + 2)) (U:=U) (ρ:=[.dat (.str (mk l)),.dat (.int m)]) (es:=.cons (.var 0) .nil) [.str (mk l)] rfl (ji8 (W:=W) (n:=n) hm hx (by omega))
    have hc2:evE (jaa U W P (n + 2)) U (.blt .len (.call 1 [] (.cons (.var 0) .nil))) [.dat (.str (mk l)),.dat (.int m)]=.ok (.dat (.int (((l.filter up).map chD).length:Int)),[.dat (.str (mk l)),.dat (.int m)]):=by
     rw[evE,hc];rfl
    rw[evT,hc2];simp_arith[jrz];rw[decide_eq_true (by omega)]
   rw[jby (jdn t3)];rfl
 ·rw[decide_eq_true (by omega)]at t1
  rw[jby (jdn t1)];rfl
theorem jlw {m:Nat}{t:List Nat}(h1:1<=m)(hm:m<=4)(hl:t.length<=1000)(h:jaA m t=false):CD W (n + 4) 3 [.dat (.str (mk t)),.dat (.int m)]=.err 3:=by
 rw[CD,jat (d:=⟨2,2,jaz⟩) rfl rfl];have fl:fits (mk t).length=true:=jbx (by omega)
 show (evSs (jaa U W P (n + 3)) U W jaz [.dat (.str (mk t)),.dat (.int m)]).bind (jc8 2)=_;have t1:evT (jaa U W P (n + 3)) U (.cmp .lt (.blt .len (.var 0)) (.lit (.int 2))) [.dat (.str (mk t)),.dat (.int m)]=.ok (decide (t.length < 2),[.dat (.str (mk t)),.dat (.int m)]):=by
  simp_arith[fl]
  rw[show decide (((mk t).length:Int) < 2)=decide (t.length < 2)from by rw[ja5];exact decide_eq_decide.mpr (by omega)]
 unfold jaz;rcases t with _ | ⟨a,_ | ⟨b,l⟩⟩
 ·rw[jby (jdn (jkO t1))];rfl
 ·rw[jby (jdn (jkO t1))];rfl
 ·rw[decide_eq_false (by simp)]at t1
  have hl:l.length<=1000:=by simp at hl;omega
  have at0':atC (mk (a::b::l)) 0=.ok (chD a):=by
   unfold atC;rw[if_pos fl];rfl
  have at1':atC (mk (a::b::l)) 1=.ok (chD b):=by
   unfold atC;rw[if_pos fl];rfl
  have t2:evT (jaa U W P (n + 3)) U (.cmp .notin (.idx (.var 0) (.lit (.int 0))) (.lit (.tup [.str "A",.str "B",.str "C"]))) [.dat (.str (mk (a::b::l))),.dat (.int m)]=.ok (!sgB a,[.dat (.str (mk (a::b::l))),.dat (.int m)]):=by
   simp only[evT,evE,jrK,R.bind_ok',jag,jbW,at0',jng]
  have t3:evT (jaa U W P (n + 3)) U (.cmp .ne (.idx (.var 0) (.lit (.int 1))) (.lit (.str "="))) [.dat (.str (mk (a::b::l))),.dat (.int m)]=.ok (!(b == 61),[.dat (.str (mk (a::b::l))),.dat (.int m)]):=by
   have:cmD .ne (chD b) (.str "=")=.ok (!(b == 61)):=by
    show R.ok (!((⟨#[b]⟩:Str) == ⟨#[61]⟩))=_;rw[jpl,show (61 == b)=(b == 61)from Bool.beq_comm]
   simp only[evT,evE,jrK,R.bind_ok',jag,jbW,at1',this]
  cases ha:sgB a with
  |false=>
   rw[ha]at t2;rw[jby (jdn (jjm t1 (jkO t2)))];rfl
  |true=>
   rw[ha]at t2;cases hb:(b == 61)with
   |false=>
    rw[hb]at t3;rw[jby (jdn (jjm t1 (jjm t2 t3)))];rfl
   |true=>
    rw[hb]at t3;have hr:okR m l=false:=by
     simp only[jaA,ha,hb,Bool.true_and]at h;exact h
    have sl:Txt.slice (mk (a::b::l)) (some 2) none=mk l:=jbk (a::b::l) 2 (by simp)
    have e1:evE (jaa U W P (n + 3)) U (.call 2 [] (.cons (.slc (.var 0) (.some (.lit (.int 2))) .none) (.cons (.var 1) .nil))) [.dat (.str (mk (a::b::l))),.dat (.int m)]=.err 3:=by
     refine jb5 [.str (mk l),.int m] ?_ (jni h1 hm hl hr);simp_arith[fl,sl];rfl
    have e0:evE (jaa U W P (n + 3)) U (.idx (.var 0) (.lit (.int 0))) [.dat (.str (mk (a::b::l))),.dat (.int m)]=.ok (.dat (chD a),[.dat (.str (mk (a::b::l))),.dat (.int m)]):=by
     simp only[evE,jrK,R.bind_ok',jag,jbW,at0']
    rw[jak (jgM (jjm t1 (jjm t2 t3)))];rw[jby (jlv (jje e0 e1))];rfl
theorem jpb {m:Nat}{l:List Nat}(hm:m<=4)(h:okR m l=true):OkR m l:=by
 simp only[okR,jr6,decide_eq_true_eq]at h;exact⟨h.1,fun c hc=>jjd hm (List.all_eq_true.mp h.2.1 c hc),h.2.2⟩
theorem jpc {m:Nat}{t:List Nat}(h1:1<=m)(hm:m<=4)(h:jaA m t=true):∃d,CD W (n + 4) 3 [.dat (.str (mk t)),.dat (.int m)]=.ok (.dat d,[.no,.no]):=by
 rcases t with _ | ⟨a,_ | ⟨b,l⟩⟩
 ·cases h
 ·cases h
 ·simp only[jaA,jr6,beq_iff_eq]at h;obtain⟨ha,rfl,hr⟩:=h;refine⟨_,jls (r:=(a,l)) h1 hm ⟨?_,jpb hm hr⟩⟩;simpa[sgB] using ha
theorem jdB {α:Type}{f:D->Rho->R (Option D×Rho)}{h:α->D}{ρ:Rho}{c:Nat}{q:α->Prop}:∀{xs:List α},(∀x∈xs,(q x/\f (h x) ρ=.err c)\/∃d,f (h x) ρ=.ok (some d,ρ))->(∃x∈xs,∀d,f (h x) ρ≠.ok (some d,ρ))->compGo f (xs.map h) ρ=.err c
 |[],_,e=>by obtain⟨x,hx,_⟩:=e;cases hx
 |x::xs,k,e=>by
  rcases k x jrs with ⟨_,k1⟩ | ⟨d,k1⟩
  ·simp only[jrx,compGo,k1,R.bind_err']
  ·have e2:∃y∈xs,∀d,f (h y) ρ≠.ok (some d,ρ):=by
    obtain⟨y,hy,hn⟩:=e;rcases List.mem_cons.mp hy with rfl | hy
    ·exact absurd k1 (hn d)
    ·exact⟨y,hy,hn⟩
   simp only[jrx,compGo,k1,R.bind_ok',jdB (fun y hy=>k y (jrr _ hy)) e2,R.bind_err']
end Law
namespace Law
open PySem L2 DJ Tx
variable {W n:Nat}
noncomputable def jae:List Nat->List (List Nat)
 |[]=>[[]]
 |c::l=>if c=59 then []::jae l else (match jae l with | []=>[[c]] | p::ps=>(c::p)::ps)
theorem jaX (l:List Nat):∃p ps,jae l=p::ps:=by
 cases l with
 |nil=>exact⟨_,_,rfl⟩
 |cons c l=>
  simp only[jae];split
  ·exact⟨_,_,rfl⟩
  ·split <;> exact⟨_,_,rfl⟩
theorem jbL (a b:List Nat):jae (a++59::b)=jae a++jae b:=by
 induction a with
 |nil=>simp[jae]
 |cons c a ih=>
  simp only[List.cons_append,jae,ih];split
  ·rfl
  ·obtain⟨p,ps,e⟩:=jaX a;rw[e];rfl
theorem jbY {a:List Nat}(h:59 ∉ a):jae a=[a]:=by
 induction a with
 |nil=>rfl
 |cons c a ih=>
  have hc:c≠59:=fun z=>h (by simp[z])
  simp only[jae,if_neg hc,ih fun z=>h (jrr _ z)]
theorem jjf (l:List Nat):jl 59 (jae l)=l:=by
 induction l with
 |nil=>rfl
 |cons c l ih=>
  obtain⟨p,ps,e⟩:=jaX l;simp only[jae];rw[e]at ih ⊢;split
  ·rename_i hc;show []++59::jl 59 (p::ps)=_;rw[ih,hc];rfl
  ·cases ps with
   |nil=>simp[jl]at ih ⊢;exact ih
   |cons q ps=>simp[jl]at ih ⊢;exact ih
theorem jjg (l:List Nat):∀p∈jae l,59 ∉ p:=by
 induction l with
 |nil=>intro p hp;simp[jae]at hp;simp[hp]
 |cons c l ih=>
  obtain⟨q,qs,e⟩:=jaX l;intro p hp;simp only[jae]at hp;rw[e]at hp ih;split at hp
  ·rcases List.mem_cons.mp hp with rfl | hp
   ·simp
   ·exact ih p hp
  ·rename_i hc;rcases List.mem_cons.mp hp with rfl | hp
   ·intro z;rcases List.mem_cons.mp z with z | z
    ·exact hc z.symm
    ·exact ih q (by simp) z
   ·exact ih p (jrr _ hp)
theorem jhc (l:List Nat):(jae l).length<=l.length + 1/\∀p∈jae l,p.length<=l.length:=by
 induction l with
 |nil=>simp[jae]
 |cons c l ih=>
  obtain⟨q,qs,e⟩:=jaX l;simp only[jae];rw[e]at ih ⊢;split
  ·refine⟨by have:=ih.1;simp at this ⊢;omega,fun p hp=>?_⟩
   rcases List.mem_cons.mp hp with rfl | hp
   ·simp
   ·have:=ih.2 p hp;simp;omega
  ·refine⟨by have:=ih.1;simp at this ⊢;omega,fun p hp=>?_⟩
   rcases List.mem_cons.mp hp with rfl | hp
   ·have:=ih.2 q (by simp);simp;omega
   ·have:=ih.2 p (jrr _ hp);simp;omega
theorem jhd {l:List Nat}{c:Nat}(hc:c≠59)(h:c∈l):∃p∈jae l,c∈p:=by
 induction l with
 |nil=>cases h
 |cons x l ih=>
  obtain⟨q,qs,e⟩:=jaX l;simp only[jae];rw[e]at ih ⊢;rcases List.mem_cons.mp h with rfl | h
  ·rw[if_neg hc];exact⟨c::q,by simp,by simp⟩
  ·obtain⟨p,hp,hcp⟩:=ih h;split
   ·exact⟨p,jrr _ hp,hcp⟩
   ·rcases List.mem_cons.mp hp with rfl | hp
    ·exact⟨x::p,by simp,jrr _ hcp⟩
    ·exact⟨p,jrr _ hp,hcp⟩
theorem jeM (l:List Nat):Txt.split (mk l) ";"=(jae l).map mk:=by
 have e:mk l=Txt.join ";" ((jae l).map mk):=by
  refine jhJ ?_;have e1:Txt.join ";" ((jae l).map mk)=Str.join ⟨#[59]⟩ ((jae l).map mk):=StrLaws.glued_eq_join _ _;rw[e1,jcK,List.map_map];have e2:(jae l).map ((fun x:Str=>x.cps.toList) ∘ mk)=jae l:=by
   rw[show ((fun x:Str=>x.cps.toList) ∘ mk)=id from rfl,List.map_id]
  rw[e2,jjf]
 rw[e];obtain⟨p,ps,ep⟩:=jaX l;refine jds (c:=59) (by rw[ep];simp) fun s hs=>?_
 obtain⟨q,hq,rfl⟩:=List.mem_map.mp hs;exact jjg l q hq
theorem jbs {α:Type}(x:List Nat)(f:α->List Nat):∀(rs:List α),59 ∉ x->(∀r∈rs,59 ∉ f r)->jae (x++rs.flatMap fun r=>59::f r)=x::rs.map f:=by
 intro rs;induction rs generalizing x with
 |nil=>intro hx _;simp[jbY hx]
 |cons r rs ih=>
  intro hx hf;rw[List.flatMap_cons,List.cons_append,jbL,jbY hx,ih (f r) (hf r (by simp)) fun q hq=>hf q (jrr _ hq)]
  rfl
noncomputable def mans:List (List Nat):=[[49],[50],[51],[52]]
noncomputable def jjh (ps:List (List Nat)):Prop:=∃p0 rest,ps=p0::rest/\(p0 ∉ mans\/rest.length=0\/8 < rest.length\/∃t∈rest,∀m:Nat,1<=m->m<=4->p0=[48 + m]->jaA m t=false)
theorem jgm (a b:List Nat):((mk a:Str) == mk b)=(a == b):=by
 by_cases h:a=b
 ·simp[h]
 ·have h2:mk a≠mk b:=fun z=>h (by
   have:=congrArg (fun s:Str=>s.cps.toList) z;exact this)
  rw[beq_eq_false_iff_ne.mpr h2,beq_eq_false_iff_ne.mpr h]
theorem jnj (p:List Nat):cmD .notin (.str (mk p)) (.tup [.str "1",.str "2",.str "3",.str "4"])=.ok (!mans.contains p):=by
 show R.ok (!((mk [49]:Str) == mk p || ((mk [50]:Str) == mk p || ((mk [51]:Str) == mk p || ((mk [52]:Str) == mk p || false)))))=_;rw[jgm,jgm,jgm,jgm,Bool.or_false];simp only[mans,List.contains_cons,List.contains_nil,Bool.or_false];rw[show (([49]:List Nat) == p)=(p == [49])from Bool.beq_comm,show (([50]:List Nat) == p)=(p == [50])from Bool.beq_comm,show (([51]:List Nat) == p)=(p == [51])from Bool.beq_comm,show (([52]:List Nat) == p)=(p == [52])from Bool.beq_comm]
theorem jpd {l:List Nat}(hl:l.length<=900)(h:jjh (jae l)):CD W (n + 5) 4 [.dat (.str (mk l))]=.err 3:=by
 obtain⟨p0,rest,ep,hb⟩:=h;obtain⟨pl1,pl2⟩:=jhc l;rw[ep]at pl1 pl2;rw[CD,jat (d:=⟨1,3,jao⟩) rfl rfl];have sp:smD .splt (mk l) (.str ";")=.ok (.tmp (.l (D.str (mk p0)::rest.map fun t=>D.str (mk t)))):=by
  rw[jfp,jeM,ep,if_pos]
  ·simp
  ·have l1:fits (mk l).length=true:=jbx (by omega)
   have l2:fits ((p0::rest).map mk).length=true:=jba (by rw[jrz];omega)
   rw[l1,l2];rfl
 generalize hps:(D.str (mk p0)::rest.map fun t=>D.str (mk t))=ps at sp;have i0:jfP (.lst ps) (.int 0)=.ok (.str (mk p0)):=by rw[<-hps];rfl
 have pl:ps.length=rest.length + 1:=by rw[<-hps];simp
 have pc:cut ps (some 1) none=rest.map fun t=>D.str (mk t):=by
  rw[show (some 1:Option Int)=some ((1:Nat):Int)from rfl,jgi,<-hps];rfl
 let st:Rho:=[.dat (.str (mk l)),.own (.l ps) false false,.no]
 have t1:evT (jaa U W P (n + 4)) U (.cmp .notin (.idx (.var 1) (.lit (.int 0))) (.lit (.tup [.str "1",.str "2",.str "3",.str "4"]))) st=.ok (!mans.contains p0,st):=by
  simp only[st,evT,evE,jrK,jrL,R.bind_ok',jbm,jag,jcZ,i0,jnj]
 have t2:evT (jaa U W P (n + 4)) U (.cmp .lt (.blt .len (.var 1)) (.lit (.int 2))) st=.ok (decide (rest.length=0),st):=by
  simp_arith[st]
  rw[show decide ((ps.length:Int) < 2)=decide (rest.length=0)from decide_eq_decide.mpr (by omega)]
 have t3:evT (jaa U W P (n + 4)) U (.cmp .gt (.blt .len (.var 1)) (.bin .add (.lit (.int 8)) (.lit (.int 1)))) st=.ok (decide (8 < rest.length),st):=by
  simp_arith[st]
  rw[show decide ((8:Int) + 1 < (ps.length:Int))=decide (8 < rest.length)from decide_eq_decide.mpr (by omega)]
 show (evSs (jaa U W P (n + 4)) U W jao [.dat (.str (mk l)),.no,.no]).bind (jc8 1)=_;unfold jao;rw[jak (jkw (jo9 rfl rfl rfl sp) (by simp))]
 show (evSs (jaa U W P (n + 4)) U W _ st).bind (jc8 1)=_;cases hm:mans.contains p0 with
 |false=>
  rw[hm]at t1;rw[jby (jdn t1)];rfl
 |true=>
  rw[hm]at t1;rw[jak (jgM t1)];have hm':p0∈mans:=List.contains_iff_mem.mp hm;obtain⟨m,h1,h4,e0⟩:∃m:Nat,1<=m/\m<=4/\p0=[48 + m]:=by
   simp only[mans,jrt,jrQ,or_false]at hm';rcases hm' with rfl | rfl | rfl | rfl
   ·exact⟨1,by omega,by omega,rfl⟩
   ·exact⟨2,by omega,by omega,rfl⟩
   ·exact⟨3,by omega,by omega,rfl⟩
   ·exact⟨4,by omega,by omega,rfl⟩
  by_cases hr0:rest.length=0
  ·rw[decide_eq_true hr0]at t2;rw[jby (jdn (jkO t2))];rfl
  ·rw[decide_eq_false hr0]at t2;by_cases hr8:8 < rest.length
   ·rw[decide_eq_true hr8]at t3;rw[jby (jdn (jjm t2 t3))];rfl
   ·rw[decide_eq_false hr8]at t3;rw[jak (jgM (jjm t2 t3))];subst e0;let st2:Rho:=[.dat (.str (mk l)),.own (.l ps) false false,.dat (.int m)];rw[jak (ρ':=st2) (by simp only[st,evS,evE,jrK,jrL,R.bind_ok',jbm,jag,jcZ,i0,jlt h1 h4,jdV];rfl)]
    have hbad:∃t∈rest,jaA m t=false:=by
     rcases hb with hb | hb | hb | ⟨t,ht,hb⟩
     ·exact absurd hm' hb
     ·exact absurd hb hr0
     ·exact absurd hb hr8
     ·exact⟨t,ht,hb m h1 h4 rfl⟩
    have item:∀t∈rest,(jaA m t=false/\CD W (n + 4) 3 [.dat (.str (mk t)),.dat (.int m)]=.err 3)\/∃d,CD W (n + 4) 3 [.dat (.str (mk t)),.dat (.int m)]=.ok (.dat d,[.no,.no]):=fun t ht=>by
     cases ho:jaA m t with
     |false=>exact .inl ⟨rfl,jlw h1 h4 (jr4 (pl2 t (jrr _ ht)) (by omega)) ho⟩
     |true=>exact .inr (jpc h1 h4 ho)
    have ec:evE (jaa U W P (n + 4)) U jar st2=.err 3:=by
     have ei:evI (jaa U W P (n + 4)) U (.seq (.slc (.var 1) (.some (.lit (.int 1))) .none)) st2=.ok (rest.map fun t=>D.str (mk t),[],st2):=by
      simp only[st2];simp_arith[pc]
     unfold jar;rw[evE,ei];simp only[R.bind_ok'];rw[jdB (c:=3) (q:=fun t=>jaA m t=false) (h:=fun t:List Nat=>D.str (mk t)) (xs:=rest)]
     ·rfl
     ·intro t ht;have ep:putT [0] true (D.str (mk t)) (jdf 1 [2] st2)=.ok [.dat (.str (mk t)),.dat (.int m)]:=rfl;rcases item t ht with ⟨ho,hx⟩ | ⟨d,hx⟩
      ·refine .inl ⟨ho,?_⟩;have:=jb5 (G:=jaa U W P (n + 4)) (U:=U) (ρ:=[.dat (.str (mk t)),.dat (.int m)]) (es:=.cons (.var 0) (.cons (.var 1) .nil)) [.str (mk t),.int m] rfl hx;simp only[ep,R.bind_ok',this,R.bind_err']
      ·refine .inr ⟨d,?_⟩;have:=jaS (G:=jaa U W P (n + 4)) (U:=U) (ρ:=[.dat (.str (mk t)),.dat (.int m)]) (es:=.cons (.var 0) (.cons (.var 1) .nil)) [.str (mk t),.int m] rfl hx;simp only[ep,R.bind_ok',this,jcn];rfl
     ·obtain⟨t,ht,ho⟩:=hbad;refine⟨t,ht,fun d z=>?_⟩;have ep:putT [0] true (D.str (mk t)) (jdf 1 [2] st2)=.ok [.dat (.str (mk t)),.dat (.int m)]:=rfl;have:=jb5 (G:=jaa U W P (n + 4)) (U:=U) (ρ:=[.dat (.str (mk t)),.dat (.int m)]) (es:=.cons (.var 0) (.cons (.var 1) .nil)) [.str (mk t),.int m] rfl (jlw h1 h4 (jr4 (pl2 t (jrr _ ht)) (by omega)) ho)
      simp only[ep,R.bind_ok',this,R.bind_err']at z;cases z
    have e2:evE (jaa U W P (n + 4)) U (.var 2) st2=.ok (.dat (.int m),st2):=rfl;have et:evE (jaa U W P (n + 4)) U (.blt .tuple jar) st2=.err 3:=by
     rw[evE,ec];rfl
    rw[jby (jlv (jje e2 et))];rfl
end Law
namespace Law
open PySem L2 DJ Tx
variable {W n:Nat}
noncomputable def jqr (c:Nat):Bool:=[49,50,51,52,59,61,65,66,67,97,98,99,100].contains c
theorem jkP {m c:Nat}(hm:m<=4)(h:okc m c=true):jqr c=true:=by
 rcases ok7 hm (jjd hm h)with (rfl | rfl | rfl) | (rfl | rfl | rfl | rfl) <;> rfl
theorem jfB {m:Nat}{t:List Nat}(hm:m<=4)(h:jaA m t=true):∀c∈t,jqr c=true:=by
 rcases t with _ | ⟨a,_ | ⟨b,l⟩⟩
 ·cases h
 ·cases h
 ·simp only[jaA,okR,jr6,beq_iff_eq]at h;obtain⟨ha,rfl,_,hl,_⟩:=h;intro c hc;rcases List.mem_cons.mp hc with rfl | hc
  ·simp only[sgB,Bool.or_eq_true,beq_iff_eq]at ha;rcases ha with rfl | rfl | rfl <;> rfl
  ·rcases List.mem_cons.mp hc with rfl | hc
   ·rfl
   ·exact jkP hm (List.all_eq_true.mp hl c hc)
theorem jbt {l:List Nat}{c:Nat}(hc:c∈l)(h:jqr c=false):jjh (jae l):=by
 have h59:c≠59:=fun z=>by rw[z]at h;cases h
 obtain⟨p,hp,hcp⟩:=jhd h59 hc;obtain⟨p0,rest,e⟩:=jaX l;refine⟨p0,rest,e,?_⟩;rw[e]at hp;rcases List.mem_cons.mp hp with rfl | hp
 ·refine .inl fun z=>?_;simp only[mans,jrt,jrQ,or_false]at z;rcases z with rfl | rfl | rfl | rfl <;> (have:c=_:=List.mem_singleton.mp hcp;rw[this]at h;cases h)
 ·refine .inr (.inr (.inr ⟨p,hp,fun m h1 h4 _=>?_⟩));cases ho:jaA m p with
  |false=>rfl
  |true=>rw[jfB h4 ho c hcp]at h;cases h
theorem jd5 {l:List Nat}(h:[]∈jae l):jjh (jae l):=by
 obtain⟨p0,rest,e⟩:=jaX l;refine⟨p0,rest,e,?_⟩;rw[e]at h;rcases List.mem_cons.mp h with h | h
 ·exact .inl (by rw[<-h];decide)
 ·exact .inr (.inr (.inr ⟨[],h,fun m _ _ _=>rfl⟩))
theorem jkQ {m:Nat}{ws:List (List Nat)}{t:List Nat}(hm:m<=4)(hf:∀w∈ws,59 ∉ w)(ht:t∈ws)(h:jaA m t=false):jjh (jae ((48 + m)::ws.flatMap fun w=>59::w)):=by
 have e:=jbs [48 + m] (fun w:List Nat=>w) ws (by intro z;have:=List.mem_singleton.mp z;omega) hf
 rw[List.map_id']at e;have e:jae ((48 + m)::ws.flatMap fun w=>59::w)=[48 + m]::ws:=e;refine⟨_,_,e,.inr (.inr (.inr ⟨t,ht,fun m' h1 h4 q=>?_⟩))⟩;have:48 + m=48 + m':=by injection q
 have:m'=m:=by omega
 rw[this];exact h
theorem jfC {m c:Nat}{l:List Nat}(hc:c∈l)(h:okc m c=false):okR m l=false:=by
 have:l.all (okc m)=false:=by
  cases e:l.all (okc m)with
  |false=>rfl
  |true=>rw[List.all_eq_true.mp e c hc]at h;cases h
 simp[okR,this]
theorem jeN (l:List Nat)(lo hi:Option Int):∃t,Txt.slice (mk l) lo hi=mk t/\(∀c∈t,c∈l)/\t.length<=l.length:=by
 refine⟨(Txt.slice (mk l) lo hi).cps.toList,jhJ rfl,?_,?_⟩
 ·unfold Txt.slice;split
  ·exact fun c hc=>hc
  ·intro c hc;have hc:c∈(Builtin.Str.strSliceIndices lo hi 1 (mk l).length).filterMap ((mk l).cps[·]?):=by simpa using hc
   obtain⟨i,_,hi⟩:=List.mem_filterMap.mp hc;have:l[i]?=some c:=by simpa using hi
   exact jrD this
 ·have:=Txt.slice_le (mk l) lo hi;rw[ja5]at this;exact this
section
variable {G:Calls}{U:Nat->Nat->Bool}{W:Nat}{ρ ρ1 ρ2:Rho}{a b:E}
theorem jay {d:D}:evE G U (.lit d) ρ=.ok (.dat d,ρ):=by rw[evE]
theorem jaB {i:Nat}{d:D}(h:ρ[i]?=some (.dat d)):evE G U (.var i) ρ=.ok (.dat d,ρ):=by rw[evE,h]
theorem jaN {o:Op}{v:Vl}{x y:D}(ha:evE G U a ρ=.ok (.dat x,ρ1))(hb:evE G U b ρ1=.ok (.dat y,ρ2))(h:opD o x y=.ok v):evE G U (.bin o a b) ρ=.ok (v,ρ2):=by
 rw[evE,ha];simp only[R.bind_ok'];rw[hb];simp only[R.bind_ok',jag,h]
theorem jnk {d x y:D}(ha:evE G U a ρ=.ok (.dat x,ρ1))(hb:evE G U b ρ1=.ok (.dat y,ρ2))(h:jfP x y=.ok d):evE G U (.idx a b) ρ=.ok (.dat d,ρ2):=by
 rw[evE,ha];simp only[R.bind_ok'];rw[hb];simp only[R.bind_ok',jag,h]
theorem jbi {x y z:List Nat}(ha:evE G U a ρ=.ok (.dat (.str (mk x)),ρ1))(hb:evE G U b ρ1=.ok (.dat (.str (mk y)),ρ2))(h:x.length + y.length<=10000):evE G U (.bin .add a b) ρ=.ok (.dat (.str (mk (x++y))),ρ2):=
 jaN ha hb (by rw[jgh,if_pos (jba (by rw[ja5,ja5];omega)),jhM])
theorem jdC {es:Es}{xs:List Str}{i:Int}{x:Str}(h1:evEs G U es ρ=.ok (xs.map D.str,ρ))(hf:xs.length<=100)(h2:evE G U b ρ=.ok (.dat (.int i),ρ))(h3:DJ.atI (xs.map D.str) i=.ok (.str x)):evE G U (.idx (.lst es) b) ρ=.ok (.dat (.str x),ρ):=by
 have hl:evE G U (.lst es) ρ=.ok (.tmp (.l (xs.map D.str)),ρ):=by
  rw[evE,h1];simp only[R.bind_ok'];rw[if_pos (jba (by rw[jrz];omega))]
 rw[evE,hl];simp only[R.bind_ok'];rw[h2];simp only[R.bind_ok',ja9,jag,jcZ,jiV,h3]
theorem jhe {l:List Nat}{lo hi:Oe}{p q:Option Int}{t:List Nat}(ha:evE G U a ρ=.ok (.dat (.str (mk l)),ρ))(hl:l.length<=10000)(h1:evO G U lo ρ=.ok (p,ρ))(h2:evO G U hi ρ=.ok (q,ρ))(h3:Txt.slice (mk l) p q=mk t):evE G U (.slc a lo hi) ρ=.ok (.dat (.str (mk t)),ρ):=by
 rw[evE,ha];simp only[R.bind_ok'];rw[h1];simp only[R.bind_ok'];rw[h2];simp only[R.bind_ok',jag,jiZ,jbx (l:=l) (by omega),if_true,h3]
theorem jc6 {i:Int}(h:evE G U a ρ=.ok (.dat (.int i),ρ)):evO G U (.some a) ρ=.ok (some i,ρ):=by
 rw[evO,h];rfl
theorem jeO:evO G U .none ρ=.ok (none,ρ):=by rw[evO]
end
theorem jbe (a:Int)(k:Int)(h:0 < k):opD .mod (.int a) (.int k)=.ok (.dat (.int (a % k))):=by rw[jb6,if_pos h]
theorem jca (a:Int)(k:Int)(h:0 < k)(h2:k < 2 ^ 64):opD .fdiv (.int a) (.int k)=.ok (.dat (.int (a / k))):=by rw[jez,if_pos ⟨h,h2⟩]
theorem jnl {xs:List Str}{i:Int}(h0:0<=i)(h1:i < xs.length):∃x∈xs,DJ.atI (xs.map D.str) i=.ok (.str x):=by
 obtain⟨k,rfl⟩:=Int.eq_ofNat_of_zero_le h0;have hk:k < xs.length:=by omega
 refine⟨xs[k],List.getElem_mem hk,jp9 ?_⟩;rw[jrw,jrq hk];rfl
theorem jcb (xs:List Str)(a:Int)(h:0 < xs.length):∃x∈xs,DJ.atI (xs.map D.str) (a % (xs.length:Int))=.ok (.str x):=
 jnl (Int.emod_nonneg _ (by omega)) (Int.emod_lt_of_pos _ (by omega))
end Law
namespace Law
open PySem L2 DJ Tx
variable {W n:Nat}
theorem jfD {G:Calls}{U:Nat->Nat->Bool}{W:Nat}{ρ:Rho}{c:E}{b:Bool}{a:Ss}(h:evT G U c ρ=.ok (b,ρ)):evS G U W (.ife c a .nil) ρ=if b then evSs G U W a ρ else .ok (.nx ρ):=by
 simp only[evS,h,R.bind_ok'];cases b <;> rfl
theorem jnx {G:Calls}{U:Nat->Nat->Bool}{ρ:Rho}{i:Nat}{x k:Int}(h:ρ[i]?=some (.dat (.int x))):evT G U (.cmp .eq (.var i) (.lit (.int k))) ρ=.ok (x == k,ρ):=by
 simp_arith[h]
theorem jnm {m:Nat}(h1:1<=m)(hm:m < 4):okc m (97 + m)=false:=by
 have:m=1\/m=2\/m=3:=by omega
 rcases this with rfl | rfl | rfl <;> decide
theorem jd6 {m:Nat}{l:List Nat}(hm:m<=4)(h:OkR m l):59 ∉ l:=fun z=>by
 rcases ok7 hm (h.all _ z)with e | e <;> omega
theorem jfE {m:Nat}{l:List Nat}{cell:Int}(h1:1<=m)(hm:m<=4)(h:OkR m l):∃t,okR m t=false/\59 ∉ t/\t.length<=20/\CD W (n + 1) 9 [.dat (.str (mk l)),.dat (.int m),.dat (.int cell)]=.ok (.dat (.str (mk t)),[.no,.no,.no]):=by
 rw[CD,jat (d:=⟨3,6,jaj⟩) rfl rfl];have hl:=h.len;have fl:fits (mk l).length=true:=jbx (by omega)
 let at_:Int:=cell / 7 % ((l.length:Int) + 1)
 let way:Int:=cell % 7
 have ha0:0<=at_:=Int.emod_nonneg _ (by omega)
 let st (s5:Sl):Rho:=[.dat (.str (mk l)),.dat (.int m),.dat (.int cell),.dat (.int at_),.dat (.int way),s5]
 have go:(evSs (jaa U W P n) U W jaj [.dat (.str (mk l)),.dat (.int m),.dat (.int cell),.no,.no,.no])=(evSs (jaa U W P n) U W (match jaj with | .cons _ (.cons _ r)=>r | _=>.nil) (st .no)):=by
  unfold jaj;have p1:(0:Int) < (l.length:Int) + 1:=by omega
  have e2:evE (jaa U W P n) U (.bin .add (.blt .len (.var 0)) (.lit (.int 1))) [.dat (.str (mk l)),.dat (.int m),.dat (.int cell),.no,.no,.no]=.ok (.dat (.int ((l.length:Int) + 1)),[.dat (.str (mk l)),.dat (.int m),.dat (.int cell),.no,.no,.no]):=by
   simp_arith[fl]
   rw[ja5]
  have e3:evE (jaa U W P n) U (.bin .mod (.bin .fdiv (.var 2) (.lit (.int 7))) (.bin .add (.blt .len (.var 0)) (.lit (.int 1)))) [.dat (.str (mk l)),.dat (.int m),.dat (.int cell),.no,.no,.no]=.ok (.dat (.int at_),[.dat (.str (mk l)),.dat (.int m),.dat (.int cell),.no,.no,.no]):=
   jaN (jaN (jaB rfl) jay (jca cell 7 (by decide) (by decide))) e2 (jbe _ _ p1)
  rw[jak (jdU e3 (by simp))]
  show evSs (jaa U W P n) U W _ [.dat (.str (mk l)),.dat (.int m),.dat (.int cell),.dat (.int at_),.no,.no]=_;rw[jak (ρ':=st .no) (jdU (jaN (jaB rfl) jay (jbe cell 7 (by decide))) (by simp))]
 have mn:∀s5,evE (jaa U W P n) U (.min2 (.var 3) (.lit (.int 3))) (st s5)=.ok (.dat (.int (if 3 < at_ then 3 else at_)),st s5):=fun s5=>rfl;obtain⟨u,su,uu,ul⟩:=jeN l none (some (if 3 < at_ then 3 else at_));obtain⟨v,sv,vv,vl⟩:=jeN l (some (if 3 < at_ then 3 else at_)) (some 3);have eu:∀s5,evE (jaa U W P n) U (.slc (.var 0) .none (.some (.min2 (.var 3) (.lit (.int 3))))) (st s5)=.ok (.dat (.str (mk u)),st s5):=fun s5=>jhe (jaB rfl) (by omega) jeO (jc6 (mn s5)) su
 have ev:∀s5,evE (jaa U W P n) U (.slc (.var 0) (.some (.min2 (.var 3) (.lit (.int 3)))) (.some (.lit (.int 3)))) (st s5)=.ok (.dat (.str (mk v)),st s5):=fun s5=>jhe (jaB rfl) (by omega) (jc6 (mn s5)) (jc6 jay) sv
 have mid:∀{c:Nat},c≠59->okc m c=false->okR m (u++[c]++v)=false/\59 ∉ u++[c]++v/\(u++[c]++v).length<=20:=fun {c} hc ho=>by
  refine⟨jfC (c:=c) (by simp) ho,fun z=>?_,by simp;omega⟩
  rcases List.mem_append.mp z with z | z
  ·rcases List.mem_append.mp z with z | z
   ·exact jd6 hm h (uu _ z)
   ·exact hc (List.mem_singleton.mp z).symm
  ·exact jd6 hm h (vv _ z)
 show ∃t,okR m t=false/\59 ∉ t/\t.length<=20/\(evSs (jaa U W P n) U W jaj [.dat (.str (mk l)),.dat (.int m),.dat (.int cell),.no,.no,.no]).bind (jc8 3)=_;rw[go];unfold jaj;dsimp only;have w0:=jfD (W:=W) (a:=.cons (.ret (.bin .mul (.lit (.str "a")) (.lit (.int 5)))) .nil) (jnx (G:=jaa U W P n) (U:=U) (ρ:=st .no) (i:=4) (x:=way) (k:=0) rfl);cases hw0:(way == 0)with
 |true=>
  rw[hw0,if_pos rfl]at w0;refine⟨[97,97,97,97,97],by simp[okR],by decide,by decide,?_⟩
  rw[jbF (v:=.dat (.str (mk [97,97,97,97,97]))) (ρ':=st .no) (by
   rw[w0,jbF (jcY (jaN jay jay (show opD .mul (.str "a") (.int 5)=.ok (.dat (.str (mk [97,97,97,97,97])))from by
    show (if 0<=(5:Int)/\(5:Int)<=1000/\("a":Str).length<=1000 then R.ok (Vl.dat (.str (Txt.mul "a" 5)))else .stk)=_;rw[if_pos ⟨by decide,by decide,by decide +kernel⟩,show Txt.mul "a" 5=mk [97,97,97,97,97] from by decide +kernel])))])]
  rfl
 |false=>
  rw[hw0,if_neg (by decide)]at w0
  rw[jak w0];have w1:=jfD (W:=W) (a:=.cons (.ret (.idx (.lst (.cons (.lit (.str "CBA")) (.cons (.lit (.str "AAA")) (.cons (.lit (.str "BaBB")) (.cons (.lit (.str "CCBa")) .nil))))) (.bin .mod (.bin .fdiv (.var 2) (.lit (.int 70))) (.lit (.int 4))))) .nil) (jnx (G:=jaa U W P n) (U:=U) (ρ:=st .no) (i:=4) (x:=way) (k:=1) rfl);cases hw1:(way == 1)with
  |true=>
   rw[hw1,if_pos rfl]at w1;obtain⟨x,hx,hat⟩:=jcb ["CBA","AAA","BaBB","CCBa"] (cell / 70) (by decide)
   have key:∃t,x=mk t/\okR m t=false/\59 ∉ t/\t.length<=20:=by
    simp only[jrt,jrQ,or_false]at hx;rcases hx with rfl | rfl | rfl | rfl
    ·exact⟨[67,66,65],by decide +kernel,by simp[okR,up],by decide,by decide⟩
    ·exact⟨[65,65,65],by decide +kernel,by simp[okR,up],by decide,by decide⟩
    ·exact⟨[66,97,66,66],by decide +kernel,by simp[okR,up],by decide,by decide⟩
    ·exact⟨[67,67,66,97],by decide +kernel,by simp[okR,up],by decide,by decide⟩
   obtain⟨t,rfl,k1,k2,k3⟩:=key;refine⟨t,k1,k2,k3,?_⟩;rw[jbF (v:=.dat (.str (mk t))) (ρ':=st .no) (by
    rw[w1,jbF (jcY (jdC (xs:=["CBA","AAA","BaBB","CCBa"]) rfl (by decide) (jaN (jaN (jaB rfl) jay (jca cell 70 (by decide) (by decide))) jay (jbe (cell / 70) 4 (by decide))) hat))])]
   rfl
  |false=>
   rw[hw1,if_neg (by decide)]at w1
   rw[jak w1];have t2:evT (jaa U W P n) U (.and (.cmp .eq (.var 4) (.lit (.int 2))) (.cmp .lt (.var 1) (.lit (.int 4)))) (st .no)=.ok (way == 2 && decide (m < 4),st .no):=by
    cases hw2:(way == 2)with
    |false=>simp_arith[st,hw2];rfl
    |true=>
     simp_arith[st,hw2]
     rw[show decide ((m:Int) < 4)=decide (m < 4)from decide_eq_decide.mpr (by omega)]
     rfl
   have w2:=jfD (W:=W) (a:=.cons (.ret (.bin .add (.bin .add (.slc (.var 0) .none (.some (.min2 (.var 3) (.lit (.int 3))))) (.idx (.lit (.str "bcd")) (.bin .sub (.var 1) (.lit (.int 1))))) (.slc (.var 0) (.some (.min2 (.var 3) (.lit (.int 3)))) (.some (.lit (.int 3)))))) .nil) t2;cases hw2:(way == 2 && decide (m < 4))with
   |true=>
    rw[hw2,if_pos rfl]at w2;have hm4:m < 4:=by
     simp only[jr6,decide_eq_true_eq]at hw2;exact hw2.2
    obtain⟨k1,k2,k3⟩:=mid (c:=97 + m) (by omega) (jnm h1 hm4)
    have eb:atC "bcd" ((m:Int) - 1)=.ok (.str (mk [97 + m])):=by
     have:m=1\/m=2\/m=3:=by omega
     rcases this with rfl | rfl | rfl <;> rfl
    refine⟨_,k1,k2,k3,?_⟩;rw[jbF (v:=.dat (.str (mk (u++[97 + m]++v)))) (ρ':=st .no) (by
     rw[w2,jbF (jcY (jbi (z:=[]) (jbi (z:=[]) (eu .no) (jnk jay (jaN (jaB rfl) jay jgg) (show jfP (.str "bcd") (.int ((m:Int) - 1))=.ok (.str (mk [97 + m]))from eb)) (by simp;omega)) (ev .no) (by simp;omega)))])]
    rfl
   |false=>
    rw[hw2,if_neg (by decide)]at w2
    rw[jak w2];obtain⟨x,hx,hat⟩:=jcb ["e","0","D","+",",","_","=","Z","-","(",".","z"] (cell / 70) (by decide)
    have key:∃c,x=mk [c]/\okc m c=false/\c≠59:=by
     have hno:∀c:Nat,c∈[101,48,68,43,44,95,61,90,45,40,46,122]->okc m c=false:=fun c hc=>by
      have:m=1\/m=2\/m=3\/m=4:=by omega
      simp only[jrt,jrQ,or_false]at hc;rcases this with rfl | rfl | rfl | rfl <;> rcases hc with rfl | rfl | rfl | rfl | rfl | rfl | rfl | rfl | rfl | rfl | rfl | rfl <;> decide
     simp only[jrt,jrQ,or_false]at hx;rcases hx with rfl | rfl | rfl | rfl | rfl | rfl | rfl | rfl | rfl | rfl | rfl | rfl
     ·exact⟨101,by decide +kernel,hno _ (by decide),by decide⟩
     ·exact⟨48,by decide +kernel,hno _ (by decide),by decide⟩
     ·exact⟨68,by decide +kernel,hno _ (by decide),by decide⟩
     ·exact⟨43,by decide +kernel,hno _ (by decide),by decide⟩
     ·exact⟨44,by decide +kernel,hno _ (by decide),by decide⟩
     ·exact⟨95,by decide +kernel,hno _ (by decide),by decide⟩
     ·exact⟨61,by decide +kernel,hno _ (by decide),by decide⟩
     ·exact⟨90,by decide +kernel,hno _ (by decide),by decide⟩
     ·exact⟨45,by decide +kernel,hno _ (by decide),by decide⟩
     ·exact⟨40,by decide +kernel,hno _ (by decide),by decide⟩
     ·exact⟨46,by decide +kernel,hno _ (by decide),by decide⟩
     ·exact⟨122,by decide +kernel,hno _ (by decide),by decide⟩
    obtain⟨c,rfl,ho,hc⟩:=key;obtain⟨k1,k2,k3⟩:=mid hc ho;refine⟨_,k1,k2,k3,?_⟩;rw[jak (ρ':=st (.dat (.str (mk [c])))) (jdU (jdC (xs:=["e","0","D","+",",","_","=","Z","-","(",".","z"]) rfl (by decide) (jaN (jaN (jaB rfl) jay (jca cell 70 (by decide) (by decide))) jay (jbe (cell / 70) 12 (by decide))) hat) (by simp[st]))]
    rw[jbF (jcY (jbi (z:=[]) (jbi (z:=[]) (eu _) (jaB rfl) (by simp;omega)) (ev _) (by simp;omega)))]
    rfl
end Law
namespace Law
open PySem L2 DJ Tx
variable {W n:Nat}
theorem jbf {m a:Nat}{l:List Nat}(h:sgB a=false):jaA m (a::l)=false:=by
 cases l with
 |nil=>rfl
 |cons b l=>simp[jaA,h]
theorem ja4 {m a b:Nat}{l:List Nat}(h:(b == 61)=false):jaA m (a::b::l)=false:=by simp[jaA,h]
theorem jbZ {m a:Nat}{l:List Nat}(h:okR m l=false):jaA m (a::61::l)=false:=by simp[jaA,h]
theorem jlx {m:Nat}(h1:1<=m)(hm:m<=4):okc m 61=false:=by
 have:m=1\/m=2\/m=3\/m=4:=by omega
 rcases this with rfl | rfl | rfl | rfl <;> decide
theorem jhf {m:Nat}{r:Rl}{cell:Int}(h1:1<=m)(hm:m<=4)(h:OkRl m r):∃t,jaA m t=false/\59 ∉ t/\t.length<=30/\CD W (n + 2) 10 [.dat (rD r),.dat (.int m),.dat (.int cell)]=.ok (.dat (.str (mk t)),[.no,.no,.no]):=by
 rw[CD,jat (d:=⟨3,6,jam⟩) rfl rfl];obtain⟨c,l⟩:=r;have hs:c=65\/c=66\/c=67:=h.sg;have hr:OkR m l:=h.rt;have hl:=hr.len;have fr:59 ∉ l:=jd6 hm hr;have c59:c≠59:=by omega
 let way:Int:=cell % 4
 let st:Rho:=[.dat (rD (c,l)),.dat (.int m),.dat (.int cell),.dat (.str (mk [c])),.dat (.str (mk l)),.dat (.int way)]
 have go:(evSs (jaa U W P (n + 1)) U W jam [.dat (rD (c,l)),.dat (.int m),.dat (.int cell),.no,.no,.no])=(evSs (jaa U W P (n + 1)) U W (match jam with | .cons _ (.cons _ r)=>r | _=>.nil) st):=by
  unfold jam;rw[jak (ρ':=[.dat (rD (c,l)),.dat (.int m),.dat (.int cell),.dat (.str (mk [c])),.dat (.str (mk l)),.no]) rfl];have e3:evE (jaa U W P (n + 1)) U (.bin .mod (.var 2) (.lit (.int 4))) [.dat (rD (c,l)),.dat (.int m),.dat (.int cell),.dat (.str (mk [c])),.dat (.str (mk l)),.no]=.ok (.dat (.int way),[.dat (rD (c,l)),.dat (.int m),.dat (.int cell),.dat (.str (mk [c])),.dat (.str (mk l)),.no]):=jaN (jaB rfl) jay (jbe cell 4 (by decide))
  rw[jak (jdU e3 (by simp))]
  rfl
 show ∃t,jaA m t=false/\59 ∉ t/\t.length<=30/\(evSs (jaa U W P (n + 1)) U W jam [.dat (rD (c,l)),.dat (.int m),.dat (.int cell),.no,.no,.no]).bind (jc8 3)=_;rw[go];unfold jam;dsimp only;have lit61:evE (jaa U W P (n + 1)) U (.lit (.str "=")) st=.ok (.dat (.str (mk [61])),st):=jay;have v4:evE (jaa U W P (n + 1)) U (.var 4) st=.ok (.dat (.str (mk l)),st):=jaB rfl;have v3:evE (jaa U W P (n + 1)) U (.var 3) st=.ok (.dat (.str (mk [c])),st):=jaB rfl;have w0:=jfD (W:=W) (a:=.cons (.ret (.bin .add (.bin .add (.idx (.lst (.cons (.lit (.str "D")) (.cons (.lit (.str "a")) (.cons (.lit (.str "")) (.cons (.lit (.str "AB")) (.cons (.lit (.str "1")) (.cons (.lit (.str "=")) (.cons (.lit (.str "A ")) (.cons (.lit (.str "CBA")) .nil))))))))) (.bin .mod (.bin .fdiv (.var 2) (.lit (.int 4))) (.lit (.int 8)))) (.lit (.str "="))) (.var 4))) .nil) (jnx (G:=jaa U W P (n + 1)) (U:=U) (ρ:=st) (i:=5) (x:=way) (k:=0) rfl);cases hw0:(way == 0)with
 |true=>
  rw[hw0,if_pos rfl]at w0;obtain⟨x,hx,hat⟩:=jcb ["D","a","","AB","1","=","A ","CBA"] (cell / 4) (by decide)
  have key:∃t,x=mk t/\jaA m (t++[61]++l)=false/\59 ∉ t/\t.length<=3:=by
   simp only[jrt,jrQ,or_false]at hx;rcases hx with rfl | rfl | rfl | rfl | rfl | rfl | rfl | rfl
   ·exact⟨[68],by decide +kernel,jbf rfl,by decide,by decide⟩
   ·exact⟨[97],by decide +kernel,jbf rfl,by decide,by decide⟩
   ·exact⟨[],by decide +kernel,jbf rfl,by decide,by decide⟩
   ·exact⟨[65,66],by decide +kernel,ja4 rfl,by decide,by decide⟩
   ·exact⟨[49],by decide +kernel,jbf rfl,by decide,by decide⟩
   ·exact⟨[61],by decide +kernel,jbf rfl,by decide,by decide⟩
   ·exact⟨[65,32],by decide +kernel,ja4 rfl,by decide,by decide⟩
   ·exact⟨[67,66,65],by decide +kernel,ja4 rfl,by decide,by decide⟩
  obtain⟨t,rfl,k1,k2,k3⟩:=key;have ep:evE (jaa U W P (n + 1)) U (.idx (.lst (.cons (.lit (.str "D")) (.cons (.lit (.str "a")) (.cons (.lit (.str "")) (.cons (.lit (.str "AB")) (.cons (.lit (.str "1")) (.cons (.lit (.str "=")) (.cons (.lit (.str "A ")) (.cons (.lit (.str "CBA")) .nil))))))))) (.bin .mod (.bin .fdiv (.var 2) (.lit (.int 4))) (.lit (.int 8)))) st=.ok (.dat (.str (mk t)),st):=
   jdC (xs:=["D","a","","AB","1","=","A ","CBA"]) rfl (by decide) (jaN (jaN (jaB rfl) jay (jca cell 4 (by decide) (by decide))) jay (jbe (cell / 4) 8 (by decide))) hat
  refine⟨_,k1,fun z=>?_,by simp;omega,?_⟩
  ·simp only[List.mem_append,jrC]at z;rcases z with (z | z) | z
   ·exact k2 z
   ·cases z
   ·exact fr z
  ·rw[jbF (v:=.dat (.str (mk (t++[61]++l)))) (ρ':=st) (by rw[w0,jbF (jcY (jbi (z:=[]) (jbi (z:=[]) ep lit61 (by simp;omega)) v4 (by simp;omega)))])]
   rfl
 |false=>
  rw[hw0,if_neg (by decide)]at w0
  rw[jak w0];have w1:=jfD (W:=W) (a:=.cons (.ret (.bin .add (.bin .add (.var 3) (.idx (.lst (.cons (.lit (.str "")) (.cons (.lit (.str "==")) (.cons (.lit (.str ":")) (.cons (.lit (.str "=A=")) (.cons (.lit (.str " = ")) .nil)))))) (.bin .mod (.bin .fdiv (.var 2) (.lit (.int 4))) (.lit (.int 5))))) (.var 4))) .nil) (jnx (G:=jaa U W P (n + 1)) (U:=U) (ρ:=st) (i:=5) (x:=way) (k:=1) rfl);cases hw1:(way == 1)with
  |true=>
   rw[hw1,if_pos rfl]at w1;obtain⟨x,hx,hat⟩:=jcb ["","==",":","=A="," = "] (cell / 4) (by decide)
   have key:∃t,x=mk t/\jaA m ([c]++t++l)=false/\59 ∉ t/\t.length<=3:=by
    simp only[jrt,jrQ,or_false]at hx;rcases hx with rfl | rfl | rfl | rfl | rfl
    ·refine⟨[],by decide +kernel,?_,by decide,by decide⟩
     cases l with
     |nil=>rfl
     |cons b l=>
      refine ja4 (beq_eq_false_iff_ne.mpr ?_);rcases ok7 hm (hr.all b (by simp))with e | e <;> omega
    ·exact⟨[61,61],by decide +kernel,jbZ (jfC (c:=61) (by simp) (jlx h1 hm)),by decide,by decide⟩
    ·exact⟨[58],by decide +kernel,ja4 rfl,by decide,by decide⟩
    ·exact⟨[61,65,61],by decide +kernel,jbZ (jfC (c:=61) (by simp) (jlx h1 hm)),by decide,by decide⟩
    ·exact⟨[32,61,32],by decide +kernel,ja4 rfl,by decide,by decide⟩
   obtain⟨t,rfl,k1,k2,k3⟩:=key;have ep:evE (jaa U W P (n + 1)) U (.idx (.lst (.cons (.lit (.str "")) (.cons (.lit (.str "==")) (.cons (.lit (.str ":")) (.cons (.lit (.str "=A=")) (.cons (.lit (.str " = ")) .nil)))))) (.bin .mod (.bin .fdiv (.var 2) (.lit (.int 4))) (.lit (.int 5)))) st=.ok (.dat (.str (mk t)),st):=
    jdC (xs:=["","==",":","=A="," = "]) rfl (by decide) (jaN (jaN (jaB rfl) jay (jca cell 4 (by decide) (by decide))) jay (jbe (cell / 4) 5 (by decide))) hat
   refine⟨_,k1,fun z=>?_,by simp;omega,?_⟩
   ·simp only[List.mem_append,jrC]at z;rcases z with (z | z) | z
    ·exact c59 z.symm
    ·exact k2 z
    ·exact fr z
   ·rw[jbF (v:=.dat (.str (mk ([c]++t++l)))) (ρ':=st) (by rw[w1,jbF (jcY (jbi (z:=[]) (jbi (z:=[]) v3 ep (by simp;omega)) v4 (by simp;omega)))])]
    rfl
  |false=>
   rw[hw1,if_neg (by decide)]at w1
   rw[jak w1];obtain⟨t,k1,k2,k3,k4⟩:=jfE (W:=W) (n:=n) (m:=m) (l:=l) (cell:=cell / 4) h1 hm hr;have ed:evE (jaa U W P (n + 1)) U (.bin .fdiv (.var 2) (.lit (.int 4))) st=.ok (.dat (.int (cell / 4)),st):=jaN (jaB rfl) jay (jca cell 4 (by decide) (by decide))
   have v1:evE (jaa U W P (n + 1)) U (.var 1) st=.ok (.dat (.int m),st):=jaB rfl;have ec:evE (jaa U W P (n + 1)) U (.call 9 [] (.cons (.var 4) (.cons (.var 1) (.cons (.bin .fdiv (.var 2) (.lit (.int 4))) .nil)))) st=.ok (.dat (.str (mk t)),st):=by
    refine jaS [.str (mk l),.int m,.int (cell / 4)] ?_ k4;simp only[evAs,v4,v1,ed,R.bind_ok'];rfl
   refine⟨[c]++[61]++t,jbZ k1,fun z=>?_,by simp;omega,?_⟩
   ·simp only[List.mem_append,jrC]at z;rcases z with (z | z) | z
    ·exact c59 z.symm
    ·cases z
    ·exact k2 z
   ·rw[jbF (jcY (jbi (z:=[]) (jbi (z:=[]) v3 lit61 (by simp)) ec (by simp;omega)))]
    rfl
theorem jkR {xx:Bool}{G:Calls}{U:Nat->Nat->Bool}{α:Type}{elt:E}{caps lk:List Nat}{it:DJ.It}{ρ ρ1:Rho}{xs:List α}{a b g:α->D}(hi:evI G U it ρ=.ok (xs.map fun x=>.tup [a x,b x],lk,ρ1))(hE:∀x∈xs,evE G U elt (.dat (a x)::.dat (b x)::jbg ρ1 caps)=.ok (.dat (g x),.dat (a x)::.dat (b x)::jbg ρ1 caps))
  (hB:∀s t,jaK caps 2 (s::t::jbg ρ1 caps) ρ1=ρ1):evE G U (.comp elt [0,1] false 2 caps it .none xx) ρ=.ok (.tmp (.l (xs.map g)),unlk lk ρ1):=by
 simp only[evE,hi,R.bind_ok'];rw[jcm (g:=g)]
 ·rw[jb3];rfl
 ·intro x hx;have:=hE x hx;simp only[putT,jdf,List.replicate,List.cons_append,List.nil_append,List.set_cons_zero,List.set_cons_succ,jrA,jrM,if_true,List.zip_cons_cons,List.zip_nil_right,List.foldl_cons,List.foldl_nil,R.bind_ok',this,toD,hB]
theorem jji {G:Calls}{U:Nat->Nat->Bool}{m:Nat}{rs:List Rl}{ρ:Rho}(h:∀r∈rs,OkRl m r)(hi:ρ[1]?=some (.dat (.lst (rs.map rD)))):evE G U (.comp (.bin .add (.bin .add (.var 0) (.lit (.str "="))) (.var 1)) [0,1] false 2 [] (.seq (.var 1)) .none true) ρ=.ok (.tmp (.l (rs.map fun r=>D.str (rT r))),ρ):=by
 refine jkR (a:=fun r:Rl=>D.str (mk [r.1])) (b:=fun r=>.str (mk r.2)) (g:=fun r=>D.str (rT r)) (lk:=[]) (ρ1:=ρ) (xs:=rs) ?_ (fun r hr=>?_) fun s t=>rfl
 ·simp_arith[hi]
  rfl
 ·have hl:=(h r hr).rt.len;have:=jbi (G:=G) (U:=U) (z:=[]) (ρ:=[.dat (.str (mk [r.1])),.dat (.str (mk r.2))]) (jbi (z:=[]) (x:=[r.1]) (y:=[61]) (jaB (i:=0) rfl) (show evE G U (.lit (.str "=")) _=.ok (.dat (.str (mk [61])),_)from jay) (by simp)) (y:=r.2) (jaB (i:=1) rfl) (by simp;omega)
  exact this
theorem jkS {m:Nat}{rs:List Rl}(h:∀r∈rs,OkRl m r)(hn:rs.length<=8):smD .join ";" (.lst (D.str (mk [48 + m])::rs.map fun r=>D.str (rT r)))=.ok (.dat (.str (mk (jda m rs)))):=by
 have e:(D.str (mk [48 + m])::rs.map fun r=>D.str (rT r))=(mk [48 + m]::rs.map rT).map D.str:=by simp
 rw[e,jiY,jgl];have:=jjb h;have e3:(";":Str).length=1:=rfl;have e4:(mk [48 + m]).length=1:=rfl;simp only[jrx,List.sum_cons,jrA,jrz,e3,e4];omega
theorem jfF {m:Nat}(h1:1<=m)(hm:m<=4):bfD .str (.int (m:Int))=.ok (.dat (.str (mk [48 + m]))):=by
 show (if (m:Int).natAbs.log2 < 1920 then R.ok (Vl.dat (.str (mT m)))else .stk)=_;rw[jqo h1 hm,if_pos];have:m=1\/m=2\/m=3\/m=4:=by omega
 rcases this with rfl | rfl | rfl | rfl <;> decide
theorem jly {m:Nat}{rs:List Rl}(h1:1<=m)(hm:m<=4)(h:∀r∈rs,OkRl m r)(hn:rs.length<=8):CD W (n + 1) 8 [.dat (.int m),.dat (.lst (rs.map rD))]=.ok (.dat (.str (mk (jda m rs))),[.no,.no]):=by
 rw[CD,jat (d:=⟨2,2,jbc⟩) rfl rfl];let st:Rho:=[.dat (.int m),.dat (.lst (rs.map rD))];have e1:evE (jaa U W P n) U jbr st=.ok (.tmp (.l (rs.map fun r=>D.str (rT r))),st):=jji h rfl;have f:fits ([D.str (mk [48 + m])].length + (rs.map fun r=>D.str (rT r)).length)=true:=jba (by simp;omega)
 have eb:evE (jaa U W P n) U (.bin .add (.lst (.cons (.blt .str (.var 0)) .nil)) jbr) st=.ok (.tmp (.l (D.str (mk [48 + m])::rs.map fun r=>D.str (rT r))),st):=by
  have el:evE (jaa U W P n) U (.lst (.cons (.blt .str (.var 0)) .nil)) st=.ok (.tmp (.l [D.str (mk [48 + m])]),st):=by
   simp_arith[st,jfF h1 hm]
  rw[evE,el];simp only[R.bind_ok',e1,ja9,jcZ,jcE,f];rfl
 show (evSs (jaa U W P n) U W jbc st).bind (jc8 2)=_;unfold jbc;rw[jbF (jcY (jo9 jay eb rfl (jkS h hn)))];rfl
end Law
namespace Law
open PySem L2 DJ Tx
variable {W n:Nat}
theorem jnn (x:List Nat)(ws:List (List Nat)):jl 59 (x::ws)=x++ws.flatMap fun w=>59::w:=by
 induction ws generalizing x with
 |nil=>simp[jl]
 |cons w ws ih=>
  show x++59::jl 59 (w::ws)=_;rw[ih];simp
theorem jhg (x:List Nat)(ws:List (List Nat)):Txt.join ";" (mk x::ws.map mk)=mk (x++ws.flatMap fun w=>59::w):=by
 refine jhJ ?_;have e:Txt.join ";" (mk x::ws.map mk)=Str.join ⟨#[59]⟩ (mk x::ws.map mk):=StrLaws.glued_eq_join _ _;rw[e,jcK,jrx,List.map_map];have e2:ws.map ((fun x:Str=>x.cps.toList) ∘ mk)=ws:=by
  rw[show ((fun x:Str=>x.cps.toList) ∘ mk)=id from rfl,List.map_id]
 rw[e2];exact jnn x ws
theorem jcc:∀(ws:List (List Nat)) (k:Nat),(∀w∈ws,w.length<=k)->((ws.map mk).map (·.length)).sum<=k * ws.length/\(ws.flatMap fun w=>59::w).length<=(k + 1) * ws.length
 |[],_,_=>by simp
 |w::ws,k,h=>by
  obtain⟨h1,h2⟩:=jcc ws k fun w hw=>h w (jrr _ hw);have e:(mk w).length=w.length:=ja5 w;have:=h w (by simp)
  simp only[jrx,List.sum_cons,jrA,List.flatMap_cons,jrF,Nat.mul_add,Nat.add_mul]at h1 h2 ⊢;omega
theorem jgn {x:List Nat}{ws:List (List Nat)}(hx:x.length<=10)(hw:∀w∈ws,w.length<=30)(hn:ws.length<=10):smD .join ";" (.lst ((x::ws).map fun w=>D.str (mk w)))=.ok (.dat (.str (mk (x++ws.flatMap fun w=>59::w)))):=by
 have e:((x::ws).map fun w=>D.str (mk w))=(mk x::ws.map mk).map D.str:=by simp
 rw[e,jiY,jhg];have h:=(jcc ws 30 hw).1;have e3:(";":Str).length=1:=rfl;have e4:(mk x).length=x.length:=ja5 x;simp only[jrx,List.sum_cons,jrA,jrz,e3,e4];omega
theorem jqs (rs:List Rl):(rs.flatMap fun r=>59::rL r)=(rs.map rL).flatMap fun w=>59::w:=by
 induction rs with
 |nil=>rfl
 |cons r rs ih=>simp only[List.flatMap_cons,jrx,ih]
theorem jeP {G:Calls}{U:Nat->Nat->Bool}{W:Nat}{ρ ρ':Rho}{d:D}{e:E}(h:evE G U e ρ=.ok (.dat d,ρ')):evSs G U W (.cons (.ret e) .nil) ρ=.ok (.rt (.dat d) ρ'):=jbF (jcY h)
theorem jgo {G:Calls}{U:Nat->Nat->Bool}{W:Nat}{ρ ρ':Rho}{i:Nat}{way k:Int}{a ss:Ss}{v:Vl}(hi:ρ[i]?=some (.dat (.int way)))(h:way=k)(ha:evSs G U W a ρ=.ok (.rt v ρ')):evSs G U W (.cons (.ife (.cmp .eq (.var i) (.lit (.int k))) a .nil) ss) ρ=.ok (.rt v ρ'):=by
 refine jbF ?_;rw[jfD (jnx hi),show (way == k)=true from beq_iff_eq.mpr h,if_pos rfl,ha]
theorem jgp {G:Calls}{U:Nat->Nat->Bool}{W:Nat}{ρ:Rho}{i:Nat}{way k:Int}{a ss:Ss}(hi:ρ[i]?=some (.dat (.int way)))(h:way≠k):evSs G U W (.cons (.ife (.cmp .eq (.var i) (.lit (.int k))) a .nil) ss) ρ=evSs G U W ss ρ:=by
 refine jak ?_;rw[jfD (jnx hi),show (way == k)=false from beq_eq_false_iff_ne.mpr h,if_neg (by decide)]
section
variable {m:Nat}{rs:List Rl}{cell:Int}
theorem jkT (m:Nat)(rs:List Rl):(jda m rs).drop 1=rs.flatMap fun r=>59::rL r:=rfl
theorem jkU (hm:m<=4)(h:∀r∈rs,OkRl m r):∀r∈rs,59 ∉ rL r:=fun r hr=>jc5 hm (h r hr)
theorem jjj {t:List Nat}(hm:m<=4)(h:∀r∈rs,OkRl m r)(ht:59 ∉ t)(hn:t ∉ mans):jjh (jae (t++rs.flatMap fun r=>59::rL r)):=
 ⟨t,rs.map rL,jbs t rL rs ht (jkU hm h),.inl hn⟩
theorem jno {u v:List Nat}:jjh (jae (u++[59,59]++v)):=by
 refine jd5 ?_;rw[List.append_assoc];show []∈jae (u++59::(59::v));rw[jbL];refine jrB _ ?_;show []∈jae (59::v);simp[jae]
theorem jqt {st:Rho}{G:Calls}{T:List Nat}(hT:T.length<=60)(h4:st[4]?=some (.dat (.str (mk T))))(hc:st[3]?=some (.dat (.int cell)))(hl:6 < st.length)(h6:(st.set 6 (.dat (.int (cell / 11 % ((T.length:Int) + 1)))))[4]?=some (.dat (.str (mk T))))(h63:(st.set 6 (.dat (.int (cell / 11 % ((T.length:Int) + 1)))))[3]?=some (.dat (.int cell)))(h66:(st.set 6 (.dat (.int (cell / 11 % ((T.length:Int) + 1)))))[6]?=some (.dat (.int (cell / 11 % ((T.length:Int) + 1))))):∃l,jjh (jae l)/\l.length<=900 /\
  evSs G U W (.cons (.asg 6 (.bin .mod (.bin .fdiv (.var 3) (.lit (.int 11))) (.bin .add (.blt .len (.var 4)) (.lit (.int 1))))) (
  .cons (.ret (.bin .add (.bin .add (.slc (.var 4) .none (.some (.var 6))) (.idx (.lst (.cons (.lit (.str " ")) (.cons (.lit (.str "\n")) (.cons (.lit (.str ";;")) (.cons (.lit (.str "\t")) (.cons (.lit (.str "/")) .nil)))))) (.bin .mod (.var 3) (.lit (.int 5))))) (.slc (.var 4) (.some (.var 6)) .none))) (
  .nil))) st=.ok (.rt (.dat (.str (mk l))) (st.set 6 (.dat (.int (cell / 11 % ((T.length:Int) + 1)))))):=by
 have p1:(0:Int) < (T.length:Int) + 1:=by omega
 have fT:fits (mk T).length=true:=jbx (by omega)
 have e2:evE G U (.bin .add (.blt .len (.var 4)) (.lit (.int 1))) st=.ok (.dat (.int ((T.length:Int) + 1)),st):=by
  simp_arith[h4,fT]
  rw[ja5]
 have e3:evE G U (.bin .mod (.bin .fdiv (.var 3) (.lit (.int 11))) (.bin .add (.blt .len (.var 4)) (.lit (.int 1)))) st=.ok (.dat (.int (cell / 11 % ((T.length:Int) + 1))),st):=jaN (jaN (jaB hc) jay (jca cell 11 (by decide) (by decide))) e2 (jbe _ _ p1)
 obtain⟨p,hp⟩:∃p:Nat,(p:Int)=cell / 11 % ((T.length:Int) + 1):=⟨(cell / 11 % ((T.length:Int) + 1)).toNat,by have:=Int.emod_nonneg (cell / 11) (show (T.length:Int) + 1≠0 by omega);omega⟩
 have hpl:p<=T.length:=by have:=Int.emod_lt_of_pos (cell / 11) p1;omega
 rw[<-hp]at e3 h6 h63 h66 ⊢;generalize hst:st.set 6 (.dat (.int (p:Int)))=st2 at h6 h63 h66 ⊢;obtain⟨x,hx,hat⟩:=jcb [" ","\n",";;","\t","/"] cell (by decide)
 have key:∃t,x=mk t/\jjh (jae (T.take p++t++T.drop p))/\t.length<=3:=by
  simp only[jrt,jrQ,or_false]at hx;rcases hx with rfl | rfl | rfl | rfl | rfl
  ·exact⟨[32],by decide +kernel,jbt (c:=32) (by simp) rfl,by decide⟩
  ·exact⟨[10],by decide +kernel,jbt (c:=10) (by simp) rfl,by decide⟩
  ·exact⟨[59,59],by decide +kernel,jno,by decide⟩
  ·exact⟨[9],by decide +kernel,jbt (c:=9) (by simp) rfl,by decide⟩
  ·exact⟨[47],by decide +kernel,jbt (c:=47) (by simp) rfl,by decide⟩
 obtain⟨t,rfl,k1,k2⟩:=key;refine⟨_,k1,by simp;omega,?_⟩
 have ep:evE G U (.idx (.lst (.cons (.lit (.str " ")) (.cons (.lit (.str "\n")) (.cons (.lit (.str ";;")) (.cons (.lit (.str "\t")) (.cons (.lit (.str "/")) .nil)))))) (.bin .mod (.var 3) (.lit (.int 5)))) st2=.ok (.dat (.str (mk t)),st2):=
  jdC (xs:=[" ","\n",";;","\t","/"]) rfl (by decide) (jaN (jaB h63) jay (jbe cell 5 (by decide))) hat
 have e6:evE G U (.var 6) st2=.ok (.dat (.int (p:Int)),st2):=jaB h66;have eu:evE G U (.slc (.var 4) .none (.some (.var 6))) st2=.ok (.dat (.str (mk (T.take p))),st2):=jhe (jaB h6) (by omega) jeO (jc6 e6) (jjL T p hpl)
 have ev:evE G U (.slc (.var 4) (.some (.var 6)) .none) st2=.ok (.dat (.str (mk (T.drop p))),st2):=jhe (jaB h6) (by omega) (jc6 e6) jeO (jbk T p hpl)
 rw[jak (jdU e3 hl),hst];exact jeP (jbi (z:=[]) (jbi (z:=[]) eu ep (by simp;omega)) ev (by simp;omega))
end
end Law
namespace Law
open PySem L2 DJ Tx
variable {W n:Nat}
theorem jfG {G:Calls}{U:Nat->Nat->Bool}{ρ:Rho}{es:Es}{b:E}{xs:List (List Nat)}{i:Int}{t:List Nat}(h1:evEs G U es ρ=.ok (xs.map fun x=>D.str (mk x),ρ))(hf:xs.length<=100)(h2:evE G U b ρ=.ok (.dat (.int i),ρ))(h3:DJ.atI (xs.map fun x=>D.str (mk x)) i=.ok (.str (mk t))):evE G U (.idx (.lst es) b) ρ=.ok (.dat (.str (mk t)),ρ):=by
 have e:(xs.map fun x=>D.str (mk x))=(xs.map mk).map D.str:=by rw[List.map_map];rfl
 rw[e]at h1 h3;exact jdC h1 (by rw[jrz];exact hf) h2 h3
theorem jc7 (xs:List (List Nat))(a:Int)(h:0 < xs.length):∃x∈xs,DJ.atI (xs.map fun x=>D.str (mk x)) (a % (xs.length:Int))=.ok (.str (mk x)):=by
 obtain⟨k,hk⟩:∃k:Nat,(k:Int)=a % (xs.length:Int):=⟨(a % (xs.length:Int)).toNat,by have:=Int.emod_nonneg a (show (xs.length:Int)≠0 by omega);omega⟩
 have hl:k < xs.length:=by have:=Int.emod_lt_of_pos a (show (0:Int) < xs.length by omega);omega
 refine⟨xs[k],List.getElem_mem hl,?_⟩;rw[<-hk];refine jp9 ?_;rw[jrw,jrq hl];rfl
section
variable {G:Calls}{U:Nat->Nat->Bool}{ρ:Rho}
theorem jeQ:evEs G U .nil ρ=.ok ([],ρ):=by rw[evEs]
theorem jau {e:E}{es:Es}{d:D}{ds:List D}(h:evE G U e ρ=.ok (.dat d,ρ))(hs:evEs G U es ρ=.ok (ds,ρ)):evEs G U (.cons e es) ρ=.ok (d::ds,ρ):=by
 rw[evEs,h];simp only[R.bind_ok',jcn,hs]
end
theorem jkV {m:Nat}{r:Rl}{rs:List Rl}:(jda m (r::rs)).drop 2=rL r++rs.flatMap fun r=>59::rL r:=by
 simp[jda]
theorem jkW {m:Nat}{rs:List Rl}{way cell:Int}(h1:1<=m)(hm:m<=4)(h:∀r∈rs,OkRl m r)(hn:rs.length<=8)(h0:1<=rs.length):∃l,jjh (jae l)/\l.length<=900/\∃fin,CD W (n + 3) 11 [.dat (.int m),.dat (.lst (rs.map rD)),.dat (.int way),.dat (.int cell)]=.ok (.dat (.str (mk l)),fin):=by
 rw[CD,jat (d:=⟨4,8,jas⟩) rfl rfl];generalize hT:jda m rs=T;have hTl:T.length<=60:=by
  have:=jfA h;rw[<-hT];simp only[jda,jrA];omega
 have hrl:(0:Int) < ((rs.map rD).length:Int):=by rw[jrz];omega
 let at_:Int:=cell % ((rs.map rD).length:Int)
 let st (s6 s7:Sl):Rho:=[.dat (.int m),.dat (.lst (rs.map rD)),.dat (.int way),.dat (.int cell),.dat (.str (mk T)),.dat (.int at_),s6,s7]
 have ct:=jaS (G:=jaa U W P (n + 2)) (U:=U) (ρ:=[.dat (.int m),.dat (.lst (rs.map rD)),.dat (.int way),.dat (.int cell),.no,.no,.no,.no]) (es:=.cons (.var 0) (.cons (.var 1) .nil)) [.int m,.lst (rs.map rD)] rfl (jly (W:=W) (n:=n + 1) h1 hm h hn);rw[hT]at ct;have go:(evSs (jaa U W P (n + 2)) U W jas [.dat (.int m),.dat (.lst (rs.map rD)),.dat (.int way),.dat (.int cell),.no,.no,.no,.no])=(evSs (jaa U W P (n + 2)) U W (match jas with | .cons _ (.cons _ r)=>r | _=>.nil) (st .no .no)):=by
  unfold jas;rw[jak (jdU ct (by simp))]
  show evSs (jaa U W P (n + 2)) U W _ [.dat (.int m),.dat (.lst (rs.map rD)),.dat (.int way),.dat (.int cell),.dat (.str (mk T)),.no,.no,.no]=_;have el:evE (jaa U W P (n + 2)) U (.blt .len (.var 1)) [.dat (.int m),.dat (.lst (rs.map rD)),.dat (.int way),.dat (.int cell),.dat (.str (mk T)),.no,.no,.no]=.ok (.dat (.int ((rs.map rD).length:Int)),[.dat (.int m),.dat (.lst (rs.map rD)),.dat (.int way),.dat (.int cell),.dat (.str (mk T)),.no,.no,.no]):=by simp_arith[]
  have e3:evE (jaa U W P (n + 2)) U (.bin .mod (.var 3) (.blt .len (.var 1))) [.dat (.int m),.dat (.lst (rs.map rD)),.dat (.int way),.dat (.int cell),.dat (.str (mk T)),.no,.no,.no]=.ok (.dat (.int at_),[.dat (.int m),.dat (.lst (rs.map rD)),.dat (.int way),.dat (.int cell),.dat (.str (mk T)),.no,.no,.no]):=jaN (jaB rfl) el (jbe cell _ hrl);rw[jak (jdU e3 (by simp))]
  rfl
 have fin:∀{l:List Nat}{ρ':Rho}{ss:Ss},evSs (jaa U W P (n + 2)) U W ss (st .no .no)=.ok (.rt (.dat (.str (mk l))) ρ')->∃fin,(evSs (jaa U W P (n + 2)) U W ss (st .no .no)).bind (jc8 4)=.ok (.dat (.str (mk l)),fin):=fun {l ρ' ss} e=>⟨_,by rw[e];rfl⟩
 show ∃l,jjh (jae l)/\l.length<=900/\∃fin,(evSs (jaa U W P (n + 2)) U W jas [.dat (.int m),.dat (.lst (rs.map rD)),.dat (.int way),.dat (.int cell),.no,.no,.no,.no]).bind (jc8 4)=_;rw[go];unfold jas;dsimp only;have v4:evE (jaa U W P (n + 2)) U (.var 4) (st .no .no)=.ok (.dat (.str (mk T)),st .no .no):=jaB rfl;have lt:∀{x:Str}{y:List Nat},x=mk y->evE (jaa U W P (n + 2)) U (.lit (.str x)) (st .no .no)=.ok (.dat (.str (mk y)),st .no .no):=fun {x y} e=>by rw[e];exact jay
 have md:∀{k:Int},0 < k->evE (jaa U W P (n + 2)) U (.bin .mod (.var 3) (.lit (.int k))) (st .no .no)=.ok (.dat (.int (cell % k)),st .no .no):=fun {k} hk=>jaN (jaB rfl) jay (jbe cell k hk);have es:evE (jaa U W P (n + 2)) U (.blt .str (.var 0)) (st .no .no)=.ok (.dat (.str (mk [48 + m])),st .no .no):=by simp_arith[st,jfF h1 hm]
 by_cases w0:way=0
 ·have e1:evE (jaa U W P (n + 2)) U (.slc (.var 4) (.some (.lit (.int 1))) .none) (st .no .no)=.ok (.dat (.str (mk (T.drop 1))),st .no .no):=jhe v4 (by omega) (jc6 jay) jeO (jbk T 1 (by rw[<-hT];simp[jda]))
  obtain⟨x,hx,hat⟩:=jc7 [[48],[53],[],[49,49],[48,49],[97],[45,49],[50,32]] cell (by decide)
  have hx2:59 ∉ x/\x ∉ mans/\x.length<=3:=by
   simp only[jrt,jrQ,or_false]at hx;rcases hx with rfl | rfl | rfl | rfl | rfl | rfl | rfl | rfl <;> decide
  have ep:=jfG (G:=jaa U W P (n + 2)) (U:=U) (ρ:=st .no .no) (t:=x) (xs:=[[48],[53],[],[49,49],[48,49],[97],[45,49],[50,32]]) (jau (lt (x:="0") (by decide +kernel)) (jau (lt (x:="5") (by decide +kernel)) (jau (lt (x:="") (by decide +kernel)) (jau (lt (x:="11") (by decide +kernel)) (jau (lt (x:="01") (by decide +kernel)) (jau (lt (x:="a") (by decide +kernel)) (jau (lt (x:="-1") (by decide +kernel)) (jau (lt (x:="2 ") (by decide +kernel)) jeQ)))))))) (by decide) (md (k:=8) (by decide)) hat
  refine⟨x++T.drop 1,?_,by simp;omega,fin (jgo rfl w0 (jeP (jbi (z:=[]) ep e1 (by simp;omega))))⟩
  rw[<-hT,jkT];exact jjj hm h hx2.1 hx2.2.1
 ·rw[jgp rfl w0];by_cases w1:way=1
  ·obtain⟨r,rs',rfl⟩:∃r rs',rs=r::rs':=by
    cases rs with
    |nil=>simp at h0
    |cons r rs'=>exact⟨r,rs',rfl⟩
   have hr:=h r (by simp)
   have e4:evE (jaa U W P (n + 2)) U (.slc (.var 4) (.some (.lit (.int 2))) .none) (st .no .no)=.ok (.dat (.str (mk (T.drop 2))),st .no .no):=jhe v4 (by omega) (jc6 jay) jeO (jbk T 2 (by rw[<-hT];simp[jda]))
   let ws:List (List Nat):=List.replicate 9 [65,61,97]
   have e3:evE (jaa U W P (n + 2)) U (.sm .join (.lit (.str ";")) (.bin .add (.lst (.cons (.blt .str (.var 0)) .nil)) (.bin .mul (.lst (.cons (.lit (.str "A=a")) .nil)) (.lit (.int 9))))) (st .no .no)=.ok (.dat (.str (mk ([48 + m]++ws.flatMap fun w=>59::w))),st .no .no):=by
    have em:evE (jaa U W P (n + 2)) U (.bin .mul (.lst (.cons (.lit (.str "A=a")) .nil)) (.lit (.int 9))) (st .no .no)=.ok (.tmp (.l (ws.map fun w=>D.str (mk w))),st .no .no):=by
     simp_arith[]
     rfl
    have el:evE (jaa U W P (n + 2)) U (.lst (.cons (.blt .str (.var 0)) .nil)) (st .no .no)=.ok (.tmp (.l [D.str (mk [48 + m])]),st .no .no):=by
     rw[evE,jau es jeQ];rfl
    have ea:evE (jaa U W P (n + 2)) U (.bin .add (.lst (.cons (.blt .str (.var 0)) .nil)) (.bin .mul (.lst (.cons (.lit (.str "A=a")) .nil)) (.lit (.int 9)))) (st .no .no)=.ok (.tmp (.l (([48 + m]::ws).map fun w=>D.str (mk w))),st .no .no):=by
     rw[evE,el];simp only[R.bind_ok'];rw[em];rfl
    exact jo9 jay ea rfl (jgn (by simp) (fun w hw=>by rw[List.eq_of_mem_replicate hw];decide) (by simp[ws]))
   have e2:evE (jaa U W P (n + 2)) U (.bin .add (.blt .str (.var 0)) (.lit (.str ";"))) (st .no .no)=.ok (.dat (.str (mk ([48 + m]++[59]))),st .no .no):=jbi (z:=[]) es (lt (x:=";") (by decide +kernel)) (by simp)
   obtain⟨x,hx,hat⟩:=jc7 [[48 + m],[48 + m]++[59],[48 + m]++ws.flatMap fun w=>59::w,T.drop 2,[]] cell (by simp)
   have ep:=jfG (G:=jaa U W P (n + 2)) (U:=U) (ρ:=st .no .no) (t:=x) (xs:=[[48 + m],[48 + m]++[59],[48 + m]++ws.flatMap fun w=>59::w,T.drop 2,[]]) (jau es (jau e2 (jau e3 (jau e4 (jau (lt (x:="") (by decide +kernel)) jeQ))))) (by simp) (md (k:=5) (by decide)) hat
   have n59:59 ∉ [48 + m]:=by intro z;have:=List.mem_singleton.mp z;omega
   refine⟨x,?_,?_,fin (jgo rfl w1 (jeP ep))⟩
   ·simp only[jrt,jrQ,or_false]at hx;rcases hx with rfl | rfl | rfl | rfl | rfl
    ·exact⟨_,_,jbY n59,.inr (.inl rfl)⟩
    ·exact jd5 (by
      show []∈jae ([48 + m]++59::[]);rw[jbL];exact jrB _ (by simp[jae]))
    ·refine⟨_,_,jbs [48 + m] (fun w:List Nat=>w) ws n59 (fun w hw=>by rw[List.eq_of_mem_replicate hw];decide),.inr (.inr (.inl ?_))⟩
     simp[ws]
    ·rw[<-hT,jkV];refine⟨_,_,jbs (rL r) rL rs' (jc5 hm hr) (fun q hq=>jc5 hm (h q (jrr _ hq))),.inl fun z=>?_⟩;simp[mans,rL]at z
    ·exact⟨_,_,rfl,.inl (by decide)⟩
   ·simp only[jrt,jrQ,or_false]at hx;rcases hx with rfl | rfl | rfl | rfl | rfl
    ·simp
    ·simp
    ·have:=(jcc ws 3 fun w hw=>by rw[List.eq_of_mem_replicate hw];decide).2
     simp only[ws,List.length_replicate,jrF,List.length_singleton]at this ⊢;omega
    ·simp;omega
    ·simp
  ·rw[jgp rfl w1];by_cases w2:way=2
   ·obtain⟨l,k1,k2,k3⟩:=jqt (W:=W) (G:=jaa U W P (n + 2)) (cell:=cell) (st:=st .no .no) (T:=T) hTl rfl rfl (by simp[st]) rfl rfl rfl
    exact⟨l,k1,k2,fin (jgo rfl w2 k3)⟩
   ·rw[jgp rfl w2];by_cases w3:way=3
    ·have a1:evE (jaa U W P (n + 2)) U (.bin .add (.var 4) (.lit (.str ";"))) (st .no .no)=.ok (.dat (.str (mk (T++[59]))),st .no .no):=jbi (z:=[]) v4 (lt (x:=";") (by decide +kernel)) (by simp;omega)
     have a2:evE (jaa U W P (n + 2)) U (.bin .add (.lit (.str ";")) (.var 4)) (st .no .no)=.ok (.dat (.str (mk ([59]++T))),st .no .no):=jbi (z:=[]) (lt (x:=";") (by decide +kernel)) v4 (by simp;omega)
     have a3:evE (jaa U W P (n + 2)) U (.bin .add (.var 4) (.lit (.str " "))) (st .no .no)=.ok (.dat (.str (mk (T++[32]))),st .no .no):=jbi (z:=[]) v4 (lt (x:=" ") (by decide +kernel)) (by simp;omega)
     have a4:evE (jaa U W P (n + 2)) U (.bin .add (.lit (.str " ")) (.var 4)) (st .no .no)=.ok (.dat (.str (mk ([32]++T))),st .no .no):=jbi (z:=[]) (lt (x:=" ") (by decide +kernel)) v4 (by simp;omega)
     have a5:evE (jaa U W P (n + 2)) U (.bin .add (.var 4) (.lit (.str "\n"))) (st .no .no)=.ok (.dat (.str (mk (T++[10]))),st .no .no):=jbi (z:=[]) v4 (lt (x:="\n") (by decide +kernel)) (by simp;omega)
     obtain⟨x,hx,hat⟩:=jc7 [T++[59],[59]++T,T++[32],[32]++T,T++[10]] cell (by simp)
     have ep:=jfG (G:=jaa U W P (n + 2)) (U:=U) (ρ:=st .no .no) (t:=x) (xs:=[T++[59],[59]++T,T++[32],[32]++T,T++[10]]) (jau a1 (jau a2 (jau a3 (jau a4 (jau a5 jeQ))))) (by simp) (md (k:=5) (by decide)) hat
     refine⟨x,?_,?_,fin (jgo rfl w3 (jeP ep))⟩
     ·simp only[jrt,jrQ,or_false]at hx;rcases hx with rfl | rfl | rfl | rfl | rfl
      ·refine jd5 ?_;show []∈jae (T++59::[]);rw[jbL];exact jrB _ (by simp[jae])
      ·exact jd5 (by simp[jae])
      ·exact jbt (c:=32) (by simp) rfl
      ·exact jbt (c:=32) (by simp) rfl
      ·exact jbt (c:=10) (by simp) rfl
     ·simp only[jrt,jrQ,or_false]at hx;rcases hx with rfl | rfl | rfl | rfl | rfl <;> simp <;> omega
    ·rw[jgp rfl w3];obtain⟨k,hk⟩:∃k:Nat,(k:Int)=at_:=⟨at_.toNat,by have:=Int.emod_nonneg cell (show ((rs.map rD).length:Int)≠0 by omega);omega⟩
     have hkl:k < rs.length:=by
      have:=Int.emod_lt_of_pos cell hrl;rw[jrz]at this;have e:at_=cell % ((rs.map rD).length:Int):=rfl;rw[jrz]at e;omega
     have hr:OkRl m rs[k]:=h _ (List.getElem_mem hkl);obtain⟨t,k1,k2,k3,k4⟩:=jhf (W:=W) (n:=n) (r:=rs[k]) (cell:=cell / 9) h1 hm hr;let ws:List (List Nat):=(rs.map rL).set k t;let wd:Sl:=.own (.l (rs.map fun r=>D.str (rT r))) false false;have s1:evS (jaa U W P (n + 2)) U W (.asg 7 jbd) (st .no .no)=.ok (.nx (st .no wd)):=jkw (show evE (jaa U W P (n + 2)) U jbd (st .no .no)=.ok (.tmp (.l (rs.map fun r=>D.str (rT r))),st .no .no)from jji h rfl) (by simp[st])
     have ix:evE (jaa U W P (n + 2)) U (.idx (.var 1) (.var 5)) (st .no wd)=.ok (.dat (rD rs[k]),st .no wd):=by
      refine jnk (jaB rfl) (jaB rfl) ?_;show DJ.atI (rs.map rD) at_=_;rw[<-hk];refine jp9 ?_;rw[jrw,jrq hkl];rfl
     have ed:evE (jaa U W P (n + 2)) U (.bin .fdiv (.var 3) (.lit (.int 9))) (st .no wd)=.ok (.dat (.int (cell / 9)),st .no wd):=jaN (jaB rfl) jay (jca cell 9 (by decide) (by decide))
     have v0:evE (jaa U W P (n + 2)) U (.var 0) (st .no wd)=.ok (.dat (.int m),st .no wd):=jaB rfl;have ec:evE (jaa U W P (n + 2)) U (.call 10 [] (.cons (.idx (.var 1) (.var 5)) (.cons (.var 0) (.cons (.bin .fdiv (.var 3) (.lit (.int 9))) .nil)))) (st .no wd)=.ok (.dat (.str (mk t)),st .no wd):=by
      refine jaS [rD rs[k],.int m,.int (cell / 9)] ?_ k4;simp only[evAs,ix,v0,ed,R.bind_ok'];rfl
     have ew:((rs.map fun r=>D.str (rT r)).set k (D.str (mk t)))=ws.map fun w=>D.str (mk w):=by
      simp only[ws,List.map_set,List.map_map];rfl
     let wd2:Sl:=.own (.l (ws.map fun w=>D.str (mk w))) false false
     have s2:evS (jaa U W P (n + 2)) U W (.sub 7 (.var 5) (.call 10 [] (.cons (.idx (.var 1) (.var 5)) (.cons (.var 0) (.cons (.bin .fdiv (.var 3) (.lit (.int 9))) .nil))))) (st .no wd)=.ok (.nx (st .no wd2)):=by
      rw[evS,ec];simp only[R.bind_ok',jcn];show (evE (jaa U W P (n + 2)) U (.var 5) (st .no wd)).bind _=_;rw[show evE (jaa U W P (n + 2)) U (.var 5) (st .no wd)=.ok (.dat (.int (k:Int)),st .no wd)from by rw[hk];exact jaB rfl]
      show (if 0<=(k:Int)/\(k:Int) < ((rs.map fun r=>D.str (rT r)).length:Int)then R.ok (Fl.nx ((st .no wd).set 7 (.own (.l ((rs.map fun r=>D.str (rT r)).set (k:Int).toNat (D.str (mk t)))) false false)))else R.stk)=_;rw[if_pos ⟨by omega,by rw[jrz];omega⟩,Int.toNat_natCast,ew]
      rfl
     have hwl:ws.length=rs.length:=by simp[ws]
     have hw30:∀w∈ws,w.length<=30:=fun w hw=>by
      rcases List.mem_or_eq_of_mem_set hw with hw | rfl
      ·obtain⟨q,hq,rfl⟩:=List.mem_map.mp hw;exact jr4 (jja (h q hq)) (by decide)
      ·exact k3
     have hw59:∀w∈ws,59 ∉ w:=fun w hw=>by
      rcases List.mem_or_eq_of_mem_set hw with hw | rfl
      ·obtain⟨q,hq,rfl⟩:=List.mem_map.mp hw;exact jc5 hm (h q hq)
      ·exact k2
     have es2:evE (jaa U W P (n + 2)) U (.blt .str (.var 0)) (st .no wd2)=.ok (.dat (.str (mk [48 + m])),st .no wd2):=by simp_arith[st,jfF h1 hm]
     have ea:evE (jaa U W P (n + 2)) U (.bin .add (.lst (.cons (.blt .str (.var 0)) .nil)) (.var 7)) (st .no wd2)=.ok (.tmp (.l (([48 + m]::ws).map fun w=>D.str (mk w))),st .no wd2):=by
      have el:evE (jaa U W P (n + 2)) U (.lst (.cons (.blt .str (.var 0)) .nil)) (st .no wd2)=.ok (.tmp (.l [D.str (mk [48 + m])]),st .no wd2):=by
       rw[evE,jau es2 jeQ];rfl
      have f:fits ([D.str (mk [48 + m])].length + (ws.map fun w=>D.str (mk w)).length)=true:=jba (by rw[jrz,hwl];simp;omega)
      rw[evE,el];simp only[R.bind_ok'];rw[show evE (jaa U W P (n + 2)) U (.var 7) (st .no wd2)=.ok (.slot 7,st .no wd2)from rfl];simp only[R.bind_ok',ja9,jcZ];rw[show deref (.slot 7) (st .no wd2)=.ok (.lst (ws.map fun w=>D.str (mk w)))from rfl];simp only[R.bind_ok',jcE,f];rfl
     have ej:=jo9 (G:=jaa U W P (n + 2)) (U:=U) (ρ:=st .no wd2) (a:=.lit (.str ";")) jay ea rfl (jgn (by simp) hw30 (by omega))
     refine⟨[48 + m]++ws.flatMap fun w=>59::w,jkQ hm hw59 (jrD (show ws[k]?=some t from List.getElem?_set_self (by rw[jrz];exact hkl))) k1,?_,?_⟩
     ·have:=(jcc ws 30 hw30).2;rw[hwl]at this;simp only[jrF,List.length_singleton];omega
     ·refine fin (ρ':=st .no wd2) ?_;rw[jak s1,jak s2];exact jeP ej
end Law
namespace Law
open PySem L2 DJ Tx
variable {W n:Nat}
theorem jpe {G:Calls}{U:Nat->Nat->Bool}{a:E}{x:D}{ρ ρ1:Rho}{xs:List D}(ha:evE G U a ρ=.ok (.dat x,ρ1))(h:jdd x=.ok xs):evI G U (.rng1 a) ρ=.ok (xs,[],ρ1):=by
 rw[evI,ha];simp only[R.bind_ok',jag,h]
theorem jpf (rs:List Rl):cmpDs (rs.map rD)=true:=by
 induction rs with
 |nil=>rfl
 |cons r rs ih=>simp only[jrx,cmpDs,rD,jbM,ih,Bool.and_self]
theorem jnp (rs:List Rl):deeps (rs.map rD)<=1:=by
 induction rs with
 |nil=>simp[deeps]
 |cons r rs ih=>
  simp only[jrx,deeps];exact Nat.max_le.mpr ⟨by simp[rD,deep,deeps],ih⟩
theorem jkX {d:D}(h:jbM d=true)(h2:deep d<=12):eqR d d=.ok true:=by
 unfold eqR;rw[if_pos (by simp[h,h2]),jcC h]
theorem jnq (m:Nat)(rs:List Rl):eqR (jnb m rs) (jnb m rs)=.ok true:=by
 refine jkX ?_ ?_
 ·simp only[jnb,jbM,cmpDs,jpf,Bool.and_self]
 ·have:=jnp rs;simp only[jnb,deep,deeps,Nat.zero_max,Nat.max_zero];omega
theorem jjk {l:List Nat}(hl:l.length<=900)(h:jjh (jae l)):CD W (n + 6) 7 [.dat (.str (mk l))]=.ok (.dat (.bl true),[.no]):=by
 rw[CD,jat (d:=⟨1,3,jaF⟩) rfl rfl];have hx:evE (jaa U W P (n + 5)) U (.call 4 [] (.cons (.var 0) .nil)) [.dat (.str (mk l)),.own (.l []) false false,.no]=.err 3:=jb5 [.str (mk l)] rfl (jpd (W:=W) (n:=n) hl h);show (evSs (jaa U W P (n + 5)) U W jaF [.dat (.str (mk l)),.no,.no]).bind (jc8 1)=_;unfold jaF;rw[jak (ρ':=[.dat (.str (mk l)),.own (.l []) false false,.no]) rfl];rw[jak (ρ':=[.dat (.str (mk l)),.own (.l [.bl true,.bl true,.bl false]) false false,.no]) (by
  rw[evS,evS,hx];rfl)]
 rfl
theorem jqu (ns:List Int)(hW:73<=W):∃fin,CD W (n + 7) 12 [.dat (.lst (ns.map .int))]=.ok (.dat (.bl true),fin):=by
 obtain⟨xs,hx,ed⟩:=jpa (W:=W) (n:=n + 5) (ns.take 63) hW;obtain⟨xs1,c1,rfl⟩:=jdY (show 0 < xs.length by omega)
 obtain⟨xs2,c2,rfl⟩:=jdY (show 0 < xs1.length by simp at hx;omega)
 have hx2:xs2.length=70:=by simp at hx;omega
 rw[CD,jat (d:=⟨1,9,ji1⟩) rfl rfl];obtain⟨m,hmz⟩:∃m:Nat,(m:Int)=1 + c1 % 4:=⟨(1 + c1 % 4).toNat,by omega⟩
 have h1:1<=m:=by omega
 have hm:m<=4:=by omega
 have hk:((1 + c2 % 8).toNat:Int)=1 + c2 % 8:=by omega
 let sc:Sl:=.dat (.lst (ns.map .int))
 let st (d:Sl) (r s4 s5 s6 s7:Sl):Rho:=[sc,d,.dat (.int m),r,s4,s5,s6,s7,.no]
 let dk (ys:List Int):Sl:=.own (.l (ys.map .int)) false false
 have lp:=jcX (f:=fun x r=>(putT [4] true x r).bind fun r'=>evSs (jaa U W P (n + 6)) U W jdZ r')
  (fun j ρ=>∃(ys:List Int) (rs:List Rl) (s4 s5:Sl),ρ=st (dk ys) (.own (.l (rs.map rD)) false false) s4 s5 .no .no/\ys.length + 2 * j=70/\rs.length=j/\∀r∈rs,OkRl m r)
  (xs:=(List.range (1 + c2 % 8).toNat).map fun (j:Nat)=>D.int j) (i:=0) (ρ:=st (dk xs2) (.own (.l []) false false) .no .no .no .no)
  ⟨xs2,[],.no,.no,rfl,by omega,rfl,fun t ht=>by cases ht⟩ (fun j x ρ hxj hρ=>by
   obtain⟨ys,rs,s4,s5,rfl,g1,g2,g3⟩:=hρ;have hj:j < (1 + c2 % 8).toNat:=by
    have:=(List.getElem?_eq_some_iff.mp hxj).1;simpa using this
   obtain⟨ys1,d1,rfl⟩:=jdY (show 0 < ys.length by omega)
   obtain⟨ys2,d2,rfl⟩:=jdY (show 0 < ys1.length by simp at g1;omega)
   obtain⟨sg,hsg,hsg3⟩:=jlu (i:=d1 % 3) (Int.emod_nonneg _ (by decide)) (Int.emod_lt_of_pos _ (by decide))
   obtain⟨l,hl,el⟩:=jnf (W:=W) (n:=n + 5) (m:=m) (ys:=ys2) (c:=d2) h1 hm;refine⟨st (dk ys2) (.own (.l ((rs++[(sg,l)]).map rD)) false false) (.dat x) (.dat (chD sg)) .no .no,?_,ys2,rs++[(sg,l)],_,_,rfl,by simp at g1;omega,by simp;omega,fun r hr=>?_⟩
   ·show evSs (jaa U W P (n + 6)) U W jdZ (st (dk (ys2++[d2]++[d1])) (.own (.l (rs.map rD)) false false) (.dat x) s5 .no .no)=_;unfold jdZ;rw[jak (ρ':=st (dk (ys2++[d2])) (.own (.l (rs.map rD)) false false) (.dat x) (.dat (chD sg)) .no .no) (by
     have ep:=jkM (G:=jaa U W P (n + 6)) (U:=U) (h:=D.int) (i:=1) (ys:=ys2++[d2]) (c:=d1) (f:=false) (ρ:=st (dk (ys2++[d2]++[d1])) (.own (.l (rs.map rD)) false false) (.dat x) s5 .no .no) rfl;exact jdU (jnk jay (jaN ep jay (jbe d1 3 (by decide))) (show jfP (.str "CBA") (.int (d1 % 3))=.ok (chD sg)from hsg)) (by simp[st]))]
    have f:fits (rs.map rD).length.succ=true:=jba (by simp;omega)
    have ec:evE (jaa U W P (n + 6)) U (.call 6 [true,false,false,false] (.cons (.var 1) (.cons (.var 2) (.cons (.lit (.str "CBA")) (.cons (.lit (.int 4)) .nil))))) (st (dk (ys2++[d2])) (.own (.l (rs.map rD)) false false) (.dat x) (.dat (chD sg)) .no .no)=.ok (.dat (.str (mk l)),st (dk ys2) (.own (.l (rs.map rD)) false false) (.dat x) (.dat (chD sg)) .no .no):=by
     simp_arith[st,dk,jaI,jdH,List.headD_cons,List.tail_cons,el,jaY]
    rw[jak (ρ':=st (dk ys2) (.own (.l ((rs++[(sg,l)]).map rD)) false false) (.dat x) (.dat (chD sg)) .no .no) (by
     have e5:evE (jaa U W P (n + 6)) U (.var 5) (st (dk (ys2++[d2])) (.own (.l (rs.map rD)) false false) (.dat x) (.dat (chD sg)) .no .no)=.ok (.dat (chD sg),st (dk (ys2++[d2])) (.own (.l (rs.map rD)) false false) (.dat x) (.dat (chD sg)) .no .no):=rfl;have et:evE (jaa U W P (n + 6)) U (.tup (.cons (.var 5) (.cons (.call 6 [true,false,false,false] (.cons (.var 1) (.cons (.var 2) (.cons (.lit (.str "CBA")) (.cons (.lit (.int 4)) .nil))))) .nil))) (st (dk (ys2++[d2])) (.own (.l (rs.map rD)) false false) (.dat x) (.dat (chD sg)) .no .no)=.ok (.dat (rD (sg,l)),st (dk ys2) (.own (.l (rs.map rD)) false false) (.dat x) (.dat (chD sg)) .no .no):=jgk e5 ec;rw[evS];show (evE (jaa U W P (n + 6)) U _ _).bind _=_;rw[et];simp_arith[st,f];simp)]
    rfl
   ·rcases List.mem_append.mp hr with hr | hr
    ·exact g3 r hr
    ·have:r=(sg,l):=by simpa using hr
     subst this;exact⟨hsg3,hl⟩)
 obtain⟨ρ1,e1,ys,rs,s4,s5,rfl,g1,g2,g3⟩:=lp;rw[jrz,List.length_range,Nat.zero_add]at g1 g2;have r1:1<=rs.length:=by omega
 have r8:rs.length<=8:=by omega
 let rd:Sl:=.dat (.lst (rs.map rD))
 have rg:jdd (.int (1 + c2 % 8))=.ok ((List.range (1 + c2 % 8).toNat).map fun (j:Nat)=>D.int j):=by
  have:=jgj (1 + c2 % 8).toNat (by omega)
  rwa [hk]at this
 have ct:=jly (W:=W) (n:=n + 5) h1 hm g3 r8;have cg:=jnd (W:=W) (n:=n + 1) h1 hm g3 r8 r1;let gd:Sl:=.dat (.str (mk (jda m rs)));let s9 (s7 s8:Sl):Rho:=[sc,dk ys,.dat (.int m),rd,s4,s5,gd,s7,s8];have turn:∀(x:Int) (s7 s8:Sl),evSs (jaa U W P (n + 6)) U W jd1 (s9 (.dat (.int x)) s8)=.ok (.nx (s9 (.dat (.int x)) (.dat (.int ((x * 39373 + ((rs.map rD).length:Int) + 1) % 2147483629))))):=fun x s7 s8=>by
  generalize hz:(x * 39373 + ((rs.map rD).length:Int) + 1) % 2147483629=z;obtain⟨l,k1,k2,fn,k3⟩:=jkW (W:=W) (n:=n + 3) (way:=z % 7) (cell:=z / 7) h1 hm g3 r8 r1;have cf:=jaS (G:=jaa U W P (n + 6)) (U:=U) (ρ:=s9 (.dat (.int x)) (.dat (.int z))) (es:=.cons (.var 2) (.cons (.var 3) (.cons (.bin .mod (.var 8) (.lit (.int 7))) (.cons (.bin .fdiv (.var 8) (.lit (.int 7))) .nil)))) [.int m,.lst (rs.map rD),.int (z % 7),.int (z / 7)] (by
   have v2:evE (jaa U W P (n + 6)) U (.var 2) (s9 (.dat (.int x)) (.dat (.int z)))=.ok (.dat (.int m),s9 (.dat (.int x)) (.dat (.int z))):=jaB rfl;have v3:evE (jaa U W P (n + 6)) U (.var 3) (s9 (.dat (.int x)) (.dat (.int z)))=.ok (.dat (.lst (rs.map rD)),s9 (.dat (.int x)) (.dat (.int z))):=jaB rfl;have m7:evE (jaa U W P (n + 6)) U (.bin .mod (.var 8) (.lit (.int 7))) (s9 (.dat (.int x)) (.dat (.int z)))=.ok (.dat (.int (z % 7)),s9 (.dat (.int x)) (.dat (.int z))):=jaN (jaB rfl) jay (jbe z 7 (by decide))
   have d7:evE (jaa U W P (n + 6)) U (.bin .fdiv (.var 8) (.lit (.int 7))) (s9 (.dat (.int x)) (.dat (.int z)))=.ok (.dat (.int (z / 7)),s9 (.dat (.int x)) (.dat (.int z))):=jaN (jaB rfl) jay (jca z 7 (by decide) (by decide))
   simp only[evAs,v2,v3,m7,d7,R.bind_ok'];rfl) k3
  have t1:=jmT (jgf (G:=jaa U W P (n + 6)) (U:=U) (ρ:=s9 (.dat (.int x)) (.dat (.int z))) (es:=.cons (.call 11 [] (.cons (.var 2) (.cons (.var 3) (.cons (.bin .mod (.var 8) (.lit (.int 7))) (.cons (.bin .fdiv (.var 8) (.lit (.int 7))) .nil))))) .nil) [.str (mk l)] (by
   simp only[evAs,cf,R.bind_ok'];rfl) (jjk (W:=W) (n:=n) k2 k1))
  have eg:=jaS (G:=jaa U W P (n + 6)) (U:=U) (ρ:=s9 (.dat (.int x)) (.dat (.int z))) (es:=.cons (.var 6) .nil) [.str (mk (jda m rs))] rfl cg;have ep:evE (jaa U W P (n + 6)) U (.tup (.cons (.var 2) (.cons (.blt .tuple (.var 3)) .nil))) (s9 (.dat (.int x)) (.dat (.int z)))=.ok (.dat (jnb m rs),s9 (.dat (.int x)) (.dat (.int z))):=jgk (jaB rfl) (y:=.tup (rs.map rD)) rfl;have t2:evT (jaa U W P (n + 6)) U (.cmp .ne (.call 4 [] (.cons (.var 6) .nil)) (.tup (.cons (.var 2) (.cons (.blt .tuple (.var 3)) .nil)))) (s9 (.dat (.int x)) (.dat (.int z)))=.ok (false,s9 (.dat (.int x)) (.dat (.int z))):=by
   rw[evT,eg];simp only[R.bind_ok'];rw[ep];simp only[R.bind_ok',jag,jo0,jnq];rfl
  unfold jd1;rw[jak (ρ':=s9 (.dat (.int x)) (.dat (.int z))) (by
   rw[<-hz];simp_arith[s9,rd])]
  rw[jak (jgM t1),jak (jgM t2)];rfl
 let is:List Int:=(List.range 12).map (fun (k:Nat)=>(k:Int))++(ns.take 40).map fun c=>c % 1000000000000000000
 have lp2:=jbX (f:=fun x r=>(putT [7] true x r).bind fun r'=>evSs (jaa U W P (n + 6)) U W jd1 r') (h:=D.int) (fun ρ=>∃s7 s8,ρ=s9 s7 s8) (xs:=is) (ρ:=s9 .no .no) ⟨_,_,rfl⟩ fun x hx ρ hρ=>by
  obtain⟨s7,s8,rfl⟩:=hρ;exact⟨_,turn x s7 s8,_,_,rfl⟩
 obtain⟨ρ2,e2,s7,s8,rfl⟩:=lp2;refine⟨[.no],?_⟩;show (evSs (jaa U W P (n + 6)) U W ji1 [sc,.no,.no,.no,.no,.no,.no,.no,.no]).bind (jc8 1)=_;unfold ji1;have ed':jaa U W P (n + 6) 5 [.dat (.lst ((ns.take 63).map .int)),.dat (.int 72)]=.ok (.tmp (.l ((xs2++[c2]++[c1]).map .int)),[.no,.no]):=ed;rw[jak (ρ':=[sc,dk (xs2++[c2]++[c1]),.no,.no,.no,.no,.no,.no,.no]) (by
  have hc:cut (ns.map D.int) none (some 63)=(ns.take 63).map D.int:=by
   rw[show (63:Int)=((63:Nat):Int)from rfl,jdX,List.map_take]
  simp_arith[sc,hc,jaI,jdH,List.headD_nil,List.tail_nil,ed',jaY]
  rfl)]
 rw[jak (ρ':=[sc,dk (xs2++[c2]),.dat (.int m),.no,.no,.no,.no,.no,.no]) (by
  have ep:=jkM (G:=jaa U W P (n + 6)) (U:=U) (h:=D.int) (i:=1) (ys:=xs2++[c2]) (c:=c1) (f:=false) (ρ:=[sc,dk (xs2++[c2]++[c1]),.no,.no,.no,.no,.no,.no,.no]) rfl;rw[hmz];exact jdU (jaN jay (jaN ep jay (jbe c1 4 (by decide))) jdW) (by simp))]
 rw[jak (ρ':=st (dk (xs2++[c2])) (.own (.l []) false false) .no .no .no .no) (by simp_arith[];rfl)]
 rw[jak (ρ':=st (dk ys) (.own (.l (rs.map rD)) false false) s4 s5 .no .no) (by
  have ep:=jkM (G:=jaa U W P (n + 6)) (U:=U) (h:=D.int) (i:=1) (ys:=xs2) (c:=c2) (f:=false) (ρ:=st (dk (xs2++[c2])) (.own (.l []) false false) .no .no .no .no) rfl;have ei:evI (jaa U W P (n + 6)) U (.rng1 (.bin .add (.lit (.int 1)) (.bin .mod (.pop 1) (.lit (.int 8))))) (st (dk (xs2++[c2])) (.own (.l []) false false) .no .no .no .no)=.ok ((List.range (1 + c2 % 8).toNat).map fun (j:Nat)=>D.int j,[],st (dk xs2) (.own (.l []) false false) .no .no .no .no):=
   jpe (jaN jay (jaN ep jay (jbe c2 8 (by decide))) jdW) rg
  simp only[evS,ei,R.bind_ok',e1,jde,unlk])]
 rw[jak (ρ':=s9 .no .no) (by
  have ct':jaa U W P (n + 6) 8 [.dat (.int m),.dat (.lst (rs.map rD))]=.ok (.dat (.str (mk (jda m rs))),[.no,.no]):=ct;simp_arith[st,jaI,jdH,List.headD_nil,List.tail_nil,ct',jaY];rfl)]
 rw[jak (ρ':=s9 s7 s8) (by
  have ec:evE (jaa U W P (n + 6)) U jd0 (s9 .no .no)=.ok (.tmp (.l ((ns.take 40).map fun c=>D.int (c % 1000000000000000000))),s9 .no .no):=by
   refine jb7 (h:=D.int) (g:=fun c=>.int (c % 1000000000000000000)) (xs:=ns.take 40) ?_ (fun c hc=>by simp_arith[jlr]) fun s=>rfl
   simp_arith[s9,sc,ji0]
   rw[show (40:Int)=((40:Nat):Int)from rfl,jdX]
  have er:evE (jaa U W P (n + 6)) U (.blt .lrng (.lit (.int 12))) (s9 .no .no)=.ok (.tmp (.l (jgC 0 12)),s9 .no .no):=rfl;have hs:jgC 0 12++(ns.take 40).map (fun c=>D.int (c % 1000000000000000000))=is.map D.int:=by
   simp only[is,List.map_append,List.map_map,jgC];rfl
  have f:fits ((jgC 0 12).length + ((ns.take 40).map fun c=>D.int (c % 1000000000000000000)).length)=true:=jba (by simp[jgC];omega)
  have ei:evI (jaa U W P (n + 6)) U (.seq (.bin .add (.blt .lrng (.lit (.int 12))) jd0)) (s9 .no .no)=.ok (is.map D.int,[],s9 .no .no):=by
   have ea:evE (jaa U W P (n + 6)) U (.bin .add (.blt .lrng (.lit (.int 12))) jd0) (s9 .no .no)=.ok (.tmp (.l (is.map D.int)),s9 .no .no):=by
    rw[evE,er];simp only[R.bind_ok'];rw[ec];simp only[R.bind_ok',ja9,jcZ,jcE,f,if_true,hs]
   rw[evI,ea];rfl
  simp only[evS,ei,R.bind_ok',e2,jde,unlk])]
 simp_arith[]
 rfl
end Law
namespace Law
open PySem L2 DJ
theorem jco {K:Frag}{mg:Str->Option Value}{d:DefS}{b:Ss}{i f:Nat}{oc:Value}{od an:Option Addr}{sl:Array (Option Value)}{kV doc pm cd ct:Value}(x:Str)(e:d.name=x)(hm:mg x=some (.ref f))(l:K.lookup f=some ⟨oc,od,.func (PySem.W.fnOf x x (defArgs d.st) (defBody d.st) (defScope d.st) .none kV doc pm an cd ct),sl⟩)
  (c:PySem.W.codeIn K cd x=true) (k:PySem.W.keepIn K (.ref f)=true) (hb:BindP d) (hs:FnScope d.N d.ps (defScope d.st)) (ht:(mapO (trS T 60 false (defScope d.st).names d.N) (defBody d.st)).map toSs=some b) (hP:P[i]?=some ⟨d.ps.length,d.N.length,b⟩) :
  ∃f fd,mg d.name=some (.ref f)/\Fun K d.name d.name d.st f fd/\BindP d/\FnScope d.N d.ps (defScope d.st)/\∃ss,mapO (trS T 60 false (defScope d.st).names d.N) (defBody d.st)=some ss/\P[i]?=some ⟨d.ps.length,d.N.length,toSs ss⟩:=by
 subst e;obtain⟨ss,e1,e2⟩:=Option.map_eq_some_iff.mp ht;exact⟨f,_,hm,jn9 l c k,hb,hs,ss,e1,by rw[e2];exact hP⟩
theorem jhh {K:Frag}{C:Addr}{v:ClassData}(h:PySem.W.clsIn K C=some v):(PySem.W.clsIn K C).isSome=true:=by rw[h];rfl
end Law
open PySem PySem.W PyProof.Rows Law DJ
set_option maxRecDepth 100000 in
set_option maxHeartbeats 0 in
theorem PySem.Challenge.cw_tallysets_k52_grammars_refused_holds : PySem.Challenge.rw_tallysets_k52_grammars_refused.Holds := by
 w_on;o_law;k_head;(case hw=>w_witness2)
 k_fill
 refine' DJ.jiK (l:=PySem.Challenge.rw_tallysets_k52_grammars_refused) (cl:=[?C0,?C1,?C2,?C3,?C4,?C5]) (U:=Law.U) (T:=Law.T) (DS:=Law.DS) (P:=Law.P) (fuel:=60) (W:=73) (n:=7) (i:=12) (x:="_law_script") (dl:=Law.d_law) rfl rfl ⟨rfl,by decide,by decide⟩ (fun w h Y=>PySem.W.kIn_of Y) rfl rfl rfl ?F (fun ns hl=>Law.jqu (W:=73) (n:=0) ns (jr1 _))
 case F=>
  intro w mg h X G;refine' ⟨rfl,rfl,rfl,(jbN (mg_none_of X G ?z0) (jbN (mg_none_of X G ?z1) (jbN (mg_none_of X G ?z2) (jbN (mg_none_of X G ?z3) (jbN (mg_none_of X G ?z4) (jbN (mg_none_of X G ?z5) (jbN (mg_none_of X G ?z6) (jbN (mg_none_of X G ?z7) (jbN (mg_none_of X G ?z8) (jbN (mg_none_of X G ?z9) (jbN (mg_none_of X G ?z10) (jbN (mg_none_of X G ?z11) (jbN (mg_none_of X G ?z12) (jbN (mg_none_of X G ?z13) (jbN (mg_none_of X G ?z14) (jbN (mg_none_of X G ?z15) (jbN (mg_none_of X G ?z16) (jbN (mg_none_of X G ?z17) (jbN (mg_none_of X G ?z18) (jbN (mg_none_of X G ?z19) (jbN (mg_none_of X G ?z20) jp6))))))))))))))))))))),?cons,From.at (jai ⟨?C0,rfl,mg_of X G ?e0⟩ (jai ⟨?C1,rfl,mg_of X G ?e1⟩ (jai ⟨?C2,rfl,mg_of X G ?e2⟩ (jai ⟨?C3,rfl,mg_of X G ?e3⟩ (jai ⟨?C4,rfl,mg_of X G ?e4⟩ (jai ⟨?C5,rfl,mg_of X G ?e5⟩ jdS)))))),⟨(jbN ⟨?ga0,?hk0,?ca0,?y0,?y1,?mo0,?mb0,?m0_0,?mv0,jhh ?cd_0,?ty0⟩ (jbN ⟨?ga1,?hk1,?ca1,?y0,?y1,?mo1,?mb1,?m1_1,?mv1,jhh ?cd_1,?ty1⟩ (jbN ⟨?ga2,?hk2,?ca2,?y0,?y1,?mo2,?mb2,?m2_2,?mv2,jhh ?cd_2,?ty2⟩ (jbN ⟨?ga3,?hk3,?ca3,?y0,?y1,?mo3,?mb3,?m3_3,?mv3,jhh ?cd_3,?ty3⟩ (jbN ⟨?ga4,?hk4,?ca4,?y0,?y1,?mo4,?mb4,?m4_4,?mv4,jhh ?cd_4,?ty4⟩ (jbN ⟨?ga5,?hk5,?ca5,?y0,?y1,?mo5,?mb5,?m5_5,?mv5,jhh ?cd_5,?ty5⟩ jp6)))))),fun i j C D hi hj=>From.at (Q:=fun i C=>∀(j:Nat) (D:Addr),([?C0,?C1,?C2,?C3,?C4,?C5]:List Addr)[j]?=some D->mroIn _ C (.ref D)=some (Law.U i j)) (jai (From.at (jai ?m0_0 (jai ?m0_1 (jai ?m0_2 (jai ?m0_3 (jai ?m0_4 (jai ?m0_5 jdS))))))) (jai (From.at (jai ?m1_0 (jai ?m1_1 (jai ?m1_2 (jai ?m1_3 (jai ?m1_4 (jai ?m1_5 jdS))))))) (jai (From.at (jai ?m2_0 (jai ?m2_1 (jai ?m2_2 (jai ?m2_3 (jai ?m2_4 (jai ?m2_5 jdS))))))) (jai (From.at (jai ?m3_0 (jai ?m3_1 (jai ?m3_2 (jai ?m3_3 (jai ?m3_4 (jai ?m3_5 jdS))))))) (jai (From.at (jai ?m4_0 (jai ?m4_1 (jai ?m4_2 (jai ?m4_3 (jai ?m4_4 (jai ?m4_5 jdS))))))) (jai (From.at (jai ?m5_0 (jai ?m5_1 (jai ?m5_2 (jai ?m5_3 (jai ?m5_4 (jai ?m5_5 jdS))))))) jdS)))))) i C hi j D hj⟩,(jbN ⟨⟨[.type "ValueError",.type "Exception",.type "BaseException",.type "object"],_,"ValueError.__new__",_,?xx0,F.excBase_ValueError⟩,"TallyError",?e0⟩ (jbN ⟨⟨[.type "ValueError",.type "Exception",.type "BaseException",.type "object"],_,"ValueError.__new__",_,?xx1,F.excBase_ValueError⟩,"NoTally",?e1⟩ (jbN ⟨⟨[.type "ValueError",.type "Exception",.type "BaseException",.type "object"],_,"ValueError.__new__",_,?xx2,F.excBase_ValueError⟩,"NoFan",?e2⟩ (jbN ⟨⟨[.type "ValueError",.type "Exception",.type "BaseException",.type "object"],_,"ValueError.__new__",_,?xx3,F.excBase_ValueError⟩,"NoText",?e3⟩ (jbN ⟨⟨[.type "ValueError",.type "Exception",.type "BaseException",.type "object"],_,"ValueError.__new__",_,?xx4,F.excBase_ValueError⟩,"NoTree",?e4⟩ (jbN ⟨⟨[.type "ValueError",.type "Exception",.type "BaseException",.type "object"],_,"ValueError.__new__",_,?xx5,F.excBase_ValueError⟩,"TooGreat",?e5⟩ jp6)))))),From.at (jai (jco "is_sign" rfl (mg_of X G ?a0) ?l0 ?c0 ?k0 ji4 ji2 ji3 rfl) (jai (jco "signs_in" rfl (mg_of X G ?a1) ?l1 ?c1 ?k1 jhb jg9 jha rfl) (jai (jco "read_right" rfl (mg_of X G ?a2) ?l2 ?c2 ?k2 jeI jeG jeH rfl) (jai (jco "read_rule" rfl (mg_of X G ?a3) ?l3 ?c3 ?k3 jft jfr jfs rfl) (jai (jco "read_grammar" rfl (mg_of X G ?a4) ?l4 ?c4 ?k4 jdj jdh jdi rfl) (jai (jco "_law_deck" rfl (mg_of X G ?a5) ?l5 ?c5 ?k5 jfw jfu jfv rfl) (jai (jco "_law_right" rfl (mg_of X G ?a6) ?l6 ?c6 ?k6 jeL jeJ jeK rfl) (jai (jco "_law_refused" rfl (mg_of X G ?a7) ?l7 ?c7 ?k7 jdm jdk jdl rfl) (jai (jco "_law_text" rfl (mg_of X G ?a8) ?l8 ?c8 ?k8 jfz jfx jfy rfl) (jai (jco "_law_bad_right" rfl (mg_of X G ?a9) ?l9 ?c9 ?k9 jcv jct jcu rfl) (jai (jco "_law_bad_rule" rfl (mg_of X G ?a10) ?l10 ?c10 ?k10 jc3 jc1 jc2 rfl) (jai (jco "_law_faulty" rfl (mg_of X G ?a11) ?l11 ?c11 ?k11 jd4 jd2 jd3 rfl) (jai (jco "law" rfl (mg_of X G ?a12) ?l12 ?c12 ?k12 jqm jqk jql rfl) jdS)))))))))))))⟩;case cons=>
   intro x d hx;simp only[Law.T,List.lookup_cons]at hx;split at hx
   ·rename_i e;cases hx;have e:x="LETTERS":=by simpa using e
    subst e;refine' ⟨_,.str "abcd",mg_of X G ?qc0,⟨_,?rc0⟩,fun _ _=>by simp only[Rep]⟩
    case qc0=>k_is
    case rc0=>rfl
   split at hx
   ·rename_i e;cases hx;have e:x="SIGNS":=by simpa using e
    subst e;refine' jlp ["A","B","C"] (mg_of X G ?qc1) ?lc1 ?vc1;case qc1=>k_is
    case lc1=>first | k_is | (dsimp only;k_is)
    case vc1=>decide +kernel
   split at hx
   ·rename_i e;cases hx;have e:x="MANIES":=by simpa using e
    subst e;refine' jlp ["1","2","3","4"] (mg_of X G ?qc2) ?lc2 ?vc2;case qc2=>k_is
    case lc2=>first | k_is | (dsimp only;k_is)
    case vc2=>decide +kernel
   split at hx
   ·rename_i e;cases hx;have e:x="MOST_RULES":=by simpa using e
    subst e;refine' ⟨_,.int 8,mg_of X G ?qc3,⟨_,?rc3⟩,fun _ _=>by simp only[Rep]⟩
    case qc3=>k_is
    case rc3=>rfl
   split at hx
   ·rename_i e;cases hx;have e:x="MOST_PLACES":=by simpa using e
    subst e;refine' ⟨_,.int 4,mg_of X G ?qc4,⟨_,?rc4⟩,fun _ _=>by simp only[Rep]⟩
    case qc4=>k_is
    case rc4=>rfl
   split at hx
   ·rename_i e;cases hx;have e:x="MOST_SIGNS":=by simpa using e
    subst e;refine' ⟨_,.int 2,mg_of X G ?qc5,⟨_,?rc5⟩,fun _ _=>by simp only[Rep]⟩
    case qc5=>k_is
    case rc5=>rfl
   ·cases hx
  all_goals (try first | k_is | (dsimp only;k_is))
  all_goals (try first | k_is | (dsimp only;k_is))
  all_goals (try first | k_exc | (dsimp only;k_exc))
