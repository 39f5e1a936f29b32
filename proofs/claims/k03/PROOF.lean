import PyProof.Rows.All
import Wide.All
import OpenK.AllK
import Wide.FinOn
import Lean
import PyProof.EqAt
import PyProof.EqKinds
import PyProof.TupleCall
import PySem.Challenge.RW_tallysets_k03_fans_made
open List renaming getElem?_eq_getElem → juK, mem_cons_of_mem → juL, mem_cons_self → juM, mem_cons → juN, size_toArray → juO, getElem?_set → juP, getElem?_map → juQ, map_cons → juR, getD_eq_getElem?_getD → juS, length_map → juT, length_cons → juU, mem_append_right → juV, mem_of_getElem? → juW, getElem?_append_right → juX, length_append → juY, filterMap_cons → juZ, getElem?_eq_none → ju0, getElem?_append_left → ju1, getElem?_set_ne → ju2, all_eq_true → ju3, getElem?_cons_zero → ju4, getElem?_cons_succ → ju5, length_nil → ju6, mem_append_left → ju7, length_set → ju8, append_nil → ju9, append_assoc → jva, not_mem_nil → jvb
open PySem renaming wpAny_bind → jvc, wpAny_pure → jvd, wpAny_ite_false → jve, wpAny_of_eq → jvf, wpAny_newObj_type → jvg, wpAny_holding → jvh, wpAny_field → jvi, wpAny_mono → jvj, wpAny_setState_of → jvk
open PySem.Heap renaming get?_push_of_some → jvl, lt_size → jvm, get?_push_size → jvn, get?_update_self → jvo, get?_update_other → jvp
open Nat renaming le_refl → jvq, lt_of_lt_of_le → jvr, ne_of_lt → jvs, le_trans → jvt, lt_irrefl → jvu
open Bool renaming and_eq_true → jvv, false_eq_true → jvw, false_ne_true → jvx
open PySem.W renaming mroIn → jvy, nsIn → jvz, mg_none_of → jvA, keepIn → jvB, mg_of → jvC, codeIn → jvD, findIn → jvE
set_option linter.all false
set_option maxRecDepth 100000
set_option Elab.async false
set_option maxHeartbeats 4000000
set_option bootstrap.genMatcherCode false
set_option genSizeOfSpec false
set_option compiler.extract_closed false
local macro_rules | `(tactic| omega)=>`(tactic| first | lia | omega +splitDisjunctions)
namespace L2
open PySem PySem.Spec PyProof.Rows
noncomputable abbrev Key:=Sum Int Str
noncomputable def jqs:Key->Value->Bool
 |.inl k,v=>Value.isInt k v
 |.inr x,v=>Value.isStrOf x v
noncomputable def jua (w:World):Key->Int
 |.inl k=>hashInt k
 |.inr x=>hashStr w x
theorem jas:∀{k:Key}{v:Value},jqs k v=true->(∃i t,k=Sum.inl i/\v=Value.int i t)\/(∃x t,k=Sum.inr x/\v=Value.str x t)
 |.inl i,v,h=>by
  obtain⟨t,e⟩:=Value.isInt_shape (k:=i) (v:=v) h;exact .inl ⟨i,t,rfl,e⟩
 |.inr x,v,h=>by
  obtain⟨t,e⟩:=Value.isStrOf_shape (x:=x) (v:=v) h;exact .inr ⟨x,t,rfl,e⟩
theorem jqt (a b:Int):decide ((Sum.inl a:Key)=Sum.inl b)=(a == b):=by
 by_cases e:a=b
 ·subst e;simp
 ·have h:¬ (Sum.inl a:Key)=Sum.inl b:=fun q=>e (Sum.inl.inj q);rw[decide_eq_false h];exact(beq_eq_false_iff_ne.mpr e).symm
theorem jqu (a b:Str):decide ((Sum.inr a:Key)=Sum.inr b)=decide (a=b):=by
 by_cases e:a=b
 ·subst e;simp
 ·have h:¬ (Sum.inr a:Key)=Sum.inr b:=fun q=>e (Sum.inr.inj q);rw[decide_eq_false h,decide_eq_false e]
theorem jqv (a:Int)(b:Str):decide ((Sum.inl a:Key)=Sum.inr b)=false:=decide_eq_false (fun q=>nomatch q)
theorem jqw (a:Str)(b:Int):decide ((Sum.inr a:Key)=Sum.inl b)=false:=decide_eq_false (fun q=>nomatch q)
noncomputable def jgg (prog:Program)(w:World):PySem.KeyKind prog w Key where
 is:=jqs
 hash:=jua w
 inj:=fun v a b ha hb=>by
  rcases jas ha with ⟨i,t,rfl,rfl⟩ | ⟨x,t,rfl,rfl⟩
  ·rcases jas hb with ⟨j,u,rfl,e⟩ | ⟨y,u,rfl,e⟩
   ·injection e with e1 _;rw[e1]
   ·exact nomatch e
  ·rcases jas hb with ⟨j,u,rfl,e⟩ | ⟨y,u,rfl,e⟩
   ·exact nomatch e
   ·injection e with e1 _;rw[e1]
 byValue:=fun k v h=>by
  rcases jas h with ⟨i,t,rfl,rfl⟩ | ⟨x,t,rfl,rfl⟩ <;> rfl
 pyHash:=fun hv h=>by
  rcases jas hv with ⟨i,t,rfl,rfl⟩ | ⟨x,t,rfl,rfl⟩
  ·exact wpAny_pyHash_int h
  ·exact wpAny_pyHash_str h
 eqBool:=fun hu hv h=>by
  rcases jas hu with ⟨i,t,rfl,rfl⟩ | ⟨x,t,rfl,rfl⟩
  ·rcases jas hv with ⟨j,u,rfl,rfl⟩ | ⟨y,u,rfl,rfl⟩
   ·rw[jqt]at h;exact wpAny_eqBool_int h
   ·rw[jqv]at h;exact SeqAt.EqAt.int_str i t y u _ _ _ _ h
  ·rcases jas hv with ⟨j,u,rfl,rfl⟩ | ⟨y,u,rfl,rfl⟩
   ·rw[jqw]at h;exact SeqAt.EqAt.str_int x t j u _ _ _ _ h
   ·rw[jqu]at h;exact wpAny_eqBool_str h
 «strs»:=fun k x t v h=>by
  rcases jas h with ⟨i,u,rfl,e⟩ | ⟨y,u,rfl,e⟩
  ·exact nomatch e
  ·injection e with e1 _
   subst e1;cases v <;> rfl
end L2
namespace L2
open PySem PySem.Spec PyProof.Rows
inductive V where
 |non | bl (b:Bool) | int (i:Int) | str (x:Str) | byt (b:Array UInt8) | flt (b:UInt64) | ref (a:Addr) | ty (n:String)
 deriving DecidableEq
noncomputable def RelV:V->Value->Prop
 |.non,u=>u=Value.none
 |.bl b,u=>u=Value.bool b
 |.int i,u=>∃t,u=Value.int i t
 |.str x,u=>∃t,u=Value.str x t
 |.byt b,u=>∃t,u=Value.bytes b t
 |.flt b,u=>∃t,u=Value.float b t
 |.ref a,u=>u=Value.ref a
 |.ty n,u=>u=Value.type n
noncomputable abbrev Vals:List V->List Value->Prop:=Paired RelV
theorem Vals.length {xs:List V}{us:List Value}(r:Vals xs us):xs.length=us.length:=Paired.length r
theorem Vals.get:∀{xs:List V}{us:List Value}{i:Nat}{x:V},Vals xs us->xs[i]?=some x->∃u,us[i]?=some u/\RelV x u
 |_,_,_,_,.nil,e=>by simp at e
 |_,_,0,_,.cons r _,e=>by simp at e;subst e;exact⟨_,rfl,r⟩
 |_,_,i + 1,x,.cons _ t,e=>by
  obtain⟨u,h1,h2⟩:=Vals.get (i:=i) (x:=x) t (by simpa using e)
  exact⟨u,by simpa using h1,h2⟩
theorem Vals.set {x:V}{u:Value}(r:RelV x u):∀{xs:List V}{us:List Value} (i:Nat),Vals xs us->Vals (xs.set i x) (us.set i u)
 |_,_,_,.nil=>.nil
 |_,_,0,.cons _ t=>.cons r t
 |_,_,i + 1,.cons q t=>.cons q (Vals.set r i t)
theorem Vals.append {xs ys:List V}{us ws:List Value}(h:Vals xs us)(s:Vals ys ws):Vals (xs++ys) (us++ws):=by
 induction h with
 |nil=>exact s
 |cons r t ih=>exact .cons r ih
theorem Vals.take:∀{xs:List V}{us:List Value} (n:Nat),Vals xs us->Vals (xs.take n) (us.take n)
 |_,_,0,_=>.nil
 |_,_,_ + 1,.nil=>.nil
 |_,_,n + 1,.cons r t=>.cons r (Vals.take n t)
theorem Vals.drop:∀{xs:List V}{us:List Value} (n:Nat),Vals xs us->Vals (xs.drop n) (us.drop n)
 |_,_,0,r=>r
 |_,_,_ + 1,.nil=>.nil
 |_,_,n + 1,.cons _ t=>Vals.drop n t
noncomputable def jtK:Option V->Option Value->Prop
 |some v,some u=>RelV v u
 |none,none=>True
 |_,_=>False
noncomputable def KV {κ:Type}:List (κ×V)->List (κ×Value)->Prop:=Paired fun (p:κ×V) (q:κ×Value)=>p.1=q.1/\RelV p.2 q.2
noncomputable def kV:Key->V
 |.inl i=>.int i
 |.inr x=>.str x
inductive HO where
 |lst (xs:List V)
 |tup (xs:List V)
 |dK (kvs:List (Key×V)) | dT (kvs:List (List Key×V))
 |set (S:Int->Bool) (n:Nat)
 |ins (C dx:Addr) (fs:List (Str×V))
 |own (x:Addr)
 |xd (fs:List (Str×V))
 |met (f x:Addr)
 |rng (lo hi:Int)
 |frz (o:Obj) (u:HO)
 |tbl (ps:Array Value)
 |ext (φ:Heap->Prop)
noncomputable abbrev Hp:=Addr->Option HO
noncomputable def upd (H:Hp)(a:Addr)(o:HO):Hp:=fun b=>if b=a then some o else H b
theorem jaj {H:Hp}{a:Addr}{o:HO}:upd H a o a=some o:=by unfold upd;rw[if_pos rfl]
theorem jac {H:Hp}{a b:Addr}{o:HO}(h:b≠a):upd H a o b=H b:=by unfold upd;rw[if_neg h]
theorem jab {H:Hp}{a b:Addr}{o:HO}(h:H a=some o)(h':H b=none):a≠b:=by
 intro e;subst e;rw[h]at h';cases h'
section
variable (P:Program) (w:World)
noncomputable def ObjOk (H:Hp)(h:Heap)(a:Addr):HO->Prop
 |.lst xs=>xs.length<=sizeLine/\∃(its:List Value) (n:Nat),Vals xs its/\h.get? a=some { cls:=.type "list",data:=.seq its.toArray n }
 |.tup xs=>xs.length<=sizeLine/\∃its:List Value,Vals xs its/\IsTup h a its.toArray
 |.dK kvs=>kvs.length<=sizeLine/\(a == sysModules)=false/\∃vs,KV kvs vs/\h.DictOf (jgg P w) a vs
 |.dT kvs=>kvs.length<=sizeLine/\(a == sysModules)=false/\∃xs:List (List Key×Addr×Value),
   Paired (fun (p:List Key×V) (q:List Key×Addr×Value)=>p.1=q.1/\H q.2.1=some (.tup (p.1.map kV))/\RelV p.2 q.2.2) kvs xs /\
   ∃o es ep,h.get? a=some o/\o.ExactDict/\o.data=.dict es ep/\es.toList=xs.map (entryOfKey (tupleKind (jgg P w)))/\(xs.map (·.1)).Nodup
 |.set S n=>h.SetOf (intKind P w) a S n
 |.ins C dx fs=>H dx=some (.own a)/\fs.length<=1000/\dx≠a/\h.get? a=some (PySem.W.instObj C dx) /\
   ∃mA,h.Ns1 dx mA/\(∀f,jtK (fs.lookup f) (mA f))/\PySem.Within mA (fs.map (·.1))
 |.own _=>∃o,h.get? a=some o
 |.xd fs=>∃mA,h.Ns1 a mA/\∀f,jtK (fs.lookup f) (mA f)
 |.rng lo hi=>∃t u v,h.get? a=some { cls:=.type "range",data:=.fields #[.int lo t,.int hi u,.int 1 v] }
 |.frz o u=>h.get? a=some o/\ObjOk H h a u
 |.tbl ps=>h.get? a=some { cls:=.none,data:=.fields ps }
 |.met f x=>h.get? a=some (PySem.W.methodObj (.ref f) (.ref x))
 |.ext φ=>φ h/\(∃o,h.get? a=some o)/\∀h1 h2:Heap,φ h1->(∀o,h1.get? a=some o->h2.get? a=some o)->φ h2
noncomputable def HOk (H:Hp)(h:Heap):Prop:=∀a o,H a=some o->ObjOk P w H h a o
end
section
variable {P:Program}{w:World}{H H':Hp}{h h':Heap}{a:Addr}{o:HO}
theorem ObjOk.lt (x:ObjOk P w H h a o):a < h.objs.size:=by
 cases o with
 |lst xs=>obtain⟨_,_,_,_,e⟩:=x;exact jvm e
 |tup xs=>obtain⟨_,_,_,p⟩:=x;exact p.lt
 |dK kvs=>obtain⟨_,_,_,_,o,_,_,e,_⟩:=x;exact jvm e
 |dT kvs=>obtain⟨_,_,_,_,o,_,_,e,_⟩:=x;exact jvm e
 |set S n=>obtain⟨o,_,_,_,e,_⟩:=x;exact jvm e
 |ins C dx fs=>obtain⟨_,_,_,e,_⟩:=x;exact jvm e
 |own y=>obtain⟨_,e⟩:=x;exact jvm e
 |xd fs=>obtain⟨_,⟨_,_,_,e,_⟩,_⟩:=x;exact jvm e
 |rng lo hi=>obtain⟨_,_,_,e⟩:=x;exact jvm e
 |frz ob u=>obtain⟨e,_⟩:=x;exact jvm e
 |tbl ps=>exact jvm (show h.get? a=some _ from x)
 |met f y=>exact jvm (show h.get? a=some _ from x)
 |ext φ=>obtain⟨_,⟨_,e⟩,_⟩:=x;exact jvm e
theorem Paired.mapP {α β:Type}{F G:α->β->Prop}{l₁:List α}{l₂:List β}(h:Paired F l₁ l₂)(f:∀a b,F a b->G a b):Paired G l₁ l₂:=by
 induction h with
 |nil=>exact .nil
 |cons r t ih=>exact .cons (f _ _ r) ih
theorem ObjOk.stay (x:ObjOk P w H h a o)(k:∀b u,(b=a\/H b=some (.own a))->h.get? b=some u->h'.get? b=some u)
  (ho:∀b,H b=some (.own a)->H' b=some (.own a)) (ht:∀b xs,H b=some (.tup xs)->H' b=some (.tup xs)):ObjOk P w H' h' a o:=by
 induction o with
 |lst xs=>obtain⟨z,its,n,r,e⟩:=x;exact⟨z,its,n,r,k _ _ (.inl rfl) e⟩
 |tup xs=>obtain⟨z,its,r,ob,e,c⟩:=x;exact⟨z,its,r,ob,k _ _ (.inl rfl) e,c⟩
 |dK kvs=>obtain⟨z,y,vs,r,ob,es,ep,e,c⟩:=x;exact⟨z,y,vs,r,ob,es,ep,k _ _ (.inl rfl) e,c⟩
 |dT kvs=>
  obtain⟨z,y,xs,r,ob,es,ep,e,c⟩:=x;exact⟨z,y,xs,Paired.mapP r fun p q z=>⟨z.1,ht _ _ z.2.1,z.2.2⟩,ob,es,ep,k _ _ (.inl rfl) e,c⟩
 |set S n=>obtain⟨ob,es,ep,t,e,c⟩:=x;exact⟨ob,es,ep,t,k _ _ (.inl rfl) e,c⟩
 |ins C dx fs=>
  obtain⟨d,z,ne,e,mA,⟨od,es,ep,e2,c⟩,r⟩:=x;exact⟨ho _ d,z,ne,k _ _ (.inl rfl) e,mA,⟨od,es,ep,k _ _ (.inr d) e2,c⟩,r⟩
 |own y=>obtain⟨ob,e⟩:=x;exact⟨ob,k _ _ (.inl rfl) e⟩
 |xd fs=>obtain⟨mA,⟨od,es,ep,e,c⟩,r⟩:=x;exact⟨mA,⟨od,es,ep,k _ _ (.inl rfl) e,c⟩,r⟩
 |rng lo hi=>obtain⟨t,u,v,e⟩:=x;exact⟨t,u,v,k _ _ (.inl rfl) e⟩
 |frz ob u ih=>obtain⟨e,q⟩:=x;exact⟨k _ _ (.inl rfl) e,ih q⟩
 |tbl ps=>
  have e:h.get? a=some { cls:=.none,data:=.fields ps }:=x;show h'.get? a=some { cls:=.none,data:=.fields ps };exact k a _ (.inl rfl) e
 |met f y=>
  have e:h.get? a=some (PySem.W.methodObj (.ref f) (.ref y)):=x;show h'.get? a=some (PySem.W.methodObj (.ref f) (.ref y));exact k a _ (.inl rfl) e
 |ext φ=>obtain⟨p,⟨o,e⟩,st⟩:=x;exact⟨st _ _ p fun o q=>k _ _ (.inl rfl) q,⟨o,k _ _ (.inl rfl) e⟩,st⟩
theorem HOk.lt (x:HOk P w H h)(e:H a=some o):a < h.objs.size:=(x a o e).lt
theorem HOk.fresh (x:HOk P w H h)(e:h.objs.size<=a):H a=none:=by
 cases q:H a with
 |none=>rfl
 |some u=>exact absurd (jvr (x.lt q) e) (jvu _)
theorem HOk.kept (x:HOk P w H h)(k:∀b u,h.get? b=some u->h'.get? b=some u):HOk P w H h':=fun a o e=>
 (x a o e).stay (fun b u _ q=>k b u q) (fun _ q=>q) fun _ _ q=>q
theorem HOk.laid (x:HOk P w H h)(k:∀b u,h.get? b=some u->h'.get? b=some u)(hp:h.objs.size<=a)(new:ObjOk P w (upd H a o) h' a o):HOk P w (upd H a o) h':=fun b u e=>by
 have hn:=x.fresh hp;by_cases hb:b=a
 ·subst hb;rw[jaj]at e;cases e;exact new
 ·rw[jac hb]at e;exact(x b u e).stay (fun c v _ q=>k c v q) (fun c q=>by rw[jac (jab q hn)];exact q) fun c xs q=>by rw[jac (jab q hn)];exact q
end
noncomputable def Rd (H:Hp)(a:Addr)(u:HO):Prop:=H a=some u\/∃o,H a=some (.frz o u)
theorem Rd.ok {P:Program}{w:World}{H:Hp}{h:Heap}{a:Addr}{u:HO}(r:Rd H a u)(x:HOk P w H h):ObjOk P w H h a u:=by
 rcases r with r | ⟨o,r⟩
 ·exact x a u r
 ·obtain⟨_,q⟩:=x a _ r;exact q
noncomputable def Mut:Option HO->Prop
 |some (.lst _)=>True
 |some (.dK _)=>True
 |some (.dT _)=>True
 |some (.set _ _)=>True
 |some (.ins _ _ _)=>True
 |some (.ext _)=>True
 |_=>False
section
variable {P:Program}{w:World}{H:Hp}{h h':Heap}{x e:Addr}{o':HO}
theorem HOk.write (ok:HOk P w H h)(mu:Mut (H x))(he:e=x\/H e=some (.own x))(k:∀b u,b≠e->h.get? b=some u->h'.get? b=some u)(heo:∃u,h'.get? e=some u)
  (new:ObjOk P w (upd H x o') h' x o'):HOk P w (upd H x o') h':=fun b u q=>by
 have nown:∀c y,H c=some (.own y)->c≠x:=fun c y r z=>by subst z;rw[r]at mu;exact mu
 have ntup:∀c xs,H c=some (.tup xs)->c≠x:=fun c xs r z=>by subst z;rw[r]at mu;exact mu
 by_cases hb:b=x
 ·subst hb;rw[jaj]at q;cases q;exact new
 ·rw[jac hb]at q;by_cases hbe:b=e
  ·have q':H b=some (.own x):=by
    rcases he with z | z
    ·exact absurd (hbe.trans z) hb
    ·rw[hbe];exact z
   rw[q]at q';cases q';obtain⟨v,hv⟩:=heo;exact⟨v,by rw[hbe];exact hv⟩
  ·refine(ok b u q).stay (fun c v hc r=>k c v ?_ r) (fun c r=>by rw[jac (nown c b r)];exact r) fun c xs r=>by rw[jac (ntup c xs r)];exact r
   rcases hc with rfl | hc
   ·exact hbe
   ·rintro rfl;rcases he with z | z
    ·exact nown c b hc z
    ·rw[hc]at z;cases z;exact hb rfl
end
structure Un (fs ex:List Addr)(H H':Hp)(h h':Heap):Prop where
 keep:∀b o,h.get? b=some o->H b=none->b ∉ fs->b ∉ ex->h'.get? b=some o
 slot:∀b o,h.get? b=some o->H b=none->b∈fs->b ∉ ex->∃sl,h'.get? b=some { o with slots:=sl }
 free:∀b o,h.get? b=some o->H b=none->b ∉ ex->H' b=none
 there:∀b o,h.get? b=some o->b ∉ ex->∃o',h'.get? b=some o'
 tups:∀b xs,H b=some (.tup xs)->H' b=some (.tup xs)
 frzs:∀b o u,H b=some (.frz o u)->H' b=some (.frz o u)
 tbls:∀b ps,H b=some (.tbl ps)->∃more,H' b=some (.tbl (ps++more))
section
variable {fs fs' ex ex':List Addr}{H H1 H2:Hp}{h h1 h2 h':Heap}{a x e:Addr}{o:HO}
theorem Un.any (u:Un fs ex H H1 h h1){b:Addr}{ob:Obj}(q:h.get? b=some ob)(n:H b=none)(hx:b ∉ ex):∃sl,h1.get? b=some { ob with slots:=sl }:=by
 by_cases hb:b∈fs
 ·exact u.slot b ob q n hb hx
 ·exact⟨ob.slots,u.keep b ob q n hb hx⟩
theorem Un.kept (k:∀b u,h.get? b=some u->h'.get? b=some u):Un fs ex H H h h':=
 ⟨fun b ob q _ _ _=>k b ob q,fun b ob q _ _ _=>⟨ob.slots,k b ob q⟩,fun _ _ _ n _=>n,fun b ob q _=>⟨ob,k b ob q⟩,fun _ _ q=>q,fun _ _ _ q=>q,fun _ ps q=>⟨#[],by rw[q];simp⟩⟩
theorem Un.refl:Un fs ex H H h h:=Un.kept fun _ _ q=>q
theorem Un.laid (k:∀b u,h.get? b=some u->h'.get? b=some u)(hp:h.objs.size<=a)(hn:H a=none):Un fs ex H (upd H a o) h h' where
 keep:=fun b u q _ _ _=>k b u q
 slot:=fun b u q _ _ _=>⟨u.slots,k b u q⟩
 free:=fun b u q n _=>by rw[jac (jvs (jvr (jvm q) hp))];exact n
 there:=fun b u q _=>⟨u,k b u q⟩
 tups:=fun b xs q=>by rw[jac (jab q hn)];exact q
 frzs:=fun b u xs q=>by rw[jac (jab q hn)];exact q
 tbls:=fun b ps q=>⟨#[],by rw[jac (jab q hn),q];simp⟩
theorem Un.write (mu:Mut (H x))(he:e=x\/H e=some (.own x))(k:∀b u,b≠e->h.get? b=some u->h'.get? b=some u)(heo:∃u,h'.get? e=some u):Un fs ex H (upd H x o) h h':=by
 have hx:∀b,H b=none->b≠x:=fun b n z=>by subst z;rw[n]at mu;exact mu
 have hb:∀b,H b=none->b≠e:=fun b n z=>by
  subst z;rcases he with r | r
  ·exact hx b n r
  ·rw[n]at r;cases r
 have hm:∀b u,H b=some u->¬ Mut (some u)->b≠x:=fun b u q nm z=>by subst z;rw[q]at mu;exact nm mu
 refine⟨fun b u q n _ _=>k b u (hb b n) q,fun b u q n _ _=>⟨u.slots,k b u (hb b n) q⟩,fun b u q n _=>by rw[jac (hx b n)];exact n,fun b u q _=>?_,
  fun b xs q=>by rw[jac (hm b _ q fun z=>z)];exact q,fun b u xs q=>by rw[jac (hm b _ q fun z=>z)];exact q,fun b ps q=>⟨#[],by rw[jac (hm b _ q fun z=>z),q];simp⟩⟩
 by_cases hbe:b=e
 ·subst hbe;exact heo
 ·exact⟨u,k b u hbe q⟩
end
noncomputable def trk (h:Heap)(H:Hp):List Addr:=(List.range h.objs.size).filter fun a=>(H a).isSome
noncomputable def jlu (h:Heap)(H:Hp):Heap:=PySem.W.hideAll h (trk h H)
theorem ji2 (h:Heap)(H:Hp):(jlu h H).objs.size=h.objs.size:=PySem.W.hideAll_size _ _
theorem jlv {h:Heap}{H:Hp}{b:Addr}{o:Obj}(e:h.get? b=some o)(n:H b=none):(jlu h H).get? b=some o:=
 PySem.W.hideAll_get _ e fun hm=>by
  have q:(H b).isSome=true:=(List.mem_filter.mp hm).2;rw[n]at q;simp at q
theorem joc {h:Heap}{H:Hp}{b:Addr}{o:Obj}(e:(jlu h H).get? b=some o):h.get? b=some o/\H b=none:=by
 have e':h.get? b=some o:=PySem.W.of_hideAll (trk h H) e;refine⟨e',?_⟩;cases q:H b with
 |none=>rfl
 |some x=>
  have hm:b∈trk h H:=List.mem_filter.mpr ⟨List.mem_range.mpr (jvm e'),by simp[q]⟩
  have z:(jlu h H).get? b=none:=PySem.W.hideAll_none (trk h H) hm;rw[z]at e;cases e
noncomputable def jod (g h:Heap)(L:Addr):List (Addr×Obj):=(List.range h.objs.size).filterMap fun a=>if a=L\/(g.get? a).isSome=true then none else (h.get? a).map fun o=>(a,o)
noncomputable def jdw (g h:Heap)(L d:Addr):List (Addr×Obj):=(jod g h L).filter fun p=>decide (p.1≠d)
end L2
namespace L2
open PySem PySem.Spec PyProof.Rows
structure Mod (K:PySem.W.Frag)(mg:Str->Option Value)(base:Heap):Prop where
 kin:K.In base
 glob:base.Ns mainGlobals mg
 blt:∃mb,base.Ns builtinsNs mb/\∀x:Str,x≠"__name__"->mb x=bootBuiltins x
 nolimit:base.NoLimit
structure Cx where
 prog:Program
 w:World
 K:PySem.W.Frag
 mg:Str->Option Value
 base:Heap
 A:Around
 N:List Str
 s₀:Shared
 H₀:Hp
 env:Env
 outer:List Env
 stack:List Env
 ex:List Addr
 fn:Str->Bool
 calm:Bool
 pn:List (Addr×Obj)
 xe:Value->Shared->Prop
noncomputable def frs (l:List Env):List Addr:=l.filterMap (·.frame)
noncomputable abbrev Cx.fs (X:Cx):List Addr:=frs X.outer
noncomputable def Vis (sc:Scope)(x:Str):Prop:=sc.names.lookup x=some .local\/sc.names.lookup x=some .cell\/sc.names.lookup x=some .free
noncomputable def Loc (sc:Scope)(x:Str):Prop:=sc.names.lookup x=some .local\/sc.names.lookup x=some .cell
noncomputable def Look (env:Env)(h:Heap)(m:Str->Option Value)(x:Str)(u:Value):Prop:=
 (env.kindOf x=some .local/\m x=some u)\/((env.kindOf x=some .cell\/env.kindOf x=some .free)/\∃c,env.cells.lookup x=some c/\h.IsCell c (some u))
structure Cx.Ok (X:Cx):Prop where
 mod:Mod X.K X.mg X.base
 kind:X.env.scope.kind=.function
 glob:X.env.globals=mainGlobals
 blt:X.env.builtins=builtinsNs
 above:X.s₀.heap.objs.size<=X.env.locals
 inj:∀x y c,X.env.cells.lookup x=some c->X.env.cells.lookup y=some c->x=y
 has:∀x,(X.env.kindOf x=some .cell\/X.env.kindOf x=some .free)->∃c,X.env.cells.lookup x=some c
 cab:∀x c,X.fn x=true->X.env.cells.lookup x=some c->X.s₀.heap.objs.size<=c
 hd:X.calm=true->X.A.handled=none
 frames:X.A.frames=some X.stack
 stk:X.stack=X.outer\/(X.stack=X.env::X.outer/\X.env.frame=some X.env.locals)
 exf:∀b∈X.ex,b≠X.env.locals/\∀x c,X.env.cells.lookup x=some c->c≠b
 bs:∀b o,X.base.get? b=some o->X.s₀.heap.get? b=some o/\X.H₀ b=none
 bsz:X.base.objs.size<=X.s₀.heap.objs.size
 noex:∀b o,X.base.get? b=some o->b ∉ X.ex
 exfs:∀b∈X.ex,b ∉ X.fs
 funs:X.s₀.heap.FunFrames X.base X.outer
 frf:∀b∈X.fs,X.H₀ b=none
structure Inv (X:Cx)(pins:List (Addr×Obj))(σ:List (Option V))(H:Hp)(s:Shared):Prop where
 ok:X.Ok
 os:s.os=X.s₀.os
 bare:AllBare s.gens
 base:Un X.fs X.ex X.H₀ H X.s₀.heap s.heap
 loc:∃m,s.heap.Ns X.env.locals m/\∀(i:Nat) (x:Str) (v:V),X.N[i]?=some x->σ[i]?=some (some v)->Vis X.env.scope x->∃u,RelV v u/\Look X.env s.heap m x u
 cell:∀x c,X.env.cells.lookup x=some c->∃v,s.heap.IsCell c v
 free:H X.env.locals=none
 freeC:∀x c,X.env.cells.lookup x=some c->H c=none
 pin:∀p∈X.pn++pins,s.heap.get? p.1=some p.2/\H p.1=none/\p.1≠X.env.locals/\p.1 ∉ X.fs/\∀v,p.2.data≠.cell v
 hok:HOk X.prog X.w H s.heap
 len:σ.length=X.N.length
section
variable {X:Cx}{pins:List (Addr×Obj)}{σ:List (Option V)}{H H':Hp}{s:Shared}{h':Heap}
theorem Cx.Ok.nofr (ok:X.Ok){b:Addr}{o:Obj}(e:X.base.get? b=some o):b ∉ X.fs:=fun hb=>by
 have:=(ok.funs.mem hb).1;rw[e]at this;cases this
theorem Inv.bs (I:Inv X pins σ H s):∀b o,X.base.get? b=some o->s.heap.get? b=some o/\H b=none:=fun b o e=>
 ⟨I.base.keep b o (I.ok.bs b o e).1 (I.ok.bs b o e).2 (I.ok.nofr e) (I.ok.noex b o e),I.base.free b o (I.ok.bs b o e).1 (I.ok.bs b o e).2 (I.ok.noex b o e)⟩
theorem Inv.bk (I:Inv X pins σ H s):∀b o,X.base.get? b=some o->s.heap.get? b=some o:=fun b o e=>(I.bs b o e).1
theorem Inv.mod (I:Inv X pins σ H s):Mod X.K X.mg X.base:=I.ok.mod
theorem Inv.kIn (I:Inv X pins σ H s):X.K.In s.heap:=I.ok.mod.kin.keeps I.bk
theorem Inv.lt (I:Inv X pins σ H s):X.env.locals < s.heap.objs.size:=let ⟨_,hn,_⟩:=I.loc;hn.lt
theorem Inv.sz (I:Inv X pins σ H s):X.s₀.heap.objs.size<=s.heap.objs.size:=jvt I.ok.above (Nat.le_of_lt I.lt)
theorem Inv.nofs (I:Inv X pins σ H s){a:Addr}(h:s.heap.objs.size<=a):a ∉ X.fs:=fun hb=>by
 obtain⟨_,o,ho,_⟩:=I.ok.funs.mem hb;exact absurd (jvr (jvm ho) (jvt I.sz h)) (jvu _)
theorem Inv.cne (I:Inv X pins σ H s):∀x c,X.env.cells.lookup x=some c->c≠X.env.locals:=fun x c e z=>by
 obtain⟨v,o,ho,hd⟩:=I.cell x c e;obtain⟨m,⟨o',es,ep,ho',hd',_⟩,_⟩:=I.loc;rw[z,ho']at ho;cases ho;rw[hd']at hd;cases hd
theorem Inv.funs (I:Inv X pins σ H s):s.heap.FunFrames X.base X.outer:=by
 have all:∀(l:List Env),(∀b∈frs l,b∈X.fs)->X.s₀.heap.FunFrames X.base l->s.heap.FunFrames X.base l:=by
  intro l;induction l with
  |nil=>intro _ _;trivial
  |cons env r ih=>
   intro hs hl;obtain⟨hk,⟨L,o,hf,hn,ho,hd⟩,hr⟩:=hl;have hL:L∈X.fs:=hs L (by unfold frs;rw[juZ,hf];exact juM)
   obtain⟨sl,e⟩:=I.base.slot L o ho (I.ok.frf L hL) hL fun z=>I.ok.exfs L z hL;exact⟨hk,⟨L,_,hf,hn,e,hd⟩,ih (fun b hb=>hs b (by unfold frs;rw[juZ,hf];exact juL _ hb)) hr⟩
 exact all X.outer (fun _ hb=>hb) I.ok.funs
theorem Inv.stack (I:Inv X pins σ H s):s.heap.FunFrames X.base X.stack:=by
 rcases I.ok.stk with e | ⟨e,hf⟩
 ·rw[e];exact I.funs
 ·rw[e];obtain⟨m,hn,_⟩:=I.loc;refine .cons (by rw[I.ok.kind];decide) hf hn ?_ I.funs
  exact Heap.get?_none_of_le (jvt I.ok.bsz I.ok.above)
theorem Inv.stkSub (I:Inv X pins σ H s):∀b∈frs X.stack,b∈X.env.locals::X.fs:=fun b hb=>by
 rcases I.ok.stk with e | ⟨e,hf⟩
 ·rw[e]at hb;exact juL _ hb
 ·rw[e]at hb;unfold frs at hb;rw[juZ,hf]at hb;exact hb
theorem Inv.stkFree (I:Inv X pins σ H s):∀b∈frs X.stack,H b=none:=fun b hb=>by
 rcases List.mem_cons.mp (I.stkSub b hb)with e | hb
 ·rw[e];exact I.free
 ·obtain⟨_,o,ho,_⟩:=I.ok.funs.mem hb;exact I.base.free b o ho (I.ok.frf b hb) fun z=>I.ok.exfs b z hb
theorem Inv.step {g':Array GenState}{t':Nat}{d':Drawn}{ch:List Addr}(I:Inv X pins σ H s)
  (hch:∀b∈ch,(b∈X.ex\/X.s₀.heap.objs.size<=b)/\b≠X.env.locals/\(∀x c,X.env.cells.lookup x=some c->c≠b)/\∀p∈X.pn++pins,p.1≠b)
  (keep:∀b o,b≠X.env.locals->b ∉ X.fs->b ∉ ch->s.heap.get? b=some o->H b=none->h'.get? b=some o)
  (slot:∀b o,b≠X.env.locals->b∈X.fs->b ∉ ch->s.heap.get? b=some o->H b=none->∃sl,h'.get? b=some { o with slots:=sl }) (free:∀b o,b ∉ ch->s.heap.get? b=some o->H b=none->H' b=none)
  (there:∀b o,b ∉ ch->s.heap.get? b=some o->∃o',h'.get? b=some o')
  (tups:∀b xs,H b=some (.tup xs)->H' b=some (.tup xs)) (frzs:∀b o u,H b=some (.frz o u)->H' b=some (.frz o u)) (tbls:∀b ps,H b=some (.tbl ps)->∃more,H' b=some (.tbl (ps++more)))
  (ns:∀m,s.heap.Ns X.env.locals m->h'.Ns X.env.locals m) (hok:HOk X.prog X.w H' h') (hg:AllBare g') :
  Inv X pins σ H' { s with heap:=h',gens:=g',drawn:=d',toks:=t' }:=by
 have neL:∀b o,X.s₀.heap.get? b=some o->b≠X.env.locals:=fun b o e=>jvs (jvr (jvm e) I.ok.above);have neC:∀b o,X.s₀.heap.get? b=some o->b ∉ X.ex->b ∉ ch:=fun b o e hx hb=>by
  rcases (hch b hb).1 with z | z
  ·exact hx z
  ·exact absurd (jvr (jvm e) z) (jvu _)
 have cellK:∀x c,X.env.cells.lookup x=some c->∀v,s.heap.IsCell c v->h'.IsCell c v:=fun x c e v ⟨o,ho,hd⟩=>by
  have nch:c ∉ ch:=fun z=>(hch c z).2.2.1 x c e rfl;by_cases hc:c∈X.fs
  ·obtain⟨sl,q⟩:=slot c o (I.cne x c e) hc nch ho (I.freeC x c e);exact⟨_,q,hd⟩
  ·exact⟨o,keep c o (I.cne x c e) hc nch ho (I.freeC x c e),hd⟩
 refine⟨I.ok,I.os,hg,⟨fun b o e n hb hx=>?_,fun b o e n hb hx=>?_,fun b o e n hx=>?_,fun b o e hx=>?_,fun b xs e=>tups b xs (I.base.tups b xs e),fun b o xs e=>frzs b o xs (I.base.frzs b o xs e),fun b ps e=>?_⟩,?_,fun x c e=>?_,?_,fun x c e=>?_,fun p hp=>?_,hok,I.len⟩
 ·exact keep b o (neL b o e) hb (neC b o e hx) (I.base.keep b o e n hb hx) (I.base.free b o e n hx)
 ·obtain⟨sl,e1⟩:=I.base.slot b o e n hb hx;obtain⟨sl',e2⟩:=slot b _ (neL b o e) hb (neC b o e hx) e1 (I.base.free b o e n hx);exact⟨sl',e2⟩
 ·obtain⟨o',e1⟩:=I.base.there b o e hx;exact free b o' (neC b o e hx) e1 (I.base.free b o e n hx)
 ·obtain⟨o',e1⟩:=I.base.there b o e hx;exact there b o' (neC b o e hx) e1
 ·obtain⟨m1,e1⟩:=I.base.tbls b ps e;obtain⟨m2,e2⟩:=tbls b _ e1;exact⟨m1++m2,by rw[e2,Array.append_assoc]⟩
 ·obtain⟨m,hn,hl⟩:=I.loc;refine⟨m,ns m hn,fun i x v e1 e2 e3=>?_⟩;obtain⟨u,r,l⟩:=hl i x v e1 e2 e3;refine⟨u,r,?_⟩;rcases l with l | ⟨k,c,e,z⟩
  ·exact .inl l
  ·exact .inr ⟨k,c,e,cellK x c e _ z⟩
 ·obtain⟨v,z⟩:=I.cell x c e;exact⟨v,cellK x c e v z⟩
 ·obtain⟨m,⟨o,_,_,ho,_⟩,_⟩:=I.loc;exact free _ o (fun z=>(hch _ z).2.1 rfl) ho I.free
 ·obtain⟨v,o,ho,hd⟩:=I.cell x c e;exact free c o (fun z=>(hch c z).2.2.1 x c e rfl) ho (I.freeC x c e)
 ·obtain⟨e,n,ne,nf,d⟩:=I.pin p hp;have nch:p.1 ∉ ch:=fun z=>(hch p.1 z).2.2.2 p hp rfl;exact⟨keep p.1 p.2 ne nf nch e n,free p.1 p.2 nch e n,ne,nf,d⟩
theorem Inv.un {t':Nat}(I:Inv X pins σ H s)(u:Un X.fs [] H H' s.heap h')(hok:HOk X.prog X.w H' h'):Inv X pins σ H' { s with heap:=h',toks:=t' }:=by
 obtain⟨m,⟨o,es,ep,ho,r⟩,_⟩:=id I.loc;obtain⟨sl,hL⟩:=u.any ho I.free (by simp)
 exact I.step (g':=s.gens) (d':=s.drawn) (ch:=[]) (fun _ z=>nomatch z) (fun b o _ hb _ e n=>u.keep b o e n hb (by simp)) (fun b o _ hb _ e n=>u.slot b o e n hb (by simp)) (fun b o _ e n=>u.free b o e n (by simp)) (fun b o _ e=>u.there b o e (by simp)) u.tups u.frzs u.tbls (fun m' hm=>by
  obtain⟨o',es',ep',ho',r'⟩:=hm;rw[ho]at ho';cases ho';exact⟨_,es',ep',hL,r'⟩) hok I.bare
theorem Inv.call {g':Array GenState}{t':Nat}{d':Drawn}{ch:List Addr}(I:Inv X pins σ H s)(u:Un (frs X.stack) ch H H' s.heap h')(hok:HOk X.prog X.w H' h')(hg:AllBare g')
  (hch:∀b∈ch,(b∈X.ex\/X.s₀.heap.objs.size<=b)/\b≠X.env.locals/\(∀x c,X.env.cells.lookup x=some c->c≠b)/\∀p∈X.pn++pins,p.1≠b) :
  Inv X pins σ H' { s with heap:=h',gens:=g',drawn:=d',toks:=t' }:=by
 obtain⟨m,⟨o,es,ep,ho,r⟩,_⟩:=id I.loc;obtain⟨sl,hL⟩:=u.any ho I.free fun z=>(hch _ z).2.1 rfl;exact I.step (ch:=ch) hch (fun b o hL hb hc e n=>u.keep b o e n (fun z=>(List.mem_cons.mp (I.stkSub b z)).elim hL hb) hc) (fun b o _ _ hc e n=>u.any e n hc) (fun b o hc e n=>u.free b o e n hc) (fun b o hc e=>u.there b o e hc) u.tups u.frzs u.tbls (fun m' hm=>by
  obtain⟨o',es',ep',ho',r'⟩:=hm;rw[ho]at ho';cases ho';exact⟨_,es',ep',hL,r'⟩) hok hg
theorem Inv.turned {t':Nat}{it:Addr}(I:Inv X pins σ H s)(k:∀b o,b≠it->s.heap.get? b=some o->h'.get? b=some o)(hn:H it=none)(hL:it≠X.env.locals)
  (h1:it∈X.ex\/X.s₀.heap.objs.size<=it) (h2:∀x c,X.env.cells.lookup x=some c->c≠it) (h3:∀p∈X.pn++pins,p.1≠it):Inv X pins σ H { s with heap:=h',toks:=t' }:=by
 have nit:∀b u,H b=some u->b≠it:=fun b u e z=>by rw[z,hn]at e;cases e
 refine I.step (g':=s.gens) (d':=s.drawn) (ch:=[it]) (fun b hb=>?_) (fun b o _ _ hc e _=>k b o (fun z=>hc (by simp[z])) e) (fun b o _ _ hc e _=>⟨o.slots,k b o (fun z=>hc (by simp[z])) e⟩) (fun _ _ _ _ n=>n)
  (fun b o hc e=>⟨o,k b o (fun z=>hc (by simp[z])) e⟩) (fun _ _ e=>e) (fun _ _ _ e=>e) (fun b ps e=>⟨#[],by rw[e];simp⟩) (fun m hm=>?_) (fun b u e=>?_) I.bare
 ·have e:b=it:=by simpa using hb
  subst e;exact⟨h1,hL,h2,h3⟩
 ·obtain⟨o,es,ep,ho,r⟩:=hm;exact⟨o,es,ep,k _ o (Ne.symm hL) ho,r⟩
 ·refine(I.hok b u e).stay (fun c v hc q=>k c v ?_ q) (fun _ q=>q) fun _ _ q=>q;rcases hc with z | z
  ·rw[z];exact nit b u e
  ·exact nit c _ z
theorem Inv.tok (I:Inv X pins σ H s)(t:Nat):Inv X pins σ H { s with toks:=t }:=I.un (h':=s.heap) (t':=t) Un.refl I.hok
theorem Inv.kept {t':Nat}(I:Inv X pins σ H s)(k:∀b u,s.heap.get? b=some u->h'.get? b=some u):Inv X pins σ H { s with heap:=h',toks:=t' }:=I.un (Un.kept k) (I.hok.kept k)
theorem Inv.laid {a:Addr}{o:HO}{t':Nat}(I:Inv X pins σ H s)(k:∀b u,s.heap.get? b=some u->h'.get? b=some u)(hp:s.heap.objs.size<=a)(new:ObjOk X.prog X.w (upd H a o) h' a o) :
  Inv X pins σ (upd H a o) { s with heap:=h',toks:=t' }:=I.un (Un.laid k hp (I.hok.fresh hp)) (I.hok.laid k hp new)
theorem Inv.write {x e:Addr}{o:HO}{t':Nat}(I:Inv X pins σ H s)(mu:Mut (H x))(he:e=x\/H e=some (.own x))(k:∀b u,b≠e->s.heap.get? b=some u->h'.get? b=some u)(heo:∃u,h'.get? e=some u)
  (new:ObjOk X.prog X.w (upd H x o) h' x o):Inv X pins σ (upd H x o) { s with heap:=h',toks:=t' }:=I.un (Un.write mu he k heo) (I.hok.write mu he k heo new)
theorem Inv.pins_of {pins':List (Addr×Obj)}(I:Inv X pins σ H s)(h:∀p∈pins',s.heap.get? p.1=some p.2/\H p.1=none/\p.1≠X.env.locals/\p.1 ∉ X.fs/\∀v,p.2.data≠.cell v):Inv X pins' σ H s:=
 ⟨I.ok,I.os,I.bare,I.base,I.loc,I.cell,I.free,I.freeC,fun p hp=>(List.mem_append.mp hp).elim (fun z=>I.pin p (ju7 _ z)) (h p),I.hok,I.len⟩
theorem jcU {N:List Str}(hN:N.Nodup){i j:Nat}{x:Str}(a:N[i]?=some x)(b:N[j]?=some x):i=j:=by
 obtain⟨h1,e1⟩:=List.getElem?_eq_some_iff.mp a;obtain⟨h2,e2⟩:=List.getElem?_eq_some_iff.mp b;exact(List.getElem_inj hN).mp (e1.trans e2.symm)
theorem ji3 {M:Model}{A:Around}{E:Value->Shared->Prop}{i:Nat}{x:Str}{v:V}{u:Value}{Q:Unit->Shared->Prop}(I:Inv X pins σ H s)(hN:X.N.Nodup)(hi:X.N[i]?=some x)(hx:Loc X.env.scope x)(r:RelV v u)
  (h:∀s',Inv X pins (σ.set i (some v)) H s'->(∃a,Heap.SameBut a s.heap s'.heap/\(a=X.env.locals\/X.env.cells.lookup x=some a))->Q () s') (hf:X.fn x=true\/X.env.scope.names.lookup x=some .local:=by first | exact .inl rfl | exact .inr rfl | assumption):wpAny M A (storeName X.env x u) Q E s:=by
 obtain⟨m,hn,hl⟩:=id I.loc;have hcls:(X.env.scope.kind == .class || (X.env.scope.kind == .module && X.env.locals != X.env.globals))=false:=by rw[I.ok.kind];rfl
 have hiσ:i < σ.length:=by rw[I.len];exact(List.getElem?_eq_some_iff.mp hi).1
 have cne:=I.cne;have tracked:∀{a:Addr}{h':Heap},(∃o,s.heap.get? a=some o/\H a=none)->Heap.SameBut a s.heap h'->HOk X.prog X.w H h':=fun {a h'} ha hs b ob e=>by
  obtain⟨_,_,hfree⟩:=ha;refine(I.hok b ob e).stay (fun c w' hc q=>(hs.2 c ?_).trans q) (fun _ q=>q) fun _ _ q=>q;rintro rfl;rcases hc with rfl | hc
  ·rw[hfree]at e;cases e
  ·rw[hfree]at hc;cases hc
 rcases hx with hk | hk
 ·refine wpAny_storeName_local hk hn (fun h' hn' hs=>?_) hcls;obtain⟨oL,_,_,hoL,_⟩:=id hn;refine h _ ⟨I.ok,I.os,I.bare,⟨fun b o e n hb hx=>?_,fun b o e n hb hx=>?_,I.base.free,fun b o e hx=>?_,I.base.tups,I.base.frzs,I.base.tbls⟩,⟨_,hn',fun j y v' e1 e2 e3=>?_⟩,fun y c e=>?_,I.free,I.freeC,fun p hp=>?_,tracked ⟨oL,hoL,I.free⟩ hs,by simpa using I.len⟩ ⟨_,hs,.inl rfl⟩
  ·exact(hs.2 b (jvs (jvr (jvm e) I.ok.above))).trans (I.base.keep b o e n hb hx)
  ·obtain⟨sl,e1⟩:=I.base.slot b o e n hb hx;exact⟨sl,(hs.2 b (jvs (jvr (jvm e) I.ok.above))).trans e1⟩
  ·obtain⟨o',e1⟩:=I.base.there b o e hx;exact⟨o',(hs.2 b (jvs (jvr (jvm e) I.ok.above))).trans e1⟩
  ·by_cases hj:j=i
   ·subst hj;rw[hi]at e1;cases e1;rw[List.getElem?_set_self hiσ]at e2;cases e2;exact⟨u,r,.inl ⟨hk,by simp⟩⟩
   ·rw[ju2 (Ne.symm hj)]at e2;obtain⟨u',r',q⟩:=hl j y v' e1 e2 e3;refine⟨u',r',?_⟩;rcases q with ⟨k,e⟩ | ⟨k,c,e,z⟩
    ·refine .inl ⟨k,?_⟩;have:y≠x:=fun e=>hj (jcU hN e1 (e ▸ hi));simp[this,e]
    ·exact .inr ⟨k,c,e,z.sameBut hs (cne y c e)⟩
  ·obtain⟨w',z⟩:=I.cell y c e;exact⟨w',z.sameBut hs (cne y c e)⟩
  ·obtain⟨e,n,ne,nf,d⟩:=I.pin p hp;exact⟨(hs.2 p.1 ne).trans e,n,ne,nf,d⟩
 ·have hfn:X.fn x=true:=by
   rcases hf with z | z
   ·exact z
   ·rw[z]at hk;cases hk
  obtain⟨c,hc⟩:=I.ok.has x (.inl hk);obtain⟨w',z⟩:=I.cell x c hc;refine wpAny_storeName_cell I.ok.kind hk hc z (fun h' hc' hs=>?_);obtain⟨oc,hoc,hocd⟩:=id z;refine h { s with heap:=h' } ⟨I.ok,I.os,I.bare,⟨fun b o e n hb hx=>?_,fun b o e n hb hx=>?_,I.base.free,fun b o e hx=>?_,I.base.tups,I.base.frzs,I.base.tbls⟩,⟨m,hn.sameBut hs (Ne.symm (cne x c hc)),fun j y v' e1 e2 e3=>?_⟩,fun y c' e=>?_,I.free,I.freeC,fun p hp=>?_,tracked ⟨oc,hoc,I.freeC x c hc⟩ hs,by simpa using I.len⟩ ⟨c,hs,.inr hc⟩
  ·exact(hs.2 b (jvs (jvr (jvm e) (I.ok.cab x c hfn hc)))).trans (I.base.keep b o e n hb hx)
  ·obtain⟨sl,e1⟩:=I.base.slot b o e n hb hx;exact⟨sl,(hs.2 b (jvs (jvr (jvm e) (I.ok.cab x c hfn hc)))).trans e1⟩
  ·obtain⟨o',e1⟩:=I.base.there b o e hx;exact⟨o',(hs.2 b (jvs (jvr (jvm e) (I.ok.cab x c hfn hc)))).trans e1⟩
  ·by_cases hj:j=i
   ·subst hj;rw[hi]at e1;cases e1;rw[List.getElem?_set_self hiσ]at e2;cases e2;exact⟨u,r,.inr ⟨.inl hk,c,hc,hc'⟩⟩
   ·rw[ju2 (Ne.symm hj)]at e2;obtain⟨u',r',q⟩:=hl j y v' e1 e2 e3;refine⟨u',r',?_⟩;rcases q with q | ⟨k,c',e,z'⟩
    ·exact .inl q
    ·refine .inr ⟨k,c',e,z'.sameBut hs ?_⟩;rintro rfl;exact hj (jcU hN e1 (I.ok.inj _ _ _ e hc ▸ hi))
  ·by_cases hcc:c'=c
   ·subst hcc;exact⟨_,hc'⟩
   ·obtain⟨w2,z2⟩:=I.cell y c' e;exact⟨w2,z2.sameBut hs hcc⟩
  ·obtain⟨e,n,ne,nf,d⟩:=I.pin p hp;refine⟨(hs.2 p.1 ?_).trans e,n,ne,nf,d⟩;intro q;rw[q,hoc]at e;have q':oc=p.2:=Option.some.inj e;exact d w' (by rw[<-q'];exact hocd)
theorem jcV {M:Model}{A:Around}{E:Value->Shared->Prop}{i:Nat}{x:Str}{v:V}{u:Value}{Q:Unit->Shared->Prop}(I:Inv X pins σ H s)(hN:X.N.Nodup)(hi:X.N[i]?=some x)(hx:Loc X.env.scope x)(r:RelV v u)
  (h:∀s',Inv X pins (σ.set i (some v)) H s'->Q () s') (hf:X.fn x=true\/X.env.scope.names.lookup x=some .local:=by first | exact .inl rfl | exact .inr rfl | assumption):wpAny M A (storeName X.env x u) Q E s:=
 ji3 I hN hi hx r (fun s' I' _=>h s' I') hf
theorem Inv.call' {s':Shared}{ch:List Addr}(I:Inv X pins σ H s)(ho:s'.os=s.os)(u:Un (frs X.stack) ch H H' s.heap s'.heap)(hok:HOk X.prog X.w H' s'.heap)(hg:AllBare s'.gens)
  (hch:∀b∈ch,(b∈X.ex\/X.s₀.heap.objs.size<=b)/\b≠X.env.locals/\(∀x c,X.env.cells.lookup x=some c->c≠b)/\∀p∈X.pn++pins,p.1≠b):Inv X pins σ H' s':=by
 obtain⟨h',g',d',t',o'⟩:=s';have e:o'=s.os:=ho;subst e;exact I.call (g':=g') (t':=t') (d':=d') u hok hg hch
end
noncomputable abbrev XK:=Value->Option Addr->Hp->Prop
noncomputable abbrev St:=List (Option V)
noncomputable abbrev VK:=V->Hp->Prop
noncomputable abbrev TE:=St->Hp->VK->Prop
noncomputable abbrev TT:=St->Hp->(Bool->Hp->Prop)->Prop
noncomputable abbrev TA:=St->Hp->(List V->Hp->Prop)->Prop
structure Ends where
 nx:St->Hp->Prop
 rt:VK
 bk:St->Hp->Prop:=fun _ _=>False
 ct:St->Hp->Prop:=fun _ _=>False
noncomputable abbrev TS:=Ends->St->Hp->Prop
inductive EP (X:Cx) (pins:List (Addr×Obj)) (σ:St) (Q:VK) (u:Value) (s':Shared):Prop
 |mk (v:_) (H':_):(Inv X pins σ H' s')->(RelV v u)->(Q v H')->EP X pins σ Q u s'
noncomputable def TP (X:Cx)(pins:List (Addr×Obj))(σ:St)(Q:Bool->Hp->Prop)(b:Bool)(s':Shared):Prop:=∃H',Inv X pins σ H' s'/\Q b H'
inductive AP (X:Cx) (pins:List (Addr×Obj)) (σ:St) (Q:List V->Hp->Prop) (us:List Value) (s':Shared):Prop
 |mk (vs:_) (H':_):(Inv X pins σ H' s')->(Vals vs us)->(Q vs H')->AP X pins σ Q us s'
noncomputable def SP (X:Cx)(pins:List (Addr×Obj))(D:Ends)(f:Flow)(s':Shared):Prop:=
 match f with
 |.next=>∃σ' H',Inv X pins σ' H' s'/\D.nx σ' H'
 |.brk=>∃σ' H',Inv X pins σ' H' s'/\D.bk σ' H'
 |.cont=>∃σ' H',Inv X pins σ' H' s'/\D.ct σ' H'
 |.ret u=>∃v σ' H',Inv X pins σ' H' s'/\RelV v u/\D.rt v H'
noncomputable def PE (X:Cx)(e:Expr)(t:TE):Prop:=
 ∀(pins:List (Addr×Obj)) (s:Shared) (σ:St) (H:Hp) (Q:VK),Inv X pins σ H s->t σ H Q->wpAny (model X.prog X.w) X.A (eval e X.env) (EP X pins σ Q) X.xe s
noncomputable def PT (X:Cx)(e:Expr)(t:TT):Prop:=
 ∀(pins:List (Addr×Obj)) (s:Shared) (σ:St) (H:Hp) (Q:Bool->Hp->Prop),Inv X pins σ H s->t σ H Q->wpAny (model X.prog X.w) X.A (isTrue e X.env (eval e X.env)) (TP X pins σ Q) X.xe s
noncomputable def PW (X:Cx)(e:Expr)(t:TT):Prop:=
 ∀(whole:Sem Value) (pins:List (Addr×Obj)) (s:Shared) (σ:St) (H:Hp) (Q:Bool->Hp->Prop),Inv X pins σ H s->t σ H Q->wpAny (model X.prog X.w) X.A (isTrue e X.env whole) (TP X pins σ Q) X.xe s
theorem PW.pt {X:Cx}{e:Expr}{t:TT}(h:PW X e t):PT X e t:=h _
noncomputable def PA (X:Cx)(es:List Expr)(t:TA):Prop:=
 ∀(pos:Pos) (pins:List (Addr×Obj)) (s:Shared) (σ:St) (H:Hp) (Q:List V->Hp->Prop),Inv X pins σ H s->t σ H Q->wpAny (model X.prog X.w) X.A (spliced (backTo pos (starEach es X.env))) (AP X pins σ Q) X.xe s
noncomputable def PS (X:Cx)(st:Stmt)(t:TS):Prop:=
 ∀(pins:List (Addr×Obj)) (s:Shared) (σ:St) (H:Hp) (D:Ends),Inv X pins σ H s->t D σ H->wpAny (model X.prog X.w) X.A (exec st X.env) (SP X pins D) X.xe s
noncomputable def PSs (X:Cx)(st:List Stmt)(t:TS):Prop:=
 ∀(pins:List (Addr×Obj)) (s:Shared) (σ:St) (H:Hp) (D:Ends),Inv X pins σ H s->t D σ H->wpAny (model X.prog X.w) X.A (execs st X.env) (SP X pins D) X.xe s
theorem thn {α:Type}{t:Sem α}{Q Q':α->Shared->Prop}{M:Model}{A:Around}{E:Value->Shared->Prop}{s:Shared}(h:wpAny M A t Q E s)(hQ:∀a s,Q a s->Q' a s):wpAny M A t Q' E s:=jvj h hQ fun _ _ x=>x
end L2
namespace L2
open PySem PySem.Spec PyProof.Rows
section
variable {X:Cx}
noncomputable def jqm (i:Nat):TE:=fun σ H Q=>∃v,σ[i]?=some (some v)/\Q v H
noncomputable def tC (v:V):TE:=fun _ H Q=>Q v H
theorem ji4 {i:Nat}{x:Str}{pos:Pos}(hN:X.N[i]?=some x)(hv:Vis X.env.scope x)(hd:(x == ("__debug__":Str))=false:=by decide)(hcd:(x == ("__classdict__":Str))=false:=by decide):PE X (.Name x pos) (jqm i):=by
 intro pins s σ H Q I h;obtain⟨v,e,h⟩:=h;obtain⟨m,hn,hl⟩:=I.loc;obtain⟨u,r,l⟩:=hl i x v hN e hv;have fin:EP X pins σ Q u s:=⟨v,H,I,r,h⟩;rcases l with ⟨hk,hm⟩ | ⟨hk,c,hc,hcell⟩
 ·exact wpAny_Name (wpAny_loadName_local I.ok.kind hk hn hm fin) hd
 ·rcases hk with hk | hk
  ·exact wpAny_Name (wpAny_loadName_cell I.ok.kind hk hc hcell fin) hd
  ·exact wpAny_Name (wpAny_loadName_free I.ok.kind hk hc hcell fin hcd) hd
theorem jqx {i j pos}:PE X (.Constant (.int i) j pos) (tC (.int i)):=fun _ _ _ H _ I h=>wpAny_Constant_int ⟨.int i,H,I.tok _,⟨_,rfl⟩,h⟩
theorem jst {b j pos}:PE X (.Constant (.bool b) j pos) (tC (.bl b)):=fun _ _ _ H _ I h=>Constant_bool ⟨.bl b,H,I,rfl,h⟩
theorem jqy {j pos}:PE X (.Constant .none j pos) (tC .non):=fun _ _ _ H _ I h=>Constant_none ⟨.non,H,I,rfl,h⟩
theorem jqz {x j pos}:PE X (.Constant (.str x) j pos) (tC (.str x)):=fun _ _ _ H _ I h=>Calls.Constant_str ⟨.str x,H,I.tok _,⟨_,rfl⟩,h⟩
noncomputable def Gl (X:Cx)(x:Str):Prop:=X.env.kindOf x=some .globalImplicit
theorem jc1 {E:Value->Shared->Prop}{pins:List (Addr×Obj)}{s:Shared}{σ:St}{H:Hp}{x:Str}{u:Value}{pos:Pos}{Q:Value->Shared->Prop}(I:Inv X pins σ H s)(hg:Gl X x)(hm:X.mg x=some u)(h:Q u s)
  (hd:(x == ("__debug__":Str))=false:=by decide):wpAny (model X.prog X.w) X.A (eval (.Name x pos) X.env) Q E s:=
 Calls.Name_function_global I.ok.kind hg (Calls.loadGlobal_global (by rw[I.ok.glob];exact I.mod.glob.keeps I.bk) hm h) hd
theorem je8 {E:Value->Shared->Prop}{pins:List (Addr×Obj)}{s:Shared}{σ:St}{H:Hp}{x:Str}{u:Value}{pos:Pos}{Q:Value->Shared->Prop}(I:Inv X pins σ H s)(hg:Gl X x)(hm:X.mg x=none)(hv:bootBuiltins x=some u)(h:Q u s)
  (hn:x≠"__name__":=by decide) (hd:(x == ("__debug__":Str))=false:=by decide):wpAny (model X.prog X.w) X.A (eval (.Name x pos) X.env) Q E s:=by
 obtain⟨mb,h1,h2⟩:=I.mod.blt;exact Calls.Name_function_global I.ok.kind hg (Calls.loadGlobal_builtin (by rw[I.ok.glob];exact I.mod.glob.keeps I.bk) hm (by rw[I.ok.blt];exact h1.keeps I.bk) ((h2 x hn).trans hv) h) hd
theorem ji5 {x:Str}{v:V}{u:Value}{pos:Pos}(hg:Gl X x)(hm:X.mg x=some u)(r:RelV v u)(hd:(x == ("__debug__":Str))=false:=by decide):PE X (.Name x pos) (tC v):=
 fun _ _ _ H _ I h=>jc1 I hg hm ⟨v,H,I,r,h⟩ hd
theorem joe {x:Str}{v:V}{u:Value}{pos:Pos}(hg:Gl X x)(hm:X.mg x=none)(hv:bootBuiltins x=some u)(r:RelV v u)(hn:x≠"__name__":=by decide)(hd:(x == ("__debug__":Str))=false:=by decide):PE X (.Name x pos) (tC v):=
 fun _ _ _ H _ I h=>je8 I hg hm hv ⟨v,H,I,r,h⟩ hn hd
variable {a b:Expr}{ta tb:TE}{pos:Pos}
variable {tA tB':TT}{jdw:List Expr}
noncomputable def jtL (t u:TT):TT:=fun σ H Q=>t σ H fun c H1=>if c=true then u σ H1 Q else Q false H1
noncomputable def tOr (t u:TT):TT:=fun σ H Q=>t σ H fun c H1=>if c=true then Q true H1 else u σ H1 Q
noncomputable def jtM (t:TT):TT:=fun σ H Q=>t σ H fun c H1=>Q (!c) H1
theorem jof (ha:PT X a tA):PW X (.BoolOp .And [a] pos) tA:=by
 intro wh pins s σ H Q I h;refine isTrue_and (thn (ha pins s σ H Q I h) fun c s1 e=>?_);cases c with
 |true=>exact isTrue_and_nil e
 |false=>exact e
theorem jqA (ha:PT X a tA):PW X (.BoolOp .Or [a] pos) tA:=by
 intro wh pins s σ H Q I h;refine isTrue_or (thn (ha pins s σ H Q I h) fun c s1 e=>?_);cases c with
 |false=>exact isTrue_or_nil e
 |true=>exact e
theorem jqB (ha:PT X a tA)(hb:PW X (.BoolOp .And (b::jdw) pos) tB'):PW X (.BoolOp .And (a::b::jdw) pos) (jtL tA tB'):=by
 intro wh pins s σ H Q I h;refine isTrue_and (thn (ha pins s σ H _ I h) fun c s1 hzz=>?_);obtain⟨H1,I1,q1⟩:=hzz;cases c with
 |true=>exact hb wh pins s1 σ H1 Q I1 q1
 |false=>exact⟨H1,I1,q1⟩
theorem jsu (ha:PT X a tA)(hb:PW X (.BoolOp .Or (b::jdw) pos) tB'):PW X (.BoolOp .Or (a::b::jdw) pos) (tOr tA tB'):=by
 intro wh pins s σ H Q I h;refine isTrue_or (thn (ha pins s σ H _ I h) fun c s1 hzz=>?_);obtain⟨H1,I1,q1⟩:=hzz;cases c with
 |true=>exact⟨H1,I1,q1⟩
 |false=>exact hb wh pins s1 σ H1 Q I1 q1
theorem jqC (ha:PT X a tA):PT X (.UnaryOp .Not a pos) (jtM tA):=by
 intro pins s σ H Q I h;exact isTrue_not (ha pins s σ H (fun c H1=>Q (!c) H1) I h)
noncomputable def jqD (ta tb:TE):TE:=fun σ H Q=>ta σ H fun x H1=>∃c,x=.bl c/\if c=true then tb σ H1 Q else Q (.bl false) H1
noncomputable def jtN (ta tb:TE):TE:=fun σ H Q=>ta σ H fun x H1=>∃c,x=.bl c/\if c=true then Q (.bl true) H1 else tb σ H1 Q
noncomputable def jqE (ta:TE):TE:=fun σ H Q=>ta σ H fun x H1=>∃c,x=.bl c/\Q (.bl (!c)) H1
theorem jny {op}{t:TE}(h:PE X a t):PE X (.BoolOp op [a] pos) t:=fun pins s σ H Q I hw=>BoolOp_one (h pins s σ H Q I hw)
theorem jqF (ha:PE X a ta)(hb:PE X (.BoolOp .And (b::jdw) pos) tb):PE X (.BoolOp .And (a::b::jdw) pos) (jqD ta tb):=by
 intro pins s σ H Q I h;refine BoolOp_and (thn (ha pins s σ H _ I h) fun v s1 hzz=>?_);obtain⟨x,H1,I1,r1,q1⟩:=hzz;obtain⟨c,rfl,q1⟩:=q1;cases r1;refine wpAny_truthy_bool ?_;cases c with
 |true=>exact hb pins s1 σ H1 Q I1 q1
 |false=>exact⟨.bl false,H1,I1,rfl,q1⟩
theorem jsv (ha:PE X a ta)(hb:PE X (.BoolOp .Or (b::jdw) pos) tb):PE X (.BoolOp .Or (a::b::jdw) pos) (jtN ta tb):=by
 intro pins s σ H Q I h;refine BoolOp_or (thn (ha pins s σ H _ I h) fun v s1 hzz=>?_);obtain⟨x,H1,I1,r1,q1⟩:=hzz;obtain⟨c,rfl,q1⟩:=q1;cases r1;refine wpAny_truthy_bool ?_;cases c with
 |false=>exact hb pins s1 σ H1 Q I1 q1
 |true=>exact⟨.bl true,H1,I1,rfl,q1⟩
theorem jqG (ha:PE X a ta):PE X (.UnaryOp .Not a pos) (jqE ta):=by
 intro pins s σ H Q I h;refine UnaryOp_ (thn (ha pins s σ H _ I h) fun v s1 hzz=>?_);obtain⟨x,H1,I1,r1,q1⟩:=hzz;obtain⟨c,rfl,q1⟩:=q1;cases r1;exact not_of (wpAny_truthy_bool ⟨.bl (!c),H1,I1,rfl,q1⟩)
noncomputable def tIf (t:TT)(ta tb:TE):TE:=fun σ H Q=>t σ H fun c H1=>if c=true then ta σ H1 Q else tb σ H1 Q
theorem jlw {c:Expr}(hc:PT X c tA)(ha:PE X a ta)(hb:PE X b tb):PE X (.IfExp c a b pos) (tIf tA ta tb):=by
 intro pins s σ H Q I h;refine wpAny_IfExp (thn (hc pins s σ H _ I h) fun d s1 hzz=>?_);obtain⟨H1,I1,q1⟩:=hzz;cases d with
 |true=>exact ha pins s1 σ H1 Q I1 q1
 |false=>exact hb pins s1 σ H1 Q I1 q1
end
end L2
namespace L2
open PySem PySem.Spec PyProof.Rows
noncomputable def SqL (K:PySem.W.Frag)(H:Hp)(a:Addr)(xs:List V):Prop:=
 Rd H a (.lst xs) \/
  ∃(o:Obj) (its:Array Value) (n:Nat),K.lookup a=some o/\o.cls=.type "list"/\o.dict=none/\o.data=.seq its n/\its.size<=sizeLine/\Vals xs its.toList
noncomputable def SqT (K:PySem.W.Frag)(H:Hp)(a:Addr)(xs:List V):Prop:=
 Rd H a (.tup xs) \/
  ∃(o:Obj) (its:Array Value) (n:Nat),K.lookup a=some o/\o.cls=.type "tuple"/\o.data=.seq its n/\its.size<=sizeLine/\Vals xs its.toList
noncomputable def jub:Value->Option V
 |.none=>some .non
 |.bool b=>some (.bl b)
 |.int i _=>some (.int i)
 |.str x _=>some (.str x)
 |.bytes b _=>some (.byt b)
 |.float b _=>some (.flt b)
 |.ref a=>some (.ref a)
 |.type n=>some (.ty n)
 |_=>none
theorem RelV.abs {x:V}{u:Value}(r:RelV x u):jub u=some x:=by
 cases x with
 |non=>cases r;rfl
 |bl _=>cases r;rfl
 |int _=>obtain⟨t,rfl⟩:=r;rfl
 |str _=>obtain⟨t,rfl⟩:=r;rfl
 |byt _=>obtain⟨t,rfl⟩:=r;rfl
 |flt _=>obtain⟨t,rfl⟩:=r;rfl
 |ref _=>cases r;rfl
 |ty _=>cases r;rfl
theorem RelV.inj {x y:V}{u:Value}(r:RelV x u)(q:RelV y u):x=y:=Option.some.inj (r.abs.symm.trans q.abs)
theorem Vals.inj {xs ys:List V}{us:List Value}(h:Vals xs us)(h':Vals ys us):xs=ys:=by
 induction h generalizing ys with
 |nil=>cases h';rfl
 |cons r t ih=>
  cases h' with
  |cons r' t'=>rw[r.inj r',ih t']
section
variable {X:Cx}{pins:List (Addr×Obj)}{σ:St}{H:Hp}{s:Shared}{a:Addr}{xs ys:List V}
theorem SqL.of {K:PySem.W.Frag}(h:H a=some (.lst xs)):SqL K H a xs:=.inl (.inl h)
theorem Inv.list (I:Inv X pins σ H s)(h:SqL X.K H a xs):∃its:List Value,Vals xs its/\PlainL s.heap a its.toArray/\xs.length<=sizeLine:=by
 rcases h with h | ⟨o,its,n,hk,hc,hd,hs,hz,r⟩
 ·obtain⟨z,its,n,r,e⟩:=h.ok I.hok;exact⟨its,r,⟨_,n,e,rfl,rfl,rfl⟩,z⟩
 ·refine⟨its.toList,r,⟨o,n,I.kIn a o hk,hc,hd,by simpa using hs⟩,?_⟩
  have e:=r.length;simp only[Array.length_toList]at e;omega
theorem Inv.tuple (I:Inv X pins σ H s)(h:SqT X.K H a xs):∃its:List Value,Vals xs its/\IsTup s.heap a its.toArray/\xs.length<=sizeLine:=by
 rcases h with h | ⟨o,its,n,hk,hc,hs,hz,r⟩
 ·obtain⟨z,its,r,p⟩:=h.ok I.hok;exact⟨its,r,p,z⟩
 ·refine⟨its.toList,r,⟨o,I.kIn a o hk,hc,n,by simpa using hs⟩,?_⟩
  have e:=r.length;simp only[Array.length_toList]at e;omega
theorem Inv.list_inj (I:Inv X pins σ H s)(h:SqL X.K H a xs)(h':SqL X.K H a ys):xs=ys:=by
 obtain⟨its,r,⟨o,n,e,_,_,d⟩,_⟩:=I.list h;obtain⟨its',r',⟨o',n',e',_,_,d'⟩,_⟩:=I.list h';rw[e]at e';cases e';rw[d]at d';injection d' with d1 _
 have:its=its':=by simpa using congrArg Array.toList d1
 subst this;exact r.inj r'
theorem Inv.tuple_inj (I:Inv X pins σ H s)(h:SqT X.K H a xs)(h':SqT X.K H a ys):xs=ys:=by
 obtain⟨its,r,⟨o,e,_,n,d⟩,_⟩:=I.tuple h;obtain⟨its',r',⟨o',e',_,n',d'⟩,_⟩:=I.tuple h';rw[e]at e';cases e';rw[d]at d';injection d' with d1 _
 have:its=its':=by simpa using congrArg Array.toList d1
 subst this;exact r.inj r'
end
section
variable {X:Cx}{pins:List (Addr×Obj)}{σ:St}{H:Hp}{s:Shared}{E:Value->Shared->Prop}
end
section
variable {X:Cx}{st:Stmt}{jdw:List Stmt}{t u:TS}{e:Expr}{te:TE}{pos:Pos}
noncomputable def jqH:TS:=fun D σ H=>D.nx σ H
noncomputable def juc (t u:TS):TS:=fun D σ H=>t { D with nx:=u D } σ H
theorem ji6:PSs X [] jqH:=fun _ _ σ H _ I h=>wpAny_execs_nil ⟨σ,H,I,h⟩
theorem jhj (h1:PS X st t)(h2:PSs X jdw u):PSs X (st::jdw) (juc t u):=by
 intro pins s σ H D I h;refine wpAny_execs_cons (thn (h1 pins s σ H { D with nx:=u D } I h) fun f s1 q=>?_)
 cases f with
 |next=>
  obtain⟨σ',H',I',q⟩:=q;exact h2 pins s1 σ' H' D I' q
 |ret v=>exact q
 |brk=>exact q
 |cont=>exact q
noncomputable def jqI:TS:=fun D σ H=>D.bk σ H
noncomputable def jsw:TS:=fun D σ H=>D.ct σ H
theorem jog:PS X (.Pass pos) jqH:=fun _ _ σ H _ I h=>wpAny_Pass ⟨σ,H,I,h⟩
theorem jlx:PS X (.Break pos) jqI:=fun _ _ σ H _ I h=>wpAny_Break ⟨σ,H,I,h⟩
theorem jgh:PS X (.Continue pos) jsw:=fun _ _ σ H _ I h=>wpAny_Continue ⟨σ,H,I,h⟩
theorem Inv.quiet {pins:List (Addr×Obj)}{σ:St}{H:Hp}{s:Shared}(I:Inv X pins σ H s):interactive X.env=false:=by simp[interactive,I.ok.kind]
noncomputable def jsx (te:TE):TS:=fun D σ H=>te σ H fun _ H1=>D.nx σ H1
theorem jgi (he:PE X e te)(hs:swapsWith e none pos.line X.env=pure false:=by rfl):PS X (.Expr e pos) (jsx te):=by
 intro pins s σ H D I h;exact wpAny_Expr_any (thn (he pins s σ H _ I h) fun v s1 ⟨x,H1,I1,r1,q1⟩=>⟨σ,H1,I1,q1⟩) I.quiet hs
noncomputable def jud (te:TE):TS:=fun D σ H=>te σ H D.rt
theorem jqJ (he:PE X e te):PS X (.Return (some e) pos) (jud te):=by
 intro pins s σ H D I h;exact wpAny_Return_some (thn (he pins s σ H _ I h) fun v s1 ⟨x,H1,I1,r1,q1⟩=>⟨x,σ,H1,I1,r1,q1⟩)
noncomputable def jsy:TS:=fun D _ H=>D.rt .non H
theorem joh:PS X (.Return none pos) jsy:=fun _ _ σ H _ I h=>wpAny_Return_none ⟨.non,σ,H,I,rfl,h⟩
noncomputable def jue (c:TT)(t u:TS):TS:=fun D σ H=>c σ H fun b H1=>if b=true then t D σ H1 else u D σ H1
theorem jsz {c:Expr}{a b:List Stmt}{tc:TT}(hc:PT X c tc)(ha:PSs X a t)(hb:PSs X b u):PS X (.If c a b pos) (jue tc t u):=by
 intro pins s σ H D I h;refine wpAny_If (thn (hc pins s σ H _ I h) fun d s1 hzz=>?_);obtain⟨H1,I1,q1⟩:=hzz;cases d with
 |true=>exact ha pins s1 σ H1 D I1 q1
 |false=>exact hb pins s1 σ H1 D I1 q1
end
noncomputable abbrev TG:=V->St->Hp->(St->Hp->Prop)->Prop
noncomputable abbrev TGs:=List V->St->Hp->(St->Hp->Prop)->Prop
noncomputable def PG (X:Cx)(target:Expr)(t:TG):Prop:=
 ∀(pins:List (Addr×Obj)) (s:Shared) (σ:St) (H:Hp) (v:V) (u:Value) (Q:St->Hp->Prop),Inv X pins σ H s->RelV v u->t v σ H Q ->
  wpAny (model X.prog X.w) X.A (assign target X.env u) (fun _ s'=>∃σ' H',Inv X pins σ' H' s'/\Q σ' H') X.xe s
noncomputable def PGs (X:Cx)(ts:List Expr)(t:TGs):Prop:=
 ∀(pins:List (Addr×Obj)) (s:Shared) (σ:St) (H:Hp) (vs:List V) (us:List Value) (Q:St->Hp->Prop),Inv X pins σ H s->Vals vs us->t vs σ H Q ->
  wpAny (model X.prog X.w) X.A (assignInOrder ((assignEach ts X.env).map (·.2)) us) (fun _ s'=>∃σ' H',Inv X pins σ' H' s'/\Q σ' H') X.xe s
noncomputable abbrev jsA:=V->V->V->Hp->(Hp->Prop)->Prop
noncomputable def jtO (X:Cx)(t:jsA):Prop:=
 ∀(pins:List (Addr×Obj)) (s:Shared) (σ:St) (H:Hp) (o i v:V) (ov iv u:Value) (Q:Hp->Prop),Inv X pins σ H s->RelV o ov->RelV i iv->RelV v u->t o i v H Q ->
  wpAny (model X.prog X.w) X.A (setItem ov iv u) (fun _ s'=>∃H',Inv X pins σ H' s'/\Q H') X.xe s
section
variable {X:Cx}{pos:Pos}
noncomputable def joi (i:Nat):TG:=fun v σ H Q=>Q (σ.set i (some v)) H
theorem ji7 {i:Nat}{x:Str}(hN:X.N.Nodup)(hi:X.N[i]?=some x)(hx:Loc X.env.scope x)(hf:X.fn x=true\/X.env.scope.names.lookup x=some .local:=by first | exact .inl rfl | exact .inr rfl | assumption):PG X (.Name x pos) (joi i):=by
 intro pins s σ H v u Q I r h;exact wpAny_assign_Name (jcV I hN hi hx r (fun s' I'=>⟨_,H,I',h⟩) hf)
noncomputable def jtP:TGs:=fun vs σ H Q=>vs=[]/\Q σ H
noncomputable def jqK (t:TG)(u:TGs):TGs:=fun vs σ H Q=>∃v r,vs=v::r/\t v σ H fun σ' H'=>u r σ' H' Q
theorem joj:PGs X [] jtP:=by
 intro pins s σ H vs us Q I r h;obtain⟨e,h⟩:=h;subst e;cases r;exact assignInOrder_nil ⟨σ,H,I,h⟩
theorem jly {e:Expr}{es:List Expr}{t:TG}{u:TGs}(h1:PG X e t)(h2:PGs X es u)
  (hs:(assignEach (e::es) X.env).map (·.2)=assign e X.env::(assignEach es X.env).map (·.2):=by rfl):PGs X (e::es) (jqK t u):=by
 intro pins s σ H vs us Q I r h;obtain⟨v,vr,e1,h⟩:=h;subst e1;cases r with
 |cons r rr=>
  rw[hs];refine assignInOrder_cons (thn (h1 pins s σ H _ _ _ I r h) fun _ s1 hzz=>?_);obtain⟨σ1,H1,I1,q1⟩:=hzz;exact h2 pins s1 σ1 H1 _ _ Q I1 rr q1
noncomputable def juf (K:PySem.W.Frag)(n:Nat)(t:TGs):TG:=fun v σ H Q=>∃a xs,v=.ref a/\SqT K H a xs/\xs.length=n/\t xs σ H Q
theorem jnz {es:List Expr}{k:Nat}{t:TGs}{n:Nat}(hc:X.calm=true)(h:PGs X es t)
  (hn:(assignEach es X.env).length=n:=by rfl) (hst:(assignEach es X.env).findIdx? (·.1)=none:=by rfl):PG X (.Tuple es k pos) (juf X.K n t):=by
 intro pins s σ H v u Q I r hw;obtain⟨a,xs,e1,hq,hl,hw⟩:=hw;subst e1;cases r;obtain⟨its,rv,ht,hz⟩:=I.tuple hq;refine assign_Tuple_tuple (I.ok.hd hc) ht (by simp[hn,<-hl,rv.length]) hst fun h' hx=>?_
 have I1:Inv X pins σ H { s with heap:=h' }:=I.kept (t':=s.toks) fun b o e=>hx b o (jvs (jvm e)) e
 exact h pins _ σ H xs _ Q I1 (by simpa using rv) hw
noncomputable def jug (to ti:TE)(t:jsA):TG:=fun v σ H Q=>to σ H fun o H1=>ti σ H1 fun i H2=>t o i v H2 fun H3=>Q σ H3
theorem jqL {o i:Expr}{to ti:TE}{t:jsA}(ho:PE X o to)(hi:PE X i ti)(hs:jtO X t)
  (ha:∀v,assign (.Subscript o i pos) X.env v=(do
   let ov <-holding [v] (eval o X.env)
   let iv <-holding [v,ov] (eval i X.env)
   standAt pos
   holding [v,ov,iv] (setItem ov iv v)
   release [v,ov,iv] []):=by intro _;rfl):PG X (.Subscript o i pos) (jug to ti t):=by
 intro pins s σ H v u Q I r h;rw[ha];refine jvc (jvh (thn (ho pins s σ H _ I h) fun ov s1 hzz=>?_));obtain⟨x,H1,I1,r1,q1⟩:=hzz;refine jvc (jvh (thn (hi pins s1 σ H1 _ I1 q1) fun iv s2 hzz=>?_));obtain⟨y,H2,I2,r2,q2⟩:=hzz;refine jvc (wpAny_standAt (jvc (jvh (thn (hs pins s2 σ H2 x y v ov iv u _ I2 r1 r2 r q2) fun _ s3 hzz=>?_))));obtain⟨H3,I3,q3⟩:=hzz;exact wpAny_release ⟨σ,H3,I3,q3⟩
noncomputable def jtQ (te:TE)(g:TG):TS:=fun D σ H=>te σ H fun x H1=>g x σ H1 D.nx
theorem jnA {tg e:Expr}{te:TE}{g:TG}(he:PE X e te)(hg:PG X tg g)(hs:swapsWithSole [tg] e pos.line X.env=pure false:=by rfl)(hw:swappedStores [tg] e X.env=pure none:=by rfl)
  (h1:(assignEach [tg] X.env).map (·.2)=[assign tg X.env]:=by rfl):PS X (.Assign [tg] e pos) (jtQ te g):=by
 intro pins s σ H D I h;refine wpAny_Assign_stores (thn (he pins s σ H _ I h) fun v s1 hzz=>?_) hs hw;obtain⟨x,H1,I1,r1,q1⟩:=hzz;rw[h1];exact thn (hg pins s1 σ H1 x v _ I1 r1 q1) fun _ s2 q=>q
theorem jqM {i:Nat}{x:Str}{e:Expr}{te:TE}{pos':Pos}(hN:X.N.Nodup)(hi:X.N[i]?=some x)(hx:Loc X.env.scope x)(he:PE X e te)(hs:swapsWith e (some (.Name x pos')) pos.line X.env=pure false:=by rfl)(hf:X.fn x=true\/X.env.scope.names.lookup x=some .local:=by first | exact .inl rfl | exact .inr rfl | assumption) :
  PS X (.Assign [.Name x pos'] e pos) (jtQ te (joi i)):=by
 intro pins s σ H D I h;refine wpAny_Assign_Name (thn (he pins s σ H _ I h) fun v s1 hzz=>?_) hs;obtain⟨y,H1,I1,r1,q1⟩:=hzz;exact jcV I1 hN hi hx r1 (fun s2 I2=>⟨_,H1,I2,q1⟩) hf
end
section
variable {X:Cx}{pos:Pos}
end
structure It where
 go:Nat->Hp->Prop
 yld:Nat->Hp->V->Hp->Prop
 stop:Nat->Hp->Prop
noncomputable def FpOk (X:Cx)(pins:List (Addr×Obj))(H:Hp)(b:Addr):Prop:=
 H b=none/\b≠X.env.locals/\b ∉ X.fs/\(b∈X.ex\/X.s₀.heap.objs.size<=b)/\(∀x c,X.env.cells.lookup x=some c->c≠b)/\∀p∈X.pn++pins,p.1≠b
theorem Inv.fpOk {X:Cx}{pins:List (Addr×Obj)}{σ:St}{H H':Hp}{s:Shared}{b:Addr}(I:Inv X pins σ H s)(hb:s.heap.objs.size<=b)(hn:H' b=none):FpOk X pins H' b:=by
 refine⟨hn,Nat.ne_of_gt (jvr I.lt hb),I.nofs hb,.inr (jvt I.sz hb),fun x c e z=>?_,fun p hp z=>?_⟩
 ·obtain⟨v,q⟩:=I.cell x c e;exact absurd (jvr q.lt (by rw[z];exact hb)) (jvu _)
 ·exact absurd (jvr (jvm (I.pin p hp).1) (by rw[z];exact hb)) (jvu _)
structure Turn (P:Program)(w:World)(K:PySem.W.Frag)(tg:Expr)(J:It)(fp:List Addr)(it:Addr)(tn:Nat->Heap->Prop):Prop where
 mem:it∈fp
 obj:∀i h,tn i h->∀b∈fp,∃o,h.get? b=some o/\∀v,o.data≠.cell v
 keep:∀i h h',tn i h->(∀b∈fp,∀o,h.get? b=some o->h'.get? b=some o)->tn i h'
 item:∀(X:Cx),X.prog=P->X.w=w->X.K=K->X.calm=true->∀(i:Nat) (pins:List (Addr×Obj)) (s:Shared) (σ:St) (H:Hp) (E:Value->Shared->Prop),Inv X pins σ H s->(∀b∈fp,FpOk X pins H b)->tn i s.heap->J.go i H ->
  wpAny (model P w) X.A (pyNext (.ref it)) (fun r s1=>∃u,r=some u /\
   wpAny (model P w) X.A (letOwnedTupleGo tg (.ref it) u) (fun _ s2=>∃x H',Inv X pins σ H' s2/\RelV x u/\J.yld i H x H'/\tn (i + 1) s2.heap/\∀b∈fp,H' b=none) E s1) E s
 done:∀(X:Cx),X.prog=P->X.w=w->X.K=K->X.calm=true->∀(i:Nat) (pins:List (Addr×Obj)) (s:Shared) (σ:St) (H:Hp) (E:Value->Shared->Prop),Inv X pins σ H s->(∀b∈fp,FpOk X pins H b)->tn i s.heap->J.stop i H ->
  wpAny (model P w) X.A (pyNext (.ref it)) (fun r s1=>r=none/\Inv X pins σ H s1) E s
 self:∀(A:Around) (i:Nat) (s:Shared) (Q:Value->Shared->Prop) (E:Value->Shared->Prop),tn i s.heap->Q (.ref it) s->wpAny (model P w) A (pyIter (.ref it)) Q E s
noncomputable abbrev TI:=St->Hp->(It->Hp->Prop)->Prop
inductive PIE (X:Cx) (pins:List (Addr×Obj)) (σ:St) (tg:Expr) (R:It->Hp->Prop) (itv:Value) (s2:Shared):Prop
 |mk (it:Addr) (fp:List Addr) (tn:Nat->Heap->Prop) (J:It) (H':Hp):(itv=.ref it)->(Inv X pins σ H' s2)->(Turn X.prog X.w X.K tg J fp it tn)->(tn 0 s2.heap)->((∀b∈fp,FpOk X pins H' b))->(R J H')->PIE X pins σ tg R itv s2
noncomputable def PI (X:Cx)(tg iter:Expr)(wi:TI):Prop:=
 ∀(pins:List (Addr×Obj)) (s:Shared) (σ:St) (H:Hp) (R:It->Hp->Prop),Inv X pins σ H s->wi σ H R ->
  wpAny (model X.prog X.w) X.A (eval iter X.env) (fun v s1=>wpAny (model X.prog X.w) X.A (pyIter v) (PIE X pins σ tg R) X.xe s1) X.xe s
theorem jok {M:Model}{A:Around}{E:Value->Shared->Prop}{s:Shared}{tg:Expr}{it:Addr}{u:Value}{o:Obj}{n:String}{vs:Array Value}{Q:Unit->Shared->Prop}(ho:s.heap.get? it=some o)(hc:o.cls=.type n)(hd:o.data=.fields vs)
  (hn:["enumerate","zip","dict_itemiterator","dict_reverseitemiterator","odict_iterator","itertools.zip_longest","itertools.pairwise"].contains n=false) (hQ:Q () s):wpAny M A (letOwnedTupleGo tg (.ref it) u) Q E s:=by
 unfold letOwnedTupleGo;cases tg <;> first
  |exact jvd hQ
  |(cases u <;> first
    |exact jvd hQ
    |(refine jvc (wpAny_load ho ?_)
      rw[hc,hd];show wpAny M A (if (["enumerate","zip","dict_itemiterator","dict_reverseitemiterator","odict_iterator","itertools.zip_longest","itertools.pairwise"].contains n && vs[0]? == some (rawInt _))=true then _ else _) Q E s;rw[if_neg (by intro h;rw[hn,Bool.false_and]at h;cases h)]
      exact jvd hQ))
noncomputable def Itl (K:PySem.W.Frag)(a:Addr):It:=
 ⟨fun i H=>∃xs x,SqL K H a xs/\xs[i]?=some x,fun i H x H'=>H'=H/\∀xs,SqL K H a xs->xs[i]?=some x,fun i H=>∃xs,SqL K H a xs/\xs.length<=i⟩
noncomputable def Itt (K:PySem.W.Frag)(a:Addr):It:=
 ⟨fun i H=>∃xs x,SqT K H a xs/\xs[i]?=some x,fun i H x H'=>H'=H/\∀xs,SqT K H a xs->xs[i]?=some x,fun i H=>∃xs,SqT K H a xs/\xs.length<=i⟩
noncomputable def Itr (lo:Int)(n:Nat):It:=⟨fun i _=>i < n,fun i H x H'=>H'=H/\x=.int (lo + i),fun i _=>n<=i⟩
theorem ji8 {P:Program}{w:World}{K:PySem.W.Frag}{tg:Expr}(a it:Addr):Turn P w K tg (Itl K a) [it] it (fun i h=>h.IsListIter it a i) where
 mem:=by simp
 obj:=fun i h st b hb=>by
  have e:b=it:=by simpa using hb
  subst e;obtain⟨o,e,c,d⟩:=st;exact⟨o,e,fun v z=>by rw[d]at z;cases z⟩
 keep:=fun i h h' st k=>st.at fun o e=>k it (by simp) o e
 item:=by
  intro X hP hw hK hc i pins s σ H E I hf st hg;subst hP hw hK;obtain⟨xs,x,hq,hx⟩:=hg;obtain⟨its,rv,p,hz⟩:=I.list hq;obtain⟨u,hu,ru⟩:=rv.get hx;obtain⟨f0,f1,f2,f3,f4,f5⟩:=hf it (by simp)
  refine wpAny_pyNext_list_item st p.isList (x:=u) (by simpa using hu) fun h' st' sb=>?_
  have I1:Inv X pins σ H { s with heap:=h' }:=I.turned (t':=s.toks) (fun b o hb e=>(sb.2 b hb).trans e) f0 f1 f3 f4 f5
  obtain⟨o,e,c,d⟩:=id st';exact⟨u,rfl,jok (s:={ s with heap:=h' }) e c d (by decide) ⟨x,H,I1,ru,⟨rfl,fun ys hy=>by rw[I.list_inj hy hq];exact hx⟩,st',fun b hb=>(hf b hb).1⟩⟩
 done:=by
  intro X hP hw hK hc i pins s σ H E I hf st hg;subst hP hw hK;obtain⟨xs,hq,hx⟩:=hg;obtain⟨its,rv,p,hz⟩:=I.list hq;obtain⟨f0,f1,f2,f3,f4,f5⟩:=hf it (by simp)
  have hl:=rv.length;exact wpAny_pyNext_list_end (I.ok.hd hc) st p.isList (by simp;omega) fun h' eb=>⟨rfl,I.turned (t':=s.toks) (fun b o hb e=>eb b o hb e) f0 f1 f3 f4 f5⟩
 self:=fun _ _ _ _ _ st h=>wpAny_pyIter_listiter st h
theorem jhY {P:Program}{w:World}{K:PySem.W.Frag}{tg:Expr}(a it:Addr):Turn P w K tg (Itt K a) [it] it (fun i h=>h.IsTupleIter it a i) where
 mem:=by simp
 obj:=fun i h st b hb=>by
  have e:b=it:=by simpa using hb
  subst e;obtain⟨o,e,c,d⟩:=st;exact⟨o,e,fun v z=>by rw[d]at z;cases z⟩
 keep:=fun i h h' st k=>st.at fun o e=>k it (by simp) o e
 item:=by
  intro X hP hw hK hc i pins s σ H E I hf st hg;subst hP hw hK;obtain⟨xs,x,hq,hx⟩:=hg;obtain⟨its,rv,p,hz⟩:=I.tuple hq;obtain⟨u,hu,ru⟩:=rv.get hx;obtain⟨f0,f1,f2,f3,f4,f5⟩:=hf it (by simp)
  refine wpAny_pyNext_tuple_item st (show s.heap.IsTuple a its.toArray from p) (x:=u) (by simpa using hu) fun h' st' sb=>?_
  have I1:Inv X pins σ H { s with heap:=h' }:=I.turned (t':=s.toks) (fun b o hb e=>(sb.2 b hb).trans e) f0 f1 f3 f4 f5
  obtain⟨o,e,c,d⟩:=id st';exact⟨u,rfl,jok (s:={ s with heap:=h' }) e c d (by decide) ⟨x,H,I1,ru,⟨rfl,fun ys hy=>by rw[I.tuple_inj hy hq];exact hx⟩,st',fun b hb=>(hf b hb).1⟩⟩
 done:=by
  intro X hP hw hK hc i pins s σ H E I hf st hg;subst hP hw hK;obtain⟨xs,hq,hx⟩:=hg;obtain⟨its,rv,p,hz⟩:=I.tuple hq;obtain⟨f0,f1,f2,f3,f4,f5⟩:=hf it (by simp)
  have hl:=rv.length;exact wpAny_pyNext_tuple_end (I.ok.hd hc) st (show s.heap.IsTuple a its.toArray from p) (by simp;omega) fun h' eb=>⟨rfl,I.turned (t':=s.toks) (fun b o hb e=>eb b o hb e) f0 f1 f3 f4 f5⟩
 self:=fun _ _ _ _ _ st h=>wpAny_pyIter_tupleiter st h
theorem jhZ {P:Program}{w:World}{K:PySem.W.Frag}{tg:Expr}(it:Addr)(lo:Int)(n:Nat):Turn P w K tg (Itr lo n) [it] it (fun i h=>IsRangeIter h it (lo + (i:Nat) * 1) ((n:Int) - (i:Nat)) 1) where
 mem:=by simp
 obj:=fun i h st b hb=>by
  have e:b=it:=by simpa using hb
  subst e;exact⟨_,st,fun v z=>by
   have z':Data.fields _=Data.cell v:=z;cases z'⟩
 keep:=fun i h h' st k=>k it (by simp) _ st
 item:=by
  intro X hP hw hK hc i pins s σ H E I hf st hg;subst hP hw hK;obtain⟨f0,f1,f2,f3,f4,f5⟩:=hf it (by simp)
  have W:=Walks.range (prog:=X.prog) (w:=X.w) (I.ok.hd hc) it lo 1 n;refine W.item i s _ _ hg st fun v h' tk hv st' kk=>?_;obtain⟨t,rfl⟩:=hv;have I1:Inv X pins σ H { s with heap:=h',toks:=tk }:=I.turned (fun b o hb e=>kk b o (by simpa using hb) e) f0 f1 f3 f4 f5
  refine⟨_,rfl,jok (s:={ s with heap:=h',toks:=tk }) (n:="range_iterator") st' rfl rfl (by decide) ⟨.int (lo + i),H,I1,⟨t,?_⟩,⟨rfl,rfl⟩,st',fun b hb=>(hf b hb).1⟩⟩
  rw[Int.mul_one]
 done:=by
  intro X hP hw hK hc i pins s σ H E I hf st hg;subst hP hw hK;obtain⟨f0,f1,f2,f3,f4,f5⟩:=hf it (by simp)
  exact wpAny_pyNext_range_end (I.ok.hd hc) st (by have:n<=i:=hg;omega) fun h' eb=>⟨rfl,I.turned (t':=s.toks) (fun b o hb e=>eb b o hb e) f0 f1 f3 f4 f5⟩
 self:=fun _ _ _ _ _ st h=>wpAny_pyIter_rangeiter st h
end L2
namespace L2
open PySem PySem.Spec PyProof.Rows
section
variable {X:Cx}{tg:Expr}
theorem jlz {pins:List (Addr×Obj)}{σ:St}{H:Hp}{s:Shared}{R:It->Hp->Prop}{E:Value->Shared->Prop}{lo hi:Int}{t u v:Tok}{tk:Nat}(I:Inv X pins σ H s)(h1:-(2 ^ 62)<=lo)(h2:lo < 2 ^ 62)(h3:-(2 ^ 62)<=hi)(h4:hi < 2 ^ 62)
  (q:R (Itr lo (hi - lo).toNat) H):wpAny (model X.prog X.w) X.A (pyIter (.ref s.heap.objs.size)) (PIE X pins σ tg R) E { s with heap:=s.heap.push { cls:=.type "range",data:=.fields #[.int lo t,.int hi u,.int 1 v] },toks:=tk }:=by
 refine wpAny_pyIter_range (IsRange.new ..) (small_one h1 h2 h3 h4) ?_;have I1:Inv X pins σ H { s with heap:=s.heap.push { cls:=.type "range",data:=.fields #[.int lo t,.int hi u,.int 1 v] },toks:=tk }:=I.kept fun b o e=>jvl _ e
 refine⟨(s.heap.push { cls:=.type "range",data:=.fields #[.int lo t,.int hi u,.int 1 v] }).objs.size,[(s.heap.push { cls:=.type "range",data:=.fields #[.int lo t,.int hi u,.int 1 v] }).objs.size],_,_,H,rfl,
  I1.kept (t':=tk) fun b o e=>jvl _ e,jhZ _ lo (hi - lo).toNat,?_,fun b hb=>?_,q⟩
 ·have e1:lo + ((0:Nat):Int) * 1=lo:=by simp
  have e2:(((hi - lo).toNat:Nat):Int) - ((0:Nat):Int)=Builtin.Range.rangeSize lo hi 1:=by rw[rangeSize_one];split <;> omega
  show IsRangeIter _ _ (lo + ((0:Nat):Int) * 1) ((((hi - lo).toNat:Nat):Int) - ((0:Nat):Int)) 1;rw[e1,e2];exact jvn _ rfl
 ·have e:b=(s.heap.push { cls:=.type "range",data:=.fields #[.int lo t,.int hi u,.int 1 v] }).objs.size:=by simpa using hb
  subst e;exact I1.fpOk (jvq _) (I1.hok.fresh (jvq _))
noncomputable def jsB (ta:TA):TI:=fun σ H R=>ta σ H fun vs H1=>∃j:Int,vs=[.int j]/\-(2 ^ 62)<=j/\j < 2 ^ 62/\R (Itr 0 j.toNat) H1
theorem ji9 {a:Expr}{ta:TA}{p pos:Pos}(hg:Gl X "range")(hm:X.mg "range"=none)(ha:PA X [a] ta)(hs:starEach [a] X.env=[(false,eval a X.env)]:=by rfl):PI X tg (.Call (.Name "range" p) [a] [] pos) (jsB ta):=by
 intro pins s σ H R I h;refine Call_ (je8 I hg hm boot_range (PyProof.Rows.callWith_type1 (thn (ha pos pins s σ H _ I h) fun us s1 hzz=>?_) hs rfl));obtain⟨vs,H1,I1,r1,q1⟩:=hzz;obtain⟨j,e,q1,q2,q⟩:=q1;subst e;cases r1 with
 |cons r rr=>
  cases rr;obtain⟨t,rfl⟩:=r;exact call_range_1 (jlz I1 (by omega) (by omega) q1 q2 (by simpa using q))
noncomputable def jbY (fp:List Addr)(h:Heap):List (Addr×Obj):=fp.filterMap fun b=>(h.get? b).map fun o=>(b,o)
theorem jbn {fp:List Addr}{h:Heap}{b:Addr}{o:Obj}(hb:b∈fp)(e:h.get? b=some o):(b,o)∈jbY fp h:=List.mem_filterMap.mpr ⟨b,hb,by rw[e];rfl⟩
theorem jja {fp:List Addr}{h:Heap}{p:Addr×Obj}(hp:p∈jbY fp h):p.1∈fp/\h.get? p.1=some p.2:=by
 obtain⟨b,hb,e⟩:=List.mem_filterMap.mp hp;cases q:h.get? b with
 |none=>rw[q]at e;cases e
 |some o=>
  rw[q]at e;have e':(b,o)=p:=Option.some.inj e;subst e';exact⟨hb,q⟩
theorem Inv.pinned {pins:List (Addr×Obj)}{σ:St}{H:Hp}{s:Shared}{fp:List Addr}(I:Inv X pins σ H s)(hf:∀b∈fp,FpOk X pins H b)(ho:∀b∈fp,∃o,s.heap.get? b=some o/\∀v,o.data≠.cell v):Inv X (pins++jbY fp s.heap) σ H s:=
 I.pins_of fun p hp=>(List.mem_append.mp hp).elim (fun z=>I.pin p (juV _ z)) fun z=>by
  obtain⟨hb,e⟩:=jja z;obtain⟨f0,f1,f2,_⟩:=hf p.1 hb;obtain⟨o,e',d⟩:=ho p.1 hb;rw[e]at e';cases e';exact⟨e,f0,f1,f2,d⟩
theorem Inv.unpinned {pins pl:List (Addr×Obj)}{σ:St}{H:Hp}{s:Shared}(I:Inv X (pins++pl) σ H s):Inv X pins σ H s:=I.pins_of fun p hp=>I.pin p (juV _ (ju7 _ hp))
end
end L2
namespace L2
open PySem PySem.Spec PyProof.Rows
noncomputable abbrev R2:=V->V->Hp->VK->Prop
noncomputable def OpR (X:Cx)(f:Value->Value->Sem Value)(r:R2):Prop:=
 ∀(pins:List (Addr×Obj)) (s:Shared) (σ:St) (H:Hp) (x y:V) (v u:Value) (Q:VK),Inv X pins σ H s->RelV x v->RelV y u->r x y H Q ->
  wpAny (model X.prog X.w) X.A (f v u) (EP X pins σ Q) X.xe s
noncomputable def UnR (X:Cx)(f:Value->Sem Value)(r:V->Hp->VK->Prop):Prop:=
 ∀(pins:List (Addr×Obj)) (s:Shared) (σ:St) (H:Hp) (x:V) (v:Value) (Q:VK),Inv X pins σ H s->RelV x v->r x H Q ->
  wpAny (model X.prog X.w) X.A (f v) (EP X pins σ Q) X.xe s
noncomputable def CallR (X:Cx)(f:Value)(r:List V->Hp->VK->Prop):Prop:=
 ∀(pins:List (Addr×Obj)) (s:Shared) (σ:St) (H:Hp) (xs:List V) (us:List Value) (Q:VK),Inv X pins σ H s->Vals xs us->r xs H Q ->
  wpAny (model X.prog X.w) X.A (call f us) (EP X pins σ Q) X.xe s
noncomputable def juh (X:Cx)(r:V->Hp->(Bool->Hp->Prop)->Prop):Prop:=
 ∀(pins:List (Addr×Obj)) (s:Shared) (σ:St) (H:Hp) (x:V) (v:Value) (Q:Bool->Hp->Prop),Inv X pins σ H s->RelV x v->r x H Q ->
  wpAny (model X.prog X.w) X.A (truthy v) (TP X pins σ Q) X.xe s
noncomputable def tOp (r:R2)(ta tb:TE):TE:=fun σ H Q=>ta σ H fun x H1=>tb σ H1 fun y H2=>r x y H2 Q
noncomputable def tUn (r:V->Hp->VK->Prop)(ta:TE):TE:=fun σ H Q=>ta σ H fun x H1=>r x H1 Q
noncomputable def rI (C:Int->Int->Prop)(g:Int->Int->V):R2:=fun x y H Q=>∃i j,x=.int i/\y=.int j/\C i j/\Q (g i j) H
noncomputable def rI0 (g:Int->Int->V):R2:=fun x y H Q=>∃i j,x=.int i/\y=.int j/\Q (g i j) H
noncomputable def rU (g:Int->V):V->Hp->VK->Prop:=fun x H Q=>∃i,x=.int i/\Q (g i) H
section
variable {X:Cx}{a b c:Expr}{ta tb tc:TE}{pos:Pos}
theorem jsC (ha:PE X a ta)(hb:PE X b tb){pins:List (Addr×Obj)}{s:Shared}{σ:St}{H:Hp}{R:V->V->Hp->Prop}(I:Inv X pins σ H s)
  (h:ta σ H fun x H1=>tb σ H1 fun y H2=>R x y H2) {Q:Value->Shared->Prop}{f:Value->Value->Sem Value}
  (hf:∀v u s2 x y H2,Inv X pins σ H2 s2->RelV x v->RelV y u->R x y H2->wpAny (model X.prog X.w) X.A (f v u) Q X.xe s2) :
  wpAny (model X.prog X.w) X.A (eval a X.env) (fun v s₁=>wpAny (model X.prog X.w) X.A (eval b X.env) (fun u s₂=>wpAny (model X.prog X.w) X.A (f v u) Q X.xe s₂) X.xe s₁) X.xe s:=by
 refine thn (ha pins s σ H _ I h) fun v s1 hzz=>?_;obtain⟨x,H1,I1,r1,q1⟩:=hzz;refine thn (hb pins s1 σ H1 _ I1 q1) fun u s2 hzz=>?_;obtain⟨y,H2,I2,r2,q2⟩:=hzz;exact hf v u s2 x y H2 I2 r1 r2 q2
theorem jsD {op:Operator}{r:R2}(ho:OpR X (binaryOp op) r)(ha:PE X a ta)(hb:PE X b tb):PE X (.BinOp a op b pos) (tOp r ta tb):=by
 intro pins s σ H Q I h;exact wpAny_BinOp (jsC ha hb I h fun v u s2 x y H2 I2 rx ry q=>ho pins s2 σ H2 x y v u Q I2 rx ry q)
theorem jsE {op:UnaryOp}{r:V->Hp->VK->Prop}(ho:UnR X (unaryOp op) r)(ha:PE X a ta):PE X (.UnaryOp op a pos) (tUn r ta):=by
 intro pins s σ H Q I h;exact UnaryOp_ (thn (ha pins s σ H _ I h) fun v s1 ⟨x,H1,I1,r1,q1⟩=>ho pins s1 σ H1 x v Q I1 r1 q1)
theorem opI {f:Value->Value->Sem Value}{C:Int->Int->Prop}{g:Int->Int->Int}
  (rule:∀(i j:Int) (t u:Tok) (s:Shared) (Q:Value->Shared->Prop) (E:Value->Shared->Prop),C i j->Q (.int (g i j) s.toks) { s with toks:=s.toks + 1 }->wpAny (model X.prog X.w) X.A (f (.int i t) (.int j u)) Q E s) :
  OpR X f (rI C fun i j=>.int (g i j)):=by
 intro pins s σ H x y v u Q I rx ry h;obtain⟨i,j,rfl,rfl,hc,q⟩:=h;obtain⟨t,rfl⟩:=rx;obtain⟨t',rfl⟩:=ry;exact rule i j t t' s _ _ hc ⟨.int (g i j),H,I.tok _,⟨_,rfl⟩,q⟩
theorem jtR {f:Value->Value->Sem Value}{g:Int->Int->Int}
  (rule:∀(i j:Int) (t u:Tok) (s:Shared) (Q:Value->Shared->Prop) (E:Value->Shared->Prop),Q (.int (g i j) s.toks) { s with toks:=s.toks + 1 }->wpAny (model X.prog X.w) X.A (f (.int i t) (.int j u)) Q E s) :
  OpR X f (rI0 fun i j=>.int (g i j)):=by
 intro pins s σ H x y v u Q I rx ry h;obtain⟨i,j,rfl,rfl,q⟩:=h;obtain⟨t,rfl⟩:=rx;obtain⟨t',rfl⟩:=ry;exact rule i j t t' s _ _ ⟨.int (g i j),H,I.tok _,⟨_,rfl⟩,q⟩
theorem jsm {f:Value->Value->Sem Value}{g:Int->Int->Bool}
  (rule:∀(i j:Int) (t u:Tok) (s:Shared) (Q:Value->Shared->Prop) (E:Value->Shared->Prop),Q (.bool (g i j)) s->wpAny (model X.prog X.w) X.A (f (.int i t) (.int j u)) Q E s) :
  OpR X f (rI0 fun i j=>.bl (g i j)):=by
 intro pins s σ H x y v u Q I rx ry h;obtain⟨i,j,rfl,rfl,q⟩:=h;obtain⟨t,rfl⟩:=rx;obtain⟨t',rfl⟩:=ry;exact rule i j t t' s _ _ ⟨.bl (g i j),H,I,rfl,q⟩
noncomputable def jui (i j:Int):Prop:=0<=j/\j<=1000000/\i.natAbs < 2 ^ 64
noncomputable def CMul (i j:Int):Prop:=(-(2 ^ 64) < i/\i < 2 ^ 64)\/(-(2 ^ 64) < j/\j < 2 ^ 64)
theorem CMul.ok {i j:Int}(h:CMul i j):IntMulOk i j:=by
 rcases h with ⟨h1,h2⟩ | ⟨h1,h2⟩
 ·exact .of_left (intBits_le_64 h1 h2)
 ·exact .of_right (intBits_le_64 h1 h2)
theorem jqN:OpR X (binaryOp .Add) (rI0 fun i j=>.int (i + j)):=jtR fun _ _ _ _ _ _ _ q=>add_int q
theorem jqO:OpR X (binaryOp .Sub) (rI0 fun i j=>.int (i - j)):=jtR fun _ _ _ _ _ _ _ q=>sub_int q
theorem jqP:OpR X (binaryOp .Mult) (rI CMul fun i j=>.int (i * j)):=opI fun _ _ _ _ _ _ _ hc q=>mul_int q hc.ok
theorem jqQ:OpR X (binaryOp .Mod) (rI (fun _ j=>0 < j) fun i j=>.int (i % j)):=opI fun i j _ _ _ _ _ hc q=>by
 have h1:(0:Int) < j:=hc;exact mod_int' (by omega) (by rw[Int.fmod_eq_emod_of_nonneg i (by omega)];exact q)
theorem jqR:OpR X (binaryOp .Pow) (rI jui fun i j=>.int (i ^ j.toNat)):=opI fun _ _ _ _ _ _ _ hc q=>pow_int_small hc.1 hc.2.1 hc.2.2 q
theorem unI {f:Value->Sem Value}{g:Int->Int}
  (rule:∀(i:Int) (t:Tok) (s:Shared) (Q:Value->Shared->Prop) (E:Value->Shared->Prop),Q (.int (g i) s.toks) { s with toks:=s.toks + 1 }->wpAny (model X.prog X.w) X.A (f (.int i t)) Q E s) :
  UnR X f (rU fun i=>.int (g i)):=by
 intro pins s σ H x v Q I rx h;obtain⟨i,rfl,q⟩:=h;obtain⟨t,rfl⟩:=rx;exact rule i t s _ _ ⟨.int (g i),H,I.tok _,⟨_,rfl⟩,q⟩
theorem jqS:UnR X (unaryOp .USub) (rU fun i=>.int (-i)):=unI fun _ _ _ _ _ q=>neg_int q
end
section
variable {X:Cx}{a b c:Expr}{ta tb tc:TE}{pos:Pos}
theorem jnB {pins:List (Addr×Obj)}{σ:St}{H:Hp}{s:Shared}{Q:VK}{k k':Bool}(I:Inv X pins σ H s)(q:Q (.bl k) H)(e:k=k'):EP X pins σ Q (.bool k') s:=by
 subst e;exact⟨.bl k,H,I,rfl,q⟩
theorem jsF:OpR X (compareOp .Lt) (rI0 fun i j=>.bl (decide (i < j))):=jsm fun _ _ _ _ _ _ _ q=>lt_int q
theorem jsG:OpR X (compareOp .LtE) (rI0 fun i j=>.bl (decide (i<=j))):=jsm fun _ _ _ _ _ _ _ q=>le_int q
theorem jsH:OpR X (compareOp .Gt) (rI0 fun i j=>.bl (decide (j < i))):=jsm fun _ _ _ _ _ _ _ q=>gt_int q
theorem jsI:OpR X (compareOp .GtE) (rI0 fun i j=>.bl (decide (j<=i))):=jsm fun _ _ _ _ _ _ _ q=>ge_int q
theorem jqT:OpR X (compareOp .Is) (fun x y H Q=>y=.non/\Q (.bl (decide (x=.non))) H):=by
 intro pins s σ H x y v u Q I rx ry h;obtain⟨rfl,q⟩:=h;cases ry;refine is_none_gen (jnB I q ?_);cases x <;> first
  |(cases rx;rfl)
  |(obtain⟨t,rfl⟩:=rx;rfl)
theorem jol:OpR X (compareOp .IsNot) (fun x y H Q=>y=.non/\Q (.bl (!decide (x=.non))) H):=by
 intro pins s σ H x y v u Q I rx ry h;obtain⟨rfl,q⟩:=h;cases ry;refine isnot_none_gen (jnB I q ?_);cases x <;> first
  |(cases rx;rfl)
  |(obtain⟨t,rfl⟩:=rx;rfl)
theorem jom {op:CmpOp}{r:R2}(ho:OpR X (compareOp op) r)(ha:PE X a ta)(hb:PE X b tb)(hm:behindInMarks op b=false):PE X (.Compare a [op] [b] pos) (tOp r ta tb):=by
 intro pins s σ H Q I h;exact wpAny_Compare1 (jsC ha hb I h fun v u s2 x y H2 I2 rx ry q=>ho pins s2 σ H2 x y v u Q I2 rx ry q) hm
noncomputable def jsJ (t:TE):TT:=fun σ H Q=>t σ H fun x H'=>∃k,x=.bl k/\Q k H'
theorem jon {op:CmpOp}{r:R2}(ho:OpR X (compareOp op) r)(ha:PE X a ta)(hb:PE X b tb)(hm:behindInMarks op b=false):PT X (.Compare a [op] [b] pos) (jsJ (tOp r ta tb)):=by
 intro pins s σ H Q I h;refine wpAny_isTrue_Compare1 (thn (ha pins s σ H _ I h) fun v s1 ⟨x,H1,I1,r1,q1⟩=>thn (hb pins s1 σ H1 _ I1 q1) fun u s2 ⟨y,H2,I2,r2,q2⟩=>
  thn (ho pins s2 σ H2 x y v u _ I2 r1 r2 q2) fun c s3 ⟨z,H3,I3,r3,k,e,q3⟩=>?_) hm
 subst e;cases r3;exact wpAny_truthy_bool ⟨H3,I3,q3⟩
noncomputable def jsK (K:PySem.W.Frag)(x:V)(H:Hp)(k:Bool):Prop:=
 match x with
 |.non=>k=false
 |.bl b=>k=b
 |.int i=>k=(i != 0)
 |.str y=>y.length<=sizeLine/\k=((y.length:Int) != 0)
 |.byt y=>y.size<=sizeLine/\k=((y.size:Int) != 0)
 |.ref p=>(∃xs,SqL K H p xs/\k=!xs.isEmpty)\/(∃xs,SqT K H p xs/\k=!xs.isEmpty)\/∃kvs,H p=some (.dK kvs)/\k=!kvs.isEmpty
 |_=>False
theorem jh0 {κ:Type}{kvs:List (κ×V)}{vs:List (κ×Value)}(r:KV kvs vs):(!vs.isEmpty)=!kvs.isEmpty:=by
 cases r <;> rfl
theorem jdH {xs:List V}{its:List Value}(r:Vals xs its):(!its.toArray.isEmpty)=!xs.isEmpty:=by
 cases r <;> simp
theorem jbZ:(sizeLine:Nat) < 2 ^ 63:=by rw[sizeLine_eq];decide
theorem jqU:juh X (fun x H Q=>∃k,jsK X.K x H k/\Q k H):=by
 intro pins s σ H x v Q I rx h;obtain⟨k,e,q⟩:=h;have hl:=jbZ;have hs:sizeLine=16777216:=sizeLine_eq;cases x with
 |non=>
  cases rx;have e':k=false:=e;subst e';exact truthy_none ⟨H,I,q⟩
 |bl b=>
  cases rx;have e':k=b:=e;subst e';exact wpAny_truthy_bool ⟨H,I,q⟩
 |int i=>
  obtain⟨t,rfl⟩:=rx;have e':k=(i != 0):=e;subst e';exact PySem.P.truthy_int ⟨H,I,q⟩
 |str y=>
  obtain⟨t,rfl⟩:=rx;obtain⟨hy,e'⟩:y.length<=sizeLine/\k=((y.length:Int) != 0):=e;subst e';exact PySem.P.truthy_str (by omega) ⟨H,I.tok _,q⟩
 |byt y=>
  obtain⟨t,rfl⟩:=rx;obtain⟨hy,e'⟩:y.size<=sizeLine/\k=((y.size:Int) != 0):=e;subst e';exact PySem.W.truthy_bytes (by omega) ⟨H,I.tok _,q⟩
 |ref p=>
  cases rx;have e':(∃xs,SqL X.K H p xs/\k=!xs.isEmpty)\/(∃xs,SqT X.K H p xs/\k=!xs.isEmpty)\/∃kvs,H p=some (.dK kvs)/\k=!kvs.isEmpty:=e;rcases e' with ⟨xs,hx,e'⟩ | ⟨xs,hx,e'⟩ | ⟨kvs,hx,e'⟩
  ·subst e';obtain⟨its,r,pl,hz⟩:=I.list hx;have hlen:=r.length;exact wpAny_truthy_list pl.isList (by simp only[juO];omega) ⟨H,I.tok _,by rw[jdH r];exact q⟩
  ·subst e';obtain⟨its,r,pl,hz⟩:=I.tuple hx;have hlen:=r.length;exact truthy_tuple pl (by simp only[juO];omega) ⟨H,I.tok _,by rw[jdH r];exact q⟩
  ·subst e';obtain⟨hz,hS,vs,r,m⟩:kvs.length<=sizeLine/\(p == sysModules)=false/\∃vs,KV kvs vs/\s.heap.DictOf (jgg X.prog X.w) p vs:=I.hok p _ hx;have hlen:kvs.length=vs.length:=Paired.length r;exact wpAny_truthy_dict hS m (by omega) ⟨H,I.tok _,by rw[jh0 r];exact q⟩
 |_=>exact(show False from e).elim
theorem jlA (ha:PE X a ta)(he:∀whole,isTrue a X.env whole=(do let v <-whole;standAt a.pos;holding [v] (truthy v))) :
  PT X a (fun σ H Q=>ta σ H fun x H'=>∃k,jsK X.K x H' k/\Q k H'):=by
 intro pins s σ H Q I h;exact isTrue_plain (thn (ha pins s σ H _ I h) fun v s1 ⟨x,H1,I1,r1,q1⟩=>jqU pins s1 σ H1 x v Q I1 r1 q1) (he _)
theorem jh1:OpR X (binaryOp .Add) (fun x y H Q=>∃i j,x=.str i/\y=.str j/\i.length + j.length<=sizeLine/\Q (.str (i++j)) H):=by
 intro pins s σ H x y v u Q I rx ry h;obtain⟨i,j,rfl,rfl,hz,q⟩:=h;obtain⟨t,rfl⟩:=rx;obtain⟨t',rfl⟩:=ry;exact add_str (fun t' tk=>⟨.str (i++j),H,I.tok _,⟨_,rfl⟩,q⟩) hz
theorem jcz {x:V}{us:List Value}(r:Vals [x] us):∃u,us=[u]/\RelV x u:=by
 cases r with
 |cons r1 r2=>cases r2;exact⟨_,rfl,r1⟩
theorem jqV {x y:V}{us:List Value}(r:Vals [x,y] us):∃u w',us=[u,w']/\RelV x u/\RelV y w':=by
 cases r with
 |cons r1 r2=>
  cases r2 with
  |cons r3 r4=>cases r4;exact⟨_,_,rfl,r1,r3⟩
theorem jjb (hc:X.calm=true):CallR X (.builtin "min") (fun xs H Q=>∃i j,xs=[.int i,.int j]/\Q (.int (if j < i then j else i)) H):=by
 intro pins s σ H xs us Q I r h;obtain⟨i,j,rfl,q⟩:=h;obtain⟨u,w',rfl,⟨t,rfl⟩,⟨t',rfl⟩⟩:=jqV r;refine min_two_ints (I.ok.hd hc) fun h' tk k=>⟨_,H,I.kept k,?_,q⟩;by_cases hj:j < i
 ·rw[if_pos hj,if_pos hj];exact⟨_,rfl⟩
 ·rw[if_neg hj,if_neg hj];exact⟨_,rfl⟩
end
end L2
namespace L2
open PySem PySem.Spec PyProof.Rows
section
variable {prog:Program}{w:World}{A:Around}{E:Value->Shared->Prop}{s:Shared}{K:PySem.W.Frag}{x dx C f:Addr}{mA:Str->Option Value}{name:Str}{v:Value}
end
section
variable {P:Program}{w:World}{H H':Hp}{h h':Heap}{a C dx:Addr}{fs fs':List (Str×V)}
end
section
variable {X:Cx}{pins:List (Addr×Obj)}{σ:St}{H:Hp}{s:Shared}{a C dx:Addr}{fs:List (Str×V)}{f:Str}{v:V}{A:Around}{E:Value->Shared->Prop}
end
section
variable {X:Cx}{o e value:Expr}{f:Str}{pos pos' tpos:Pos}{ta tv:TE}
end
section
variable {X:Cx}{pins:List (Addr×Obj)}{σ:St}{H:Hp}{s:Shared}{A:Around}{E:Value->Shared->Prop}{Q:Value->Shared->Prop}{c:Value}{b:Bool}
end
end L2
namespace L2
open PySem PySem.Spec PyProof.Rows
structure Room (k:Nat)(A:Around):Prop where
 hd:A.handled=none
 dp:A.depth + 3 * k + 5 < recursionLimit
 un:A.units + 16 * k + 200 < cLine
theorem Room.deeper {k:Nat}{A:Around}(r:Room (k + 1) A)(env:Env):Room k (A.deeper env):=
 ⟨r.hd,by have:=r.dp;show A.depth + 1 + 3 * k + 5 < _;omega,by have:=r.un;show A.units + 3 + 16 * k + 200 < _;omega⟩
theorem Room.depth {k:Nat}{A:Around}(r:Room k A):A.depth < recursionLimit:=by have:=r.dp;omega
theorem Room.units {k:Nat}{A:Around}(r:Room k A):A.units + 64 < cLine:=by have:=r.un;omega
noncomputable def joo:TA:=fun _ H Q=>Q [] H
noncomputable def jgj (ta:TE)(tr:TA):TA:=fun σ H Q=>ta σ H fun x H1=>tr σ H1 fun xs H2=>Q (x::xs) H2
section
variable {X:Cx}{e:Expr}{es:List Expr}{te:TE}{t:TA}{pos:Pos}
theorem jba:PA X [] joo:=fun _ _ _ _ H Q I h=>Calls.spliced_nil ⟨[],H,I,.nil,h⟩
theorem jat (ha:PE X e te)(hr:PA X es t)(hs:starEach (e::es) X.env=(false,eval e X.env)::starEach es X.env:=by rfl):PA X (e::es) (jgj te t):=by
 intro pos pins s σ H Q I h;rw[hs];show wpAny _ _ (spliced ((false,eval e X.env)::backTo pos (starEach es X.env))) _ _ s;refine Calls.spliced_cons (thn (ha pins s σ H _ I h) fun u s1 hzz=>?_);obtain⟨x,H1,I1,r1,q1⟩:=hzz;exact thn (hr pos pins s1 σ H1 _ I1 q1) fun us s2 ⟨xs,H2,I2,r2,q2⟩=>⟨x::xs,H2,I2,.cons r1 r2,q2⟩
noncomputable def juj (t:TA):TE:=fun σ H Q=>t σ H fun xs H1=>xs.length<=sizeLine/\∀p,H1 p=none->Q (.ref p) (upd H1 p (.tup xs))
noncomputable def juk (t:TA):TE:=fun σ H Q=>t σ H fun xs H1=>xs.length<=sizeLine/\∀p,H1 p=none->Q (.ref p) (upd H1 p (.lst xs))
theorem jnC {x1}(h:PA X es t):PE X (.Tuple es x1 pos) (juj t):=by
 intro pins s σ H Q I hq;refine wpAny_Tuple_spliced (thn (h pos pins s σ H _ I hq) fun us s1 ⟨xs,H1,I1,r,z,q⟩=>⟨by rw[<-r.length];exact z,?_⟩)
 have hf:H1 s1.heap.objs.size=none:=I1.hok.fresh (jvq _);refine⟨.ref s1.heap.objs.size,upd H1 s1.heap.objs.size (.tup xs),I1.laid (t':=s1.toks) (fun b u e=>jvl _ e) (jvq _) ?_,rfl,q _ hf⟩;exact⟨z,us,r,⟨_,jvn _ rfl,rfl,_,rfl⟩⟩
theorem jqW (h:PA X es t):PE X (.List es pos) (juk t):=by
 intro pins s σ H Q I hq;refine wpAny_List_spliced (thn (h pos pins s σ H _ I hq) fun us s1 ⟨xs,H1,I1,r,z,q⟩=>⟨by rw[<-r.length];exact z,?_⟩)
 have hf:H1 s1.heap.objs.size=none:=I1.hok.fresh (jvq _);refine⟨.ref s1.heap.objs.size,upd H1 s1.heap.objs.size (.lst xs),I1.laid (t':=s1.toks) (fun b u e=>jvl _ e) (jvq _) ?_,rfl,q _ hf⟩;exact⟨z,us,0,r,jvn _ rfl⟩
end
noncomputable abbrev Sp:=List V->Hp->VK->XK->Prop
noncomputable abbrev CXT:=List Env->Hp->Shared->XK->Value->Shared->Prop
structure Env0 (P:Program)(w:World)(K:PySem.W.Frag)(mg:Str->Option Value)(base:Heap)(A:Around)(outer:List Env)(s:Shared)(H:Hp):Prop where
 frames:A.frames=some outer
 mod:Mod K mg base
 bs:∀b o,base.get? b=some o->s.heap.get? b=some o/\H b=none
 bsz:base.objs.size<=s.heap.objs.size
 funs:s.heap.FunFrames base outer
 frf:∀b∈frs outer,H b=none
 hok:HOk P w H s.heap
 bare:AllBare s.gens
inductive CE (outer:List Env) (P:Program) (w:World) (H:Hp) (s:Shared) (Q:VK) (u:Value) (s':Shared):Prop
 |mk (v:_) (H':_):(s'.os=s.os)->(AllBare s'.gens)->(Un (frs outer) [] H H' s.heap s'.heap)->(HOk P w H' s'.heap)->(RelV v u)->(Q v H')->CE outer P w H s Q u s'
noncomputable def CR (CX:CXT)(outer:List Env)(P:Program)(w:World)(H:Hp)(s:Shared)(Q:VK)(E:XK)(r:Result)(s':Shared):Prop:=
 match r with
 |.ok (.ret u)=>CE outer P w H s Q u s'
 |.ok _=>False
 |.error e=>CX outer H s E e s'
structure FnOk (P:Program)(w:World)(K:PySem.W.Frag)(mg:Str->Option Value)(base:Heap)(CX:CXT)(k:Nat)(f:Addr)(fd:FuncData)(ps:List Str)(sp:Sp):Prop where
 len:∀vs H Q E,sp vs H Q E->vs.length=ps.length
 run:∀(A:Around) (outer:List Env) (s:Shared) (H:Hp) (args:Args) (us:List Value) (vs:List V) (Q:VK) (E:XK),Room k A->Env0 P w K mg base A outer s H->BindsTo s fd args (ps.zip us)->Vals vs us->sp vs H Q E ->
  codeAny (model P w) A (.call (.ref f) args) (CR CX outer P w H s Q E) s
section
variable {X:Cx}{pins:List (Addr×Obj)}{σ:St}{H:Hp}{s s':Shared}
theorem Inv.env0 (I:Inv X pins σ H s):Env0 X.prog X.w X.K X.mg X.base X.A X.stack s H:=
 ⟨I.ok.frames,I.ok.mod,I.bs,jvt I.ok.bsz I.sz,I.stack,I.stkFree,I.hok,I.bare⟩
theorem Inv.after {Q:VK}{u:Value}(I:Inv X pins σ H s)(h:CE X.stack X.prog X.w H s Q u s'):EP X pins σ Q u s':=by
 obtain⟨v,H',os,bare,un,hok,r,q⟩:=h;obtain⟨hh,g,d,t,os'⟩:=s';obtain rfl:os'=s.os:=os;exact⟨v,H',I.call (h':=hh) (g':=g) (d':=d) (t':=t) (ch:=[]) un hok bare (fun b z=>absurd z (by simp)),r,q⟩
end
noncomputable def Binds (K:PySem.W.Frag)(fd:FuncData)(ps:List Str)(ds:List Value):Prop:=
 ∀(s:Shared) (us:List Value),K.In s.heap->(us++ds).length=ps.length->BindsTo s fd ⟨us,[]⟩ (ps.zip (us++ds))
theorem Binds.all {K:PySem.W.Frag}{fd:FuncData}{ps:List Str}(h:∀us:List Value,us.length=ps.length->bindArgs fd ⟨us,[]⟩=pure (ps.zip us)):Binds K fd ps []:=fun s us _ hl=>by
 rw[ju9]at hl ⊢;exact .of_eq (h us hl)
section
variable {X:Cx}{CX:CXT}{k:Nat}{f C:Addr}{fd:FuncData}{ps:List Str}{sp:Sp}{dvs:List V}{ds:List Value}{E:XK}{x m:Str}{p pos apos:Pos}{e o:Expr}{es:List Expr}{ta:TE}{t:TA}
end
section
variable {X:Cx}{CX:CXT}{k:Nat}{f C:Addr}{fd:FuncData}{ps ks:List Str}{sp:Sp}{E:XK}{x m:Str}{p pos apos kpos:Pos}{e o:Expr}{es:List Expr}{kws:List Keyword}{te ta:TE}{t tk:TA}{nm:Option Str}
variable {g:List Value->List Value->List Value}{gV:List V->List V->List V}
end
structure FnScope (N P:List Str)(sc:Scope):Prop where
 kind:sc.kind=.function
 co:sc.isCoroutine=false
 gen:sc.isGenerator=false
 nd:N.Nodup
 pre:N.take P.length=P
 par:∀x∈P,sc.names.lookup x=some .local\/sc.names.lookup x=some .cell
 nofree:∀y∈sc.names,y.2≠.free
theorem je9 {kindOf:Str->Option NameKind}{x:Str}:∀{binds:List (Str×Value)}{m:Str->Option Value},(∀v,(x,v) ∉ binds)->bindL kindOf binds m x=m x
 |[],_,_=>rfl
 |(n,v)::r,m,h=>by
  unfold bindL;rw[je9 fun w hw=>h w (juL _ hw)];split
  ·have:x≠n:=by rintro rfl;exact h v juM
   simp[this]
  ·rfl
theorem jfa {kindOf:Str->Option NameKind}{x:Str}:∀{binds:List (Str×Value)}{m:Str->Option Value},(∀v,(x,v) ∉ binds)->bindC kindOf binds m x=m x
 |[],_,_=>rfl
 |(n,v)::r,m,h=>by
  unfold bindC;rw[jfa fun w hw=>h w (juL _ hw)];split
  ·rfl
  ·have:x≠n:=by rintro rfl;exact h v juM
   simp[this]
theorem jfb {kindOf:Str->Option NameKind}{x:Str}{v:Value}:∀{P:List Str}{vs:List Value}{i:Nat}{m:Str->Option Value},P.Nodup->P[i]?=some x->vs[i]?=some v->kindOf x=some .local ->
  bindL kindOf (P.zip vs) m x=some v
 |[],_,_,_,_,h,_,_=>by simp at h
 |_::_,[],_,_,_,_,h,_=>by simp at h
 |p::P,w::vs,0,m,nd,h1,h2,hk=>by
  simp at h1 h2;subst h1;subst h2;show bindL kindOf ((p,w)::P.zip vs) m p=_;unfold bindL;rw[je9 fun v hv=>(List.nodup_cons.mp nd).1 (List.of_mem_zip hv).1,if_pos hk];simp
 |p::P,w::vs,i + 1,m,nd,h1,h2,hk=>by
  show bindL kindOf ((p,w)::P.zip vs) m x=_;unfold bindL;exact jfb (i:=i) (List.nodup_cons.mp nd).2 (by simpa using h1) (by simpa using h2) hk
theorem jfc {kindOf:Str->Option NameKind}{x:Str}{v:Value}:∀{P:List Str}{vs:List Value}{i:Nat}{m:Str->Option Value},P.Nodup->P[i]?=some x->vs[i]?=some v->kindOf x≠some .local ->
  bindC kindOf (P.zip vs) m x=some v
 |[],_,_,_,_,h,_,_=>by simp at h
 |_::_,[],_,_,_,_,h,_=>by simp at h
 |p::P,w::vs,0,m,nd,h1,h2,hk=>by
  simp at h1 h2;subst h1;subst h2;show bindC kindOf ((p,w)::P.zip vs) m p=_;unfold bindC;rw[jfa fun v hv=>(List.nodup_cons.mp nd).1 (List.of_mem_zip hv).1,if_neg hk];simp
 |p::P,w::vs,i + 1,m,nd,h1,h2,hk=>by
  show bindC kindOf ((p,w)::P.zip vs) m x=_;unfold bindC;exact jfc (i:=i) (List.nodup_cons.mp nd).2 (by simpa using h1) (by simpa using h2) hk
noncomputable def start (N:List Str)(vs:List V):St:=vs.map some++List.replicate (N.length - vs.length) none
noncomputable def jh2 (CX:CXT)(P:Program)(w:World)(K:PySem.W.Frag)(mg:Str->Option Value)(base:Heap)(N:List Str)(qual:Str)(scope:Scope)(f:Addr)(cd:Value)(A:Around)(outer:List Env)(s:Shared)(H:Hp)(E:XK):Cx where
 prog:=P
 w:=w
 K:=K
 mg:=mg
 base:=base
 A:=A.deeper (envOfC qual scope s.heap.objs.size f cd)
 N:=N
 s₀:=s
 H₀:=H
 env:=envOfC qual scope s.heap.objs.size f cd
 outer:=outer
 stack:=envOfC qual scope s.heap.objs.size f cd::outer
 ex:=[]
 calm:=true
 fn:=fun _=>true
 pn:=[]
 xe:=fun e s'=>wpAny (model P w) (A.deeper (envOfC qual scope s.heap.objs.size f cd)) (leaving (envOfC qual scope s.heap.objs.size f cd) e) (fun _ s''=>CX outer H s E e s'') (fun e' s''=>CX outer H s E e' s'') s'
theorem jhk {sc:Scope}{n:Nat}{x:Str}(h:sc.names.lookup x=some .cell):∃c,(cellsFrom n sc.names []).lookup x=some c:=by
 have q:=PySem.W.cellsFrom_some sc.names n [] (.inl h);exact Option.isSome_iff_exists.mp q
theorem jjc {CX:CXT}{P:Program}{w:World}{K:PySem.W.Frag}{mg:Str->Option Value}{base:Heap}{N ps:List Str}{qual:Str}{scope:Scope}{f:Addr}{cd:Value}{A:Around}{outer:List Env}{s s1:Shared}{H:Hp}{E:XK}{us:List Value}{vs:List V}
  (S:FnScope N ps scope) (hd:A.handled=none) (e0:Env0 P w K mg base A outer s H) (hl:vs.length=ps.length) (r:Vals vs us)
  (x:InCallC s s.heap.objs.size (bindL (envOfC qual scope s.heap.objs.size f cd).kindOf (ps.zip us) fun _=>none) (cellsFrom (s.heap.objs.size + 1) scope.names []) (bindC (envOfC qual scope s.heap.objs.size f cd).kindOf (ps.zip us) fun _=>none) s1) :
  Inv (jh2 CX P w K mg base N qual scope f cd A outer s H E) [] (start N vs) H s1:=by
 have hpl:ps.length<=N.length:=by have:=congrArg List.length S.pre;rw[List.length_take]at this;omega
 obtain⟨h1,tk,rfl,hk⟩:=x.done;have noA:∀b:Addr,b ∉ (jh2 CX P w K mg base N qual scope f cd A outer s H E).ex:=fun b z=>absurd (show b∈([]:List Addr)from z) (by simp)
 refine⟨⟨e0.mod,S.kind,rfl,rfl,jvq _,fun y z c h1 h2=>?_,fun y hy=>?_,fun y c _ h=>?_,fun _=>hd,Around.frames_deeper e0.frames,.inr ⟨rfl,rfl⟩,fun b z=>absurd z (noA b),e0.bs,e0.bsz,fun b _ _=>noA b,fun b z=>absurd z (noA b),e0.funs,e0.frf⟩,
  rfl,e0.bare,Un.kept hk,⟨_,x.toInCall.ns,fun i y v h1 h2 h3=>?_⟩,fun y c h=>⟨_,x.cell y c h⟩,e0.hok.fresh (jvq _),fun y c h=>?_,fun p hp=>absurd (show p∈([]:List (Addr×Obj))from hp) (by simp),e0.hok.kept hk,?_⟩
 ·exact name_of_addr x.apart (PySem.mem_of_lookup h1) (PySem.mem_of_lookup h2)
 ·have hy:scope.names.lookup y=some .cell\/scope.names.lookup y=some .free:=hy;rcases hy with hy | hy
  ·exact jhk hy
  ·exact absurd rfl (S.nofree _ (PySem.mem_of_lookup hy))
 ·exact Nat.le_of_lt (x.above y c (PySem.mem_of_lookup h))
 ·have hi:i < vs.length:=by
   unfold start at h2;by_cases hi:i < vs.length
   ·exact hi
   ·rw[juX (by simpa using hi)]at h2
    rw[List.getElem?_replicate]at h2;split at h2 <;> cases h2
  have ha:vs[i]?=some v:=by
   unfold start at h2;rw[ju1 (by simpa using hi),juQ]at h2
   cases e:vs[i]? with
   |none=>rw[e]at h2;cases h2
   |some a=>rw[e]at h2;cases h2;rfl
  obtain⟨u,hu,rv⟩:=r.get ha;have hp:ps[i]?=some y:=by
   rw[<-S.pre,List.getElem?_take_of_lt (by omega)];exact h1
  have ndP:ps.Nodup:=by rw[<-S.pre];exact S.nd.sublist (List.take_sublist _ _)
  refine⟨u,rv,?_⟩;rcases S.par y (juW hp)with k | k
  ·exact .inl ⟨k,jfb ndP hp hu k⟩
  ·obtain⟨c,e⟩:=jhk (n:=s.heap.objs.size + 1) k;refine .inr ⟨.inl k,c,e,?_⟩;have q:=x.cell y c e;rw[jfc ndP hp hu (by show scope.names.lookup y≠_;rw[k];decide)]at q
   exact q
 ·exact e0.hok.fresh (Nat.le_of_lt (x.above y c (PySem.mem_of_lookup h)))
 ·unfold start;show _=N.length;rw[juY,juT,List.length_replicate];omega
theorem jsL {CX:CXT}{P:Program}{w:World}{K:PySem.W.Frag}{mg:Str->Option Value}{base:Heap}{k:Nat}{f:Addr}{name qual:Str}{params:Arguments}{body:List Stmt}{scope:Scope}{dV kV doc pm cdv ct oc:Value}{an od:Option Addr}
  {osl:Array (Option Value)}{N ps:List Str}{sp:Sp} (lk:K.lookup f=some ⟨oc,od,.func (PySem.W.fnOf name qual params body scope dV kV doc pm an cdv ct),osl⟩) (hcd:jvD K cdv qual=true) (S:FnScope N ps scope)
  (len:∀vs H Q E,sp vs H Q E->vs.length=ps.length)
  (hbody:∀(A:Around) (outer:List Env) (s:Shared) (H:Hp) (vs:List V) (Q:VK) (E:XK),Room k (A.deeper (envOfC qual scope s.heap.objs.size f cdv))->sp vs H Q E ->
   ∃t,PSs (jh2 CX P w K mg base N qual scope f cdv A outer s H E) body t/\t { nx:=fun _ H'=>Q .non H',rt:=Q } (start N vs) H) :
  FnOk P w K mg base CX (k + 1) f (PySem.W.fnOf name qual params body scope dV kV doc pm an cdv ct) ps sp:=by
 refine⟨len,fun A outer s H args us vs Q E hr e0 hb r hsp=>?_⟩;have hl:=len _ _ _ _ hsp;have KX:K.In s.heap:=e0.mod.kin.keeps fun b o e=>(e0.bs b o e).1;have lim:s.heap.NoLimit:=e0.mod.nolimit.keeps fun b o e=>(e0.bs b o e).1;have hkind:∀y∈ps.zip us,scope.names.lookup y.1=some .local\/(scope.names.lookup y.1=some .cell/\((cellsFrom (s.heap.objs.size + 1) scope.names []).lookup y.1).isSome=true):=fun ⟨n,v⟩ hy=>by
  rcases S.par n (List.of_mem_zip hy).1 with q | q
  ·exact .inl q
  ·exact .inr ⟨q,PySem.W.cellsFrom_some _ _ _ (.inl q)⟩
 refine codeAny_call_function hr.depth (KX _ _ lk) rfl S.co S.gen rfl (PySem.W.codeRec_of KX hcd) (hb _ _ _ _ ?_);refine wpAny_newFunctionEnv_cells S.kind hkind fun env he s1 x=>?_;subst he;refine⟨lim.keeps x.toInCall.keep,codeAny_func ?_⟩;obtain⟨t,ht,hq⟩:=hbody A outer s H vs Q E (hr.deeper _) hsp;have I:Inv (jh2 CX P w K mg base N qual scope f cdv A outer s H E) [] (start N vs) H s1:=jjc S hr.hd e0 hl r x;refine jvj (ht [] s1 (start N vs) H _ I hq) (fun fl s' hs=>?_) fun e s' hs=>hs;have fin:∀{σ':St}{H':Hp}{v:V}{u:Value},Inv (jh2 CX P w K mg base N qual scope f cdv A outer s H E) [] σ' H' s'->RelV v u->Q v H'->CE outer P w H s Q u s':=
  fun {σ' H' v u} J rv q=>⟨v,H',J.os,J.bare,J.base,J.hok,rv,q⟩
 cases fl with
 |ret u=>
  obtain⟨v,σ',H',J,rv,q⟩:=hs;exact fin J rv q
 |next=>
  obtain⟨σ',H',J,q⟩:=hs;exact fin (v:=V.non) (u:=Value.none) J rfl q
 |brk=>
  obtain⟨_,_,_,q⟩:=hs;exact False.elim q
 |cont=>
  obtain⟨_,_,_,q⟩:=hs;exact False.elim q
end L2
namespace L2
open PySem PySem.Spec PyProof.Rows
section
variable {X:Cx}{x:Str}{p pos:Pos}{e:Expr}{es:List Expr}{t:TA}{id T:String}{r:List V->Hp->VK->Prop}
noncomputable def tCB (r:List V->Hp->VK->Prop)(t:TA):TE:=fun σ H Q=>t σ H fun vs H1=>r vs H1 Q
theorem jbb (hc:CallR X (.builtin id) r)(hg:Gl X x)(hm:X.mg x=none)(hv:bootBuiltins x=some (.builtin id))(ha:PA X (e::es) t)(hn:x≠"__name__":=by decide)(hdb:(x == ("__debug__":Str))=false:=by decide)
  (he:starEach (e::es) X.env=(false,eval e X.env)::starEach es X.env:=by rfl) (hpl:(backTo pos (starEach es X.env)).any (·.1)=false:=by rfl):PE X (.Call (.Name x p) (e::es) [] pos) (tCB r t):=by
 intro pins s σ H Q I h;refine wpAny_Call_Name_kw (je8 I hg hm hv ?_ hn hdb);exact PyProof.Rows.callWith_builtin1 (thn (ha pos pins s σ H _ I h) fun us s1 ⟨vs,H1,I1,r1,q1⟩=>hc pins s1 σ H1 vs us Q I1 r1 q1) he hpl
theorem jbG (hc:CallR X (.type T) r)(hg:Gl X x)(hm:X.mg x=none)(hv:bootBuiltins x=some (.type T))(ha:PA X (e::es) t)(hn:x≠"__name__":=by decide)(hdb:(x == ("__debug__":Str))=false:=by decide)
  (he:starEach (e::es) X.env=(false,eval e X.env)::starEach es X.env:=by rfl) (hpl:(backTo pos (starEach es X.env)).any (·.1)=false:=by rfl):PE X (.Call (.Name x p) (e::es) [] pos) (tCB r t):=by
 intro pins s σ H Q I h;refine wpAny_Call_Name_kw (je8 I hg hm hv ?_ hn hdb);exact PyProof.Rows.callWith_type1 (thn (ha pos pins s σ H _ I h) fun us s1 ⟨vs,H1,I1,r1,q1⟩=>hc pins s1 σ H1 vs us Q I1 r1 q1) he hpl
end
end L2
namespace HT
open PySem PyProof.Rows
noncomputable def lexLt:List Int->List Int->Bool
 |[],[]=>false
 |[],_::_=>true
 |_::_,[]=>false
 |x::xs,y::ys=>if x=y then lexLt xs ys else decide (x < y)
theorem jdI (x y:Int)(xs ys:List Int):lexLt (x::xs) (y::ys)=if x=y then lexLt xs ys else decide (x < y):=rfl
theorem jd9:lexLt [] []=false:=rfl
theorem jdy (y:Int)(ys:List Int):lexLt [] (y::ys)=true:=rfl
theorem jdz (x:Int)(xs:List Int):lexLt (x::xs) []=false:=rfl
theorem jlB (A:Around)(s:Shared)(a:Int)(t:Tok)(c:Int)(u:Tok):∃e,SeqAt.EqAt A s (.int a t) (.int c u) e/\(e=true↔a=c):=
 ⟨(a == c),SeqAt.EqAt.int_int a t c u,by simp⟩
theorem jlC (A:Around)(s:Shared)(a:Int)(t:Tok)(c:Int)(u:Tok)(prog:Program)(w:World)(E:Value->Shared->Prop)(Q:Value->Shared->Prop)(h:Q (.bool (decide (a < c))) s) :
  wpAny (model prog w) A (richCompare .Lt (.int a t) (.int c u)) Q E s:=
 (PyProof.Rows.lt_int h:wpAny (model prog w) A (compareOp .Lt (.int a t) (.int c u)) Q E s)
section
open PySem.SeqAt
open PySem.AutoSeq1 (wpAny_loadPart')
open PySem.MeetsSeq PySem.MeetsSeq2 PySem.MeetsSeq3
theorem jea (l b:Addr)(items items2:Array Value)(n n2:Nat)(dd dd2:Option Addr)(sl sl2:Array (Option Value))(ns ms:List Int)(hi:IntsAre items.toList ns)(hj:IntsAre items2.toList ms) :
  Meets (Builtin.«tuple.__lt__» ⟨[.ref l,.ref b],[]⟩)
   (fun _ R s=>s.heap.get? l=some { cls:=.type "tuple",dict:=dd,data:=.seq items n,slots:=sl }/\s.heap.get? b=some { cls:=.type "tuple",dict:=dd2,data:=.seq items2 n2,slots:=sl2 } /\
    R (.ok (.ret (.bool (lexLt ns ms)))) s):=
 .of_wp fun prog w A R s h=>by
  obtain⟨hp,g,d,tk,os⟩:=s;obtain⟨hl,hb,h⟩:=h;have f2:=AutoSeq1.sub_tuple_tuple;have z1:items.size=ns.length:=by rw[<-hi.length];simp
  have z2:items2.size=ms.length:=by rw[<-hj.length];simp
  wp_walk using wpAny_loadPart' hl,wpAny_loadPart' hb,wpAny_forIn_list _ (fun jdw b s'=>b.1=none/\s'=⟨hp,g,d,tk,os⟩/\∃(vs ws:List Value) (ns' ms':List Int),jdw=vs.zip ws /\
   IntsAre vs ns'/\IntsAre ws ms'/\ns'.length + items2.size=ms'.length + items.size/\R (.ok (.ret (.bool (lexLt ns' ms')))) ⟨hp,g,d,tk,os⟩) _
  case turn=>
   rintro⟨y,x⟩ jdw b s' ⟨hb',rfl,vs,ws,ns',ms',hz,hvi,hwi,hlen,hR⟩;cases hvi with
   |nil=>rw[List.zip_nil_left]at hz;cases hz
   |cons a t hvi'=>
    cases hwi with
    |nil=>rw[List.zip_nil_right]at hz;cases hz
    |cons c u hwi'=>
     rw[List.zip_cons_cons]at hz;injection hz with hyx hrest
     injection hyx with hy hx
     subst hy hx;rw[jdI]at hR;simp only[juU]at hlen;obtain⟨e,he,hiff⟩:=jlB A.in1 ⟨hp,g,d,tk,os⟩ a t c u;refine jvc (he prog w _ _ ?_);cases e with
     |true=>
      rw[if_pos (hiff.mp rfl)]at hR;wp_walk;exact⟨rfl,rfl,_,_,_,_,hrest,hvi',hwi',by omega,hR⟩
     |false=>
      rw[if_neg (fun q=>absurd (hiff.mpr q) jvx)]at hR;have hri:=jlC A.in1 ⟨hp,g,d,tk,os⟩ a t c u prog w;wp_walk using hri;exact⟨_,rfl,by simpa using hR⟩
  case fin=>
   rintro⟨b1,b2⟩ s' ⟨hb',rfl,vs,ws,ns',ms',hz,hvi,hwi,hlen,hR⟩;simp only at hb';subst hb';have hv:lexLt ns' ms'=decide (items.size < items2.size):=by
    cases hvi with
    |nil=>
     cases hwi with
     |nil=>
      simp only[ju6]at hlen;rw[jd9];exact(decide_eq_false (by omega)).symm
     |cons c u hw=>
      simp only[ju6,juU]at hlen;rw[jdy];exact(decide_eq_true (by omega)).symm
    |cons a t hv=>
     cases hwi with
     |nil=>
      simp only[ju6,juU]at hlen;rw[jdz];exact(decide_eq_false (by omega)).symm
     |cons c u hw=>
      rw[List.zip_cons_cons]at hz;cases hz
   rw[hv]at hR;wp_walk;exact⟨_,rfl,by simpa[Builtin.Tuple.tupleCompareSizes] using hR⟩
  case h=>
   exact⟨rfl,rfl,items.toList,items2.toList,ns,ms,rfl,hi,hj,by omega,h⟩
end
section
variable {prog:Program}{w:World}{A:Around}{E:Value->Shared->Prop}{s:Shared}
theorem jh3 {l b:Addr}{items items2:Array Value}{ns ms:List Int}{Q:Value->Shared->Prop}(hl:IsTup s.heap l items)(hb:IsTup s.heap b items2)(hi:IntsAre items.toList ns)(hj:IntsAre items2.toList ms)
  (hu:A.units < cLine) (h:Q (.bool (lexLt ns ms)) s):wpAny (model prog w) A (compareOp .Lt (.ref l) (.ref b)) Q E s:=by
 obtain⟨⟨cls,dd,data,sl⟩,ho,hc,n,hd⟩:=id hl;obtain⟨⟨cls2,dd2,data2,sl2⟩,ho2,hc2,n2,hd2⟩:=id hb;simp only at hc hd hc2 hd2;subst hc hd hc2 hd2;exact richCompare_meets_room (op:=.Lt) ⟨_,ho,rfl⟩ ⟨_,ho2,rfl⟩ PySem.F.slot_tuple_lt PySem.F.entry_tuple_lt (PySem.F.args_tuple_lt_2 _ _) (jea l b items items2 n n2 dd dd2 sl sl2 ns ms hi hj)
  ⟨ho,ho2,show Value.bool (lexLt ns ms)≠Value.notImplemented/\Q (.bool (lexLt ns ms)) s from⟨(fun x=>nomatch x),h⟩⟩ hu
theorem jop {t b:Addr}{vs ws:List Value}{Q:Value->Shared->Prop}(ht:IsTup s.heap t vs.toArray)(hb:IsTup s.heap b ws.toArray)(hv:vs≠[])
  (h1:ws=[]->Q (.ref t) s) (h2:ws≠[]->Q (.ref s.heap.objs.size) { s with heap:=s.heap.push { cls:=.type "tuple",data:=.seq (vs++ws).toArray } })
  (hsz:vs.length + ws.length<=sizeLine):wpAny (model prog w) A (binaryOp .Add (.ref t) (.ref b)) Q E s:=by
 obtain⟨⟨cls,dd,data,sl⟩,ho,hc,n,hd⟩:=id ht;obtain⟨⟨cls2,dd2,data2,sl2⟩,ho2,hc2,n2,hd2⟩:=id hb;simp only at hc hd hc2 hd2;subst hc hd hc2 hd2;have e:vs.toArray++ws.toArray=(vs++ws).toArray:=by simp
 by_cases hw:ws=[]
 ·exact concat_meets ⟨_,ho,rfl⟩ ⟨_,ho2,rfl⟩ noFill_tuple_add seq_tuple_add PySem.F.slot_tuple_add PySem.F.entry_tuple_add (PySem.F.args_tuple_add_2 _ _)
   (tuple_addW1 t b vs.toArray ws.toArray n n2 dd dd2 sl sl2 (by simpa using hv) (by simp[hw])) ⟨ho,ho2,h1 hw⟩
 ·refine concat_meets ⟨_,ho,rfl⟩ ⟨_,ho2,rfl⟩ noFill_tuple_add seq_tuple_add PySem.F.slot_tuple_add PySem.F.entry_tuple_add (PySem.F.args_tuple_add_2 _ _)
   (tuple_addW2 t b vs.toArray ws.toArray n n2 dd dd2 sl sl2 (by simpa using hv) (by simpa using hw) (by rw[juO,juO];exact hsz)) ⟨ho,ho2,?_⟩
  rw[e];exact h2 hw
noncomputable def sIx (n d:Nat):Option Int->Nat
 |none=>d
 |some v=>if v < 0 then (v + (n:Int)).toNat else min v.toNat n
theorem jqX (n d:Nat)(hd:d<=n)(o:Option Int):sIx n d o<=n:=by
 cases o with
 |none=>exact hd
 |some v=>
  show (if v < 0 then (v + (n:Int)).toNat else min v.toNat n)<=n;by_cases hv:v < 0
  ·rw[if_pos hv];omega
  ·rw[if_neg hv];exact Nat.min_le_right _ _
theorem jjd (v:Int)(n d:Nat):(if v < 0 then max (v + (n:Int)) 0 else min v (n:Int))=((sIx n d (some v):Nat):Int):=by
 show (if v < 0 then max (v + (n:Int)) 0 else min v (n:Int))=(((if v < 0 then (v + (n:Int)).toNat else min v.toNat n):Nat):Int);by_cases hv:v < 0
 ·simp only[if_pos hv];omega
 ·simp only[if_neg hv];omega
theorem jh4 (lo hi:Option Int)(n:Nat):Builtin.Slice.sliceAdjust lo hi 1 (n:Int)=(((sIx n 0 lo:Nat):Int),((sIx n n hi:Nat):Int)):=by
 have h1:¬ ((1:Int) < 0):=by omega
 unfold Builtin.Slice.sliceAdjust;simp only[h1,if_false];refine Prod.ext ?_ ?_
 ·cases lo with
  |none=>rfl
  |some v=>exact jjd v n 0
 ·cases hi with
  |none=>rfl
  |some v=>exact jjd v n n
theorem jh5 (i j:Nat):Builtin.Slice.slicePlaces (i:Int) (j:Int) 1=j - i:=by
 unfold Builtin.Slice.slicePlaces;have h1:(1:Int) > 0:=by omega
 simp only[h1,if_true,Int.ediv_one];split <;> omega
theorem jdJ {v:Value}{o:Option Int}{Q:Option Int->Shared->Prop}(p:IsPart v o)(h:Q o s):wpAny (model prog w) A (Builtin.Slice.slicePartIndex v) Q E s:=by
 cases p with
 |none=>exact slicePart_none h
 |int i t=>exact slicePart_int h
theorem jbC {sl:Addr}{vl vu:Value}{lo hi:Option Int}{n:Nat}{Q:Int×Int×Nat->Shared->Prop}(hs:s.heap.IsSliceOf sl vl vu .none)(pl:IsPart vl lo)(pu:IsPart vu hi)
  (h:Q (((sIx n 0 lo:Nat):Int),1,sIx n n hi - sIx n 0 lo) s):wpAny (model prog w) A (Builtin.Slice.sliceApplied (.ref sl) (pure (n:Int))) Q E s:=by
 obtain⟨os,hos,hcs,hds⟩:=id hs;unfold Builtin.Slice.sliceApplied Builtin.Slice.sliceFields;refine jvc (jvc (jvi hos hds (x:=vl) rfl (jvc (jvi hos hds (x:=vu) rfl (jvc (jvi hos hds (x:=.none) rfl (jvd ?_)))))));refine jvc (slicePart_none ?_);show wpAny _ _ (if ((1:Int) == 0)=true then _ else _) _ _ s;rw[if_neg (by decide)]
 refine jvc (jdJ pl (jvc (jdJ pu (jvc (jvd ?_)))));show wpAny _ _ (match Builtin.Slice.sliceAdjust lo hi 1 (n:Int)with | (lo,hi)=>pure (lo,(1:Int),Builtin.Slice.slicePlaces lo hi 1)) _ _ s
 rw[jh4 lo hi n];show wpAny _ _ (pure (((sIx n 0 lo:Nat):Int),(1:Int),Builtin.Slice.slicePlaces ((sIx n 0 lo:Nat):Int) ((sIx n n hi:Nat):Int) 1)) _ _ s;rw[jh5];exact jvd h
theorem jlD (xs:Array Value)(i k:Nat):((List.range k).filterMap fun (m:Nat)=>xs[((i:Int) + (m:Int) * 1).toNat]?).toArray=((xs.toList.drop i).take k).toArray:=by
 have e:(fun (m:Nat)=>xs[((i:Int) + (m:Int) * 1).toNat]?)=fun m=>xs[i + m]?:=by
  funext m
  have:((i:Int) + (m:Int) * 1).toNat=i + m:=by omega
  rw[this]
 rw[e];have:=pick_run xs i k;rw[List.filterMap_map]at this;have e2:((fun x=>xs[x]?) ∘ fun x=>i + x)=fun m=>xs[i + m]?:=rfl;rw[e2]at this;rw[this]
theorem jcA {t sl:Addr}{items:Array Value}{vl vu:Value}{lo hi:Option Int}{Q:Value->Shared->Prop}(ht:IsTup s.heap t items)(hs:s.heap.IsSliceOf sl vl vu .none)(pl:IsPart vl lo)(pu:IsPart vu hi)
  (hw:¬ (sIx items.size 0 lo=0/\sIx items.size items.size hi=items.size))
  (h:Q (.ref s.heap.objs.size) { s with heap:=s.heap.push { cls:=.type "tuple",data:=.seq ((items.toList.drop (sIx items.size 0 lo)).take (sIx items.size items.size hi - sIx items.size 0 lo)).toArray } })
  (hsz:items.size<=sizeLine):wpAny (model prog w) A (getItem (.ref t) (.ref sl)) Q E s:=by
 have htake:sizeOk (.seq ((items.toList.drop (sIx items.size 0 lo)).take (sIx items.size items.size hi - sIx items.size 0 lo)).toArray):=by
  show ((items.toList.drop (sIx items.size 0 lo)).take (sIx items.size items.size hi - sIx items.size 0 lo)).toArray.size<=sizeLine;rw[juO,List.length_take,List.length_drop,Array.length_toList];omega
 have hj:sIx items.size items.size hi<=items.size:=jqX _ _ (jvq _) hi;obtain⟨os,hos,hcs,hds⟩:=id hs;have hTs:s.TypeIs (.ref sl) "slice":=⟨os,hos,hcs⟩;unfold getItem;try with_reducible refine jvh ?_
 first | refine jvc (jvd ?_) | skip
 refine jvc (wpAny_sequenceKey ht.typeIs (by decide) ?_)
 refine jvc (wpAny_callSpecial?_slot (name:=Str.ofString "__getitem__") ht.typeIs PyProof.Rows.slot_tuple_getitem
  (wpAny_call_entry PyProof.Rows.slot_tuple_getitem ht.typeIs entry_tuple_getitem ?_ (args_tuple_getitem _ _)))
 show wpAny _ _ (Builtin.Tuple.tupleItemsOf (.ref t) >>= _) _ _ s;refine jvc (tupleItemsOf_ ht ?_);refine jvc (wpAny_typeOf hTs ?_);rw[if_pos (by decide)]
 refine jvc (jbC hs pl pu ?_);have hno:¬ ((((sIx items.size 0 lo:Nat):Int) == 0 && (1:Int) == 1 && (sIx items.size items.size hi - sIx items.size 0 lo) == items.size)=true):=by
  intro q;rw[jvv,jvv]at q;have q1:((sIx items.size 0 lo:Nat):Int)=0:=eq_of_beq q.1.1;have q2:sIx items.size items.size hi - sIx items.size 0 lo=items.size:=eq_of_beq q.2;exact hw ⟨by omega,by omega⟩
 show wpAny _ _ (if (((sIx items.size 0 lo:Nat):Int) == 0 && (1:Int) == 1 && (sIx items.size items.size hi - sIx items.size 0 lo) == items.size)=true then _ else _) _ _ s;rw[if_neg hno,jlD];first
  |exact jvc (m:=Builtin.Tuple.tupleExact _) (jvg (jvd ⟨_,rfl,jvd h⟩) htake)
  |exact jvc (m:=Builtin.Tuple.tupleExact _) (jvg (jvc (jvd (jvd ⟨_,rfl,jvd h⟩))) htake)
  |exact jvc (jvc (m:=Builtin.Tuple.tupleExact _) (jvg (jvd (jvd ⟨_,rfl,jvd h⟩)) htake))
  |exact jvc (jvc (m:=Builtin.Tuple.tupleExact _) (jvg (jvd ⟨_,rfl,jvd h⟩) htake))
end
end HT
namespace L2
open PySem PySem.Spec PyProof.Rows
noncomputable abbrev TO:=St->Hp->(Option Int->Hp->Prop)->Prop
noncomputable def PO (X:Cx)(e:Option Expr)(t:TO):Prop:=
 ∀(pins:List (Addr×Obj)) (s:Shared) (σ:St) (H:Hp) (Q:Option Int->Hp->Prop),Inv X pins σ H s->t σ H Q ->
  wpAny (model X.prog X.w) X.A (evalPart e X.env) (fun u s'=>∃o H',Inv X pins σ H' s'/\IsPart u o/\Q o H') X.xe s
noncomputable def joq:TO:=fun _ H Q=>Q none H
noncomputable def jsM (t:TE):TO:=fun σ H Q=>t σ H fun x H1=>∃i,x=.int i/\Q (some i) H1
theorem jdK {ns:List Int}:∀{us:List Value},Vals (ns.map V.int) us->IntsAre us ns:=by
 induction ns with
 |nil=>intro us r;rw[List.map_nil]at r;cases r;exact .nil
 |cons n ns ih=>
  intro us r;rw[juR]at r;cases r with
  |cons r1 r2=>
   obtain⟨t,e⟩:=r1;subst e;exact .cons n t (ih r2)
section
variable {X:Cx}{e:Expr}{te:TE}{lo hi:Option Expr}{tl th:TO}{pos p2:Pos}
theorem jor:PO X none joq:=by
 intro pins s σ H Q I h;rw[evalPart_none];exact jvd ⟨none,H,I,.none,h⟩
theorem jos (h:PE X e te):PO X (some e) (jsM te):=by
 intro pins s σ H Q I hw;rw[evalPart_some];refine thn (h pins s σ H _ I hw) fun u s1 hzz=>?_;obtain⟨x,H1,I1,r1,q1⟩:=hzz;obtain⟨i,rfl,q⟩:=q1;obtain⟨t,rfl⟩:=r1;exact⟨some i,H1,I1,.int i t,q⟩
noncomputable def SlR (X:Cx)(r:V->Option Int->Option Int->Hp->VK->Prop):Prop:=
 ∀(pins:List (Addr×Obj)) (s:Shared) (σ:St) (H:Hp) (x:V) (v vl vu:Value) (lo hi:Option Int) (sl:Addr) (Q:VK),Inv X pins σ H s->RelV x v->s.heap.IsSliceOf sl vl vu .none->IsPart vl lo->IsPart vu hi->r x lo hi H Q ->
  ∃T id,typeLookup (.type T) "__getitem__"=pure (some (.builtin id))/\s.TypeIs v T/\wpAny (model X.prog X.w) X.A (getItem v (.ref sl)) (EP X pins σ Q) X.xe s
theorem SlR.or {r r':V->Option Int->Option Int->Hp->VK->Prop}(h:SlR X r)(h':SlR X r'):SlR X (fun x lo hi H Q=>r x lo hi H Q\/r' x lo hi H Q):=by
 intro pins s σ H x v vl vu lo hi sl Q I rx hs pl pu q;rcases q with q | q
 ·exact h pins s σ H x v vl vu lo hi sl Q I rx hs pl pu q
 ·exact h' pins s σ H x v vl vu lo hi sl Q I rx hs pl pu q
noncomputable def tSl (r:V->Option Int->Option Int->Hp->VK->Prop)(te:TE)(tl th:TO):TE:=fun σ H Q=>te σ H fun x H1=>tl σ H1 fun l H2=>th σ H2 fun u H3=>r x l u H3 Q
theorem jlE {r:V->Option Int->Option Int->Hp->VK->Prop}(hr:SlR X r)(he:PE X e te)(hl:PO X lo tl)(hu:PO X hi th):PE X (.Subscript e (.Slice lo hi none p2) pos) (tSl r te tl th):=by
 intro pins s σ H Q I h;refine Subscript_ (thn (he pins s σ H _ I h) fun v s1 hzz=>?_);obtain⟨x,H1,I1,r1,q1⟩:=hzz;refine wpAny_Slice (thn (hl pins s1 σ H1 _ I1 q1) fun vl s2 ⟨l,H2,I2,pl,q2⟩=>thn (hu pins s2 σ H2 _ I2 q2) fun vu s3 hzz=>?_);obtain⟨u,H3,I3,pu,q3⟩:=hzz;rw[evalPart_none];refine jvd ?_;have I4:Inv X pins σ H3 { s3 with heap:=s3.heap.push { cls:=.type "slice",data:=.fields #[vl,vu,.none] } }:=I3.kept (t':=s3.toks) fun b ob q=>jvl _ q
 obtain⟨T,id,hT,ht,hg⟩:=hr pins { s3 with heap:=s3.heap.push { cls:=.type "slice",data:=.fields #[vl,vu,.none] } } σ H3 x v vl vu l u s3.heap.objs.size Q I4 r1 (Heap.IsSliceOf.new ..) pl pu q3
 show wpAny (model X.prog X.w) X.A (subscriptTail e (.Slice lo hi none p2) v (.ref s3.heap.objs.size)) (EP X pins σ Q) X.xe { s3 with heap:=s3.heap.push { cls:=.type "slice",data:=.fields #[vl,vu,.none] } }
 exact tail_any (ops:=[.ref s3.heap.objs.size,v]) ht hT hg (by with_unfolding_all rfl)
noncomputable def jnD (xs:List V)(lo hi:Option Int):List V:=(xs.drop (HT.sIx xs.length 0 lo)).take (HT.sIx xs.length xs.length hi - HT.sIx xs.length 0 lo)
theorem jc2 (xs:List V)(lo hi:Option Int):(jnD xs lo hi).length<=xs.length:=by
 unfold jnD;rw[List.length_take,List.length_drop];omega
noncomputable def jul (K:PySem.W.Frag):V->Option Int->Option Int->Hp->VK->Prop:=fun x lo hi H Q=>∃a xs,x=.ref a/\SqT K H a xs /\
 ¬ (HT.sIx xs.length 0 lo=0/\HT.sIx xs.length xs.length hi=xs.length)/\∀p,H p=none->Q (.ref p) (upd H p (.tup (jnD xs lo hi)))
theorem sl_tup:SlR X (jul X.K):=by
 intro pins s σ H x v vl vu lo hi sl Q I rx hs pl pu h;obtain⟨a,xs,rfl,hx,hw,q⟩:=h;cases rx;obtain⟨its,r,ht,hz⟩:=I.tuple hx;have hlen:its.toArray.size=xs.length:=by rw[juO];exact r.length.symm
 refine⟨"tuple",_,PyProof.Rows.slot_tuple_getitem.lookup,ht.typeIs,?_⟩;refine HT.jcA ht hs pl pu (by rw[hlen];exact hw) ?_ (by rw[hlen];exact hz)
 rw[hlen];refine⟨.ref s.heap.objs.size,_,I.laid (t':=s.toks) (o:=.tup (jnD xs lo hi)) (fun b ob q=>jvl _ q) (jvq _) ?_,rfl,q _ (I.hok.fresh (jvq _))⟩;exact⟨jvt (jc2 xs lo hi) hz,_,(r.drop (HT.sIx xs.length 0 lo)).take (HT.sIx xs.length xs.length hi - HT.sIx xs.length 0 lo),IsTup.new _ _⟩
noncomputable def jum (K:PySem.W.Frag):R2:=fun x y H Q=>∃a b ns ms,x=.ref a/\y=.ref b/\SqT K H a (ns.map V.int)/\SqT K H b (ms.map V.int)/\Q (.bl (HT.lexLt ns ms)) H
theorem jqY (hu:X.A.units < cLine):OpR X (compareOp .Lt) (jum X.K):=by
 intro pins s σ H x y v u Q I rx ry h;obtain⟨a,b,ns,ms,rfl,rfl,ha,hb,q⟩:=h;cases rx;cases ry;obtain⟨its,r1,p1,_⟩:=I.tuple ha;obtain⟨its2,r2,p2,_⟩:=I.tuple hb;have i1:IntsAre its.toArray.toList ns:=jdK r1;have i2:IntsAre its2.toArray.toList ms:=jdK r2;exact HT.jh3 p1 p2 i1 i2 hu ⟨.bl (HT.lexLt ns ms),H,I,rfl,q⟩
noncomputable def jsN (K:PySem.W.Frag):R2:=fun x y H Q=>∃a b xs ys,x=.ref a/\y=.ref b/\SqT K H a xs/\SqT K H b ys/\xs≠[]/\xs.length + ys.length<=sizeLine /\
 (ys=[]->Q (.ref a) H)/\(ys≠[]->∀p,H p=none->Q (.ref p) (upd H p (.tup (xs++ys))))
theorem Vals.nil_iff {xs:List V}{us:List Value}(r:Vals xs us):us=[]↔xs=[]:=by
 cases r with
 |nil=>simp
 |cons _ _=>simp
theorem jot:OpR X (binaryOp .Add) (jsN X.K):=by
 intro pins s σ H x y v u Q I rx ry h;obtain⟨a,b,xs,ys,rfl,rfl,ha,hb,hx,hz,q1,q2⟩:=h;cases rx;cases ry;obtain⟨its,r1,p1,_⟩:=I.tuple ha;obtain⟨its2,r2,p2,_⟩:=I.tuple hb;refine HT.jop p1 p2 (fun z=>hx (r1.nil_iff.mp z)) (fun z=>⟨.ref a,H,I,rfl,q1 (r2.nil_iff.mp z)⟩) (fun z=>?_) (by rw[<-r1.length,<-r2.length];exact hz)
 refine⟨.ref s.heap.objs.size,_,I.laid (t':=s.toks) (o:=.tup (xs++ys)) (fun b ob q=>jvl _ q) (jvq _) ?_,rfl,q2 (fun w=>z (r2.nil_iff.mpr w)) _ (I.hok.fresh (jvq _))⟩;exact⟨by rw[juY];exact hz,_,r1.append r2,IsTup.new _ _⟩
end
end L2
namespace L2
open PySem PySem.Spec PyProof.Rows
noncomputable def ixN (n:Nat)(i:Int):Option Nat:=if 0<=i then (if i < n then some i.toNat else none)else if -(n:Int)<=i then some (i + n).toNat else none
noncomputable def atI {α:Type}(xs:List α)(i:Int):Option α:=(ixN xs.length i).bind fun j=>xs[j]?
theorem jje {n:Nat}{i:Int}{j:Nat}(h:ixN n i=some j):seqIndex? i n=some j/\j < n/\-(n:Int)<=i/\i < n:=by
 unfold ixN at h;by_cases h0:0<=i
 ·rw[if_pos h0]at h;by_cases h1:i < n
  ·rw[if_pos h1]at h;have e:i.toNat=j:=Option.some.inj h;exact⟨by rw[seqIndex_of h0 h1,e],by omega,by omega,h1⟩
  ·rw[if_neg h1]at h;cases h
 ·rw[if_neg h0]at h;by_cases h1:-(n:Int)<=i
  ·rw[if_pos h1]at h;have e:(i + n).toNat=j:=Option.some.inj h;exact⟨by rw[seqIndex_neg (by omega) h1,e],by omega,h1,by omega⟩
  ·rw[if_neg h1]at h;cases h
theorem jgk {α:Type}{xs:List α}{i:Int}{v:α}(h:atI xs i=some v):∃j,seqIndex? i xs.length=some j/\xs[j]?=some v/\j < xs.length/\-(xs.length:Int)<=i/\i < xs.length:=by
 unfold atI at h;cases e:ixN xs.length i with
 |none=>rw[e]at h;cases h
 |some j=>
  rw[e]at h;obtain⟨h1,h2,h3,h4⟩:=jje e;exact⟨j,h1,h,h2,h3,h4⟩
noncomputable def jjf (b:Expr):Prop:=∀o i,subscripted b false o i=operate [o,i] (getItem o i)
noncomputable def IxR (X:Cx)(r:R2):Prop:=
 ∀(value slice:Expr) (pins:List (Addr×Obj)) (s:Shared) (σ:St) (H:Hp) (x y:V) (v u:Value) (Q:VK),Inv X pins σ H s->RelV x v->RelV y u->r x y H Q ->
  subscripted slice false v u=operate [v,u] (getItem v u)->wpAny (model X.prog X.w) X.A (subscriptTail value slice v u) (EP X pins σ Q) X.xe s
noncomputable def MtR (X:Cx)(id:String)(r:V->List V->Hp->VK->Prop):Prop:=
 ∀(pins:List (Addr×Obj)) (s:Shared) (σ:St) (H:Hp) (x:V) (xs:List V) (v:Value) (us:List Value) (Q:VK),Inv X pins σ H s->RelV x v->Vals xs us->r x xs H Q ->
  wpAny (model X.prog X.w) X.A (call (.builtin id) (v::us)) (EP X pins σ Q) X.xe s
section
variable {X:Cx}{a b:Expr}{ta tb:TE}{pos:Pos}
theorem IxR.or {r r':R2}(h:IxR X r)(h':IxR X r'):IxR X (fun x y H Q=>r x y H Q\/r' x y H Q):=by
 intro value slice pins s σ H x y v u Q I rx ry q hs;rcases q with q | q
 ·exact h value slice pins s σ H x y v u Q I rx ry q hs
 ·exact h' value slice pins s σ H x y v u Q I rx ry q hs
theorem jsO {r:R2}(hr:IxR X r)(ha:PE X a ta)(hb:PE X b tb)(hs:jjf b):PE X (.Subscript a b pos) (tOp r ta tb):=by
 intro pins s σ H Q I h;exact Subscript_ (jsC ha hb I h fun v u s2 x y H2 I2 rx ry q=>hr a b pins s2 σ H2 x y v u Q I2 rx ry q (hs _ _))
noncomputable def jtS (K:PySem.W.Frag):R2:=fun x y H Q=>∃p xs i v,x=.ref p/\y=.int i/\SqL K H p xs/\atI xs i=some v/\Q v H
noncomputable def jtT (K:PySem.W.Frag):R2:=fun x y H Q=>∃p xs i v,x=.ref p/\y=.int i/\SqT K H p xs/\atI xs i=some v/\Q v H
noncomputable def jtU:R2:=fun x y H Q=>∃z i c,x=.str z/\y=.int i/\z.length<=sizeLine/\atI z.cps.toList i=some c/\Q (.str ⟨#[c]⟩) H
theorem ix_list:IxR X (jtS X.K):=by
 intro value slice pins s σ H x y v u Q I rx ry h hs;obtain⟨p,xs,i,z,rfl,rfl,hq,he,q⟩:=h;cases rx;obtain⟨t,rfl⟩:=ry;obtain⟨its,r,pl,hz⟩:=I.list hq;obtain⟨j,h1,h2,h3,h4,h5⟩:=jgk he;obtain⟨w,ew,rw'⟩:=r.get h2;have hl:=r.length;have hn:=jbZ;have fin:EP X pins σ Q w s:=⟨z,H,I,rw',q⟩;by_cases h0:0<=i
 ·have hj:i.toNat=j:=by
   rw[seqIndex_of h0 h5]at h1;exact Option.some.inj h1
  exact item_listR pl.isList h0 (by omega) (by rw[hj];simpa using ew) fin hs
 ·have hj:(i + (its.toArray.size:Int)).toNat=j:=by
   rw[seqIndex_neg (by omega) h4]at h1
   rw[juO,<-hl];exact Option.some.inj h1
  exact subscriptTail_builtinR (x:=w) pl.isList.typeIs slot_list_getitem.lookup
   (wpAny_getItem_list_neg (Q:=fun r s'=>r=w/\EP X pins σ Q r s') pl.isList (by omega) (by rw[juO] <;> omega) (by omega) (by rw[hj];simpa using ew) ⟨rfl,fin⟩) hs
theorem ix_tup:IxR X (jtT X.K):=by
 intro value slice pins s σ H x y v u Q I rx ry h hs;obtain⟨p,xs,i,z,rfl,rfl,hq,he,q⟩:=h;cases rx;obtain⟨t,rfl⟩:=ry;obtain⟨its,r,pl,hz⟩:=I.tuple hq;obtain⟨j,h1,h2,h3,h4,h5⟩:=jgk he;obtain⟨w,ew,rw'⟩:=r.get h2;have hl:=r.length;have hn:=jbZ;have fin:EP X pins σ Q w s:=⟨z,H,I,rw',q⟩;exact subscriptTail_builtinR (x:=w) pl.typeIs slot_tuple_getitem.lookup
  (getItem_tuple (j:=j) (Q:=fun r s'=>r=w/\EP X pins σ Q r s') pl (by omega) (by omega) (by rw[juO,<-hl];exact h1) (by simpa using ew) ⟨rfl,fin⟩) hs
theorem jqZ:IxR X jtU:=by
 intro value slice pins s σ H x y v u Q I rx ry h hs;obtain⟨z,i,c,rfl,rfl,hz,he,q⟩:=h;obtain⟨t,rfl⟩:=rx;obtain⟨t',rfl⟩:=ry;obtain⟨j,h1,h2,h3,h4,h5⟩:=jgk he;have hl:z.cps.toList.length=z.length:=by simp[Str.length]
 rw[hl]at h1 h4 h5;have hn:=jbZ;exact tail_any (typeIs_str s z t) slot_str_getitem.lookup (getItem_str (c:=c) (by
  have e1:decide (i < -(2 ^ 63:Int))=false:=decide_eq_false (by omega)
  have e2:decide (i>=2 ^ 63)=false:=decide_eq_false (by omega)
  rw[e1,e2,Bool.or_false]) (by rw[h1];simpa using h2) ⟨.str ⟨#[c]⟩,H,I.tok _,⟨_,rfl⟩,q⟩) hs
noncomputable def rIx (K:PySem.W.Frag):R2:=fun x y H Q=>jtS K x y H Q\/jtT K x y H Q\/jtU x y H Q
theorem jq0:IxR X (rIx X.K):=ix_list.or (ix_tup.or jqZ)
theorem jh6 (its:List Value)(n j:Nat)(u:Value):Obj.mapSeq (·.setIfInBounds j u) { cls:=.type "list",data:=.seq its.toArray n }={ cls:=.type "list",data:=.seq (its.set j u).toArray n }:=by
 simp[Obj.mapSeq]
theorem Inv.lst {pins:List (Addr×Obj)}{σ:St}{H:Hp}{s:Shared}{p:Addr}{xs:List V}(I:Inv X pins σ H s)(h:H p=some (.lst xs)) :
  ∃(its:List Value) (n:Nat),Vals xs its/\s.heap.get? p=some { cls:=.type "list",data:=.seq its.toArray n }/\xs.length<=sizeLine:=by
 obtain⟨z,its,n,r,e⟩:=I.hok p _ h;exact⟨its,n,r,e,z⟩
theorem Inv.lstUpd {pins:List (Addr×Obj)}{σ:St}{H:Hp}{s:Shared}{p:Addr}{xs ys:List V}{its its':List Value}{n n':Nat}{f:Obj->Obj}(I:Inv X pins σ H s)(h:H p=some (.lst xs))
  (ho:s.heap.get? p=some { cls:=.type "list",data:=.seq its.toArray n }) (hf:f { cls:=.type "list",data:=.seq its.toArray n }={ cls:=.type "list",data:=.seq its'.toArray n' }) (r:Vals ys its') (hz:ys.length<=sizeLine) (t:Nat) :
  Inv X pins σ (upd H p (.lst ys)) { s with heap:=s.heap.update p f,toks:=t }:=by
 have e:(s.heap.update p f).get? p=some { cls:=.type "list",data:=.seq its'.toArray n' }:=by
  rw[jvo f ho (by rw[hf] <;> rfl),hf]
 refine I.write (x:=p) (e:=p) (by rw[h];trivial) (.inl rfl) (fun b u hb q=>(jvp _ _ (Ne.symm hb)).trans q) ⟨_,e⟩ ?_
 exact⟨hz,its',n',r,e⟩
noncomputable def jsP:V->V->V->Hp->(Hp->Prop)->Prop:=fun o i v H Q=>∃p xs k j,o=.ref p/\i=.int k/\H p=some (.lst xs)/\ixN xs.length k=some j/\Q (upd H p (.lst (xs.set j v)))
theorem jlF:jtO X jsP:=by
 intro pins s σ H o i v ov iv u Q I ro ri rv h;obtain⟨p,xs,k,j,rfl,rfl,hp,hj,q⟩:=h;cases ro;obtain⟨t,rfl⟩:=ri;obtain⟨its,n,r,ho,hz⟩:=I.lst hp;obtain⟨h1,h2,h3,h4⟩:=jje hj;have hl:=r.length;have hn:=jbZ;have I':Inv X pins σ (upd H p (.lst (xs.set j v))) { s with heap:=s.heap.update p (Obj.mapSeq (·.setIfInBounds j u)) }:=
  I.lstUpd hp ho (jh6 its n j u) (r.set rv j) (by rw[ju8];exact hz) s.toks
 by_cases h0:0<=k
 ·have hk:k.toNat=j:=by
   rw[seqIndex_of h0 h4]at h1;exact Option.some.inj h1
  exact PySem.W.ki_setAt ho h0 (by omega) (by rw[juO,<-hl];exact h4) (by rw[hk];exact⟨_,I',q⟩)
 ·have hk:(k + (its.toArray.size:Int)).toNat=j:=by
   rw[seqIndex_neg (by omega) h3]at h1
   rw[juO,<-hl];exact Option.some.inj h1
  exact PySem.W.ki_setBack ho (by omega) (by rw[juO,<-hl];exact h3) (by omega) (by rw[hk];exact⟨_,I',q⟩)
theorem jfd (lo hi:Option Int)(n:Nat):(sliceBounds lo hi none n).1=((HT.sIx n 0 lo:Nat):Int)/\(sliceBounds lo hi none n).2.1=((HT.sIx n n hi:Nat):Int)/\(sliceBounds lo hi none n).2.2=1:=by
 refine⟨?_,?_,rfl⟩
 ·cases lo with
  |none=>simp[sliceBounds,HT.sIx]
  |some i=>
   simp only[sliceBounds,HT.sIx,Option.getD_none,show (1:Int) > 0 by decide,if_true]
   by_cases h:i < 0
   ·simp only[h,if_true] <;> omega
   ·simp only[h,if_false] <;> omega
 ·cases hi with
  |none=>simp[sliceBounds,HT.sIx]
  |some i=>
   simp only[sliceBounds,HT.sIx,Option.getD_none,show (1:Int) > 0 by decide,if_true]
   by_cases h:i < 0
   ·simp only[h,if_true] <;> omega
   ·simp only[h,if_false] <;> omega
theorem jeb (its:List Value)(lo hi:Option Int):slicePick its.toArray lo hi none=((its.drop (HT.sIx its.length 0 lo)).take (HT.sIx its.length its.length hi - HT.sIx its.length 0 lo)).toArray:=by
 obtain⟨h1,h2,h3⟩:=jfd lo hi its.toArray.size;unfold slicePick;rw[h1,h2,h3];simp only[sliceRange_one,pick_run,juO] <;> rfl
noncomputable def jun (K:PySem.W.Frag):V->Option Int->Option Int->Hp->VK->Prop:=fun x lo hi H Q=>∃a xs,x=.ref a/\SqL K H a xs/\∀p,H p=none->Q (.ref p) (upd H p (.lst (jnD xs lo hi)))
theorem jou:SlR X (jun X.K):=by
 intro pins s σ H x v vl vu lo hi sl Q I rx hs pl pu h;obtain⟨a,xs,rfl,hx,q⟩:=h;cases rx;obtain⟨its,r,ht,hz⟩:=I.list hx;have hlen:=r.length;refine⟨"list",_,slot_list_getitem.lookup,ht.isList.typeIs,?_⟩;refine wpAny_getItem_list_slice ht.isList hs pl pu .none (by simp) ?_ (by rw[juO] <;> omega)
 rw[jeb,<-hlen];refine⟨.ref s.heap.objs.size,_,I.laid (t':=s.toks) (o:=.lst (jnD xs lo hi)) (fun b ob q=>jvl _ q) (jvq _) ?_,rfl,q _ (I.hok.fresh (jvq _))⟩;exact⟨jvt (jc2 xs lo hi) hz,_,0,(r.drop (HT.sIx xs.length 0 lo)).take (HT.sIx xs.length xs.length hi - HT.sIx xs.length 0 lo),jvn _ rfl⟩
theorem call_len_seq:CallR X (.builtin "len") (fun xs H Q=>∃p ys,xs=[.ref p]/\(SqL X.K H p ys\/SqT X.K H p ys)/\Q (.int ys.length) H):=by
 intro pins s σ H xs us Q I r h;obtain⟨p,ys,rfl,hq,q⟩:=h;obtain⟨u,rfl,rx⟩:=jcz r;cases rx;have hn:=jbZ;rcases hq with hq | hq
 ·obtain⟨its,r',pl,hz⟩:=I.list hq;have hlen:=r'.length;exact Calls.call_len_list pl.isList (by simp only[juO] <;> omega) ⟨.int ys.length,H,I.tok _,⟨s.toks + 1,by rw[juO,hlen]⟩,q⟩
 ·obtain⟨its,r',pl,hz⟩:=I.tuple hq;have hlen:=r'.length;exact len_tuple pl (by simp only[juO] <;> omega) ⟨.int ys.length,H,I.tok _,⟨s.toks + 1,by rw[juO,hlen]⟩,q⟩
theorem jfe:CallR X (.builtin "len") (fun xs H Q=>∃z,xs=[.str z]/\z.length<=sizeLine/\Q (.int z.length) H):=by
 intro pins s σ H xs us Q I r h;obtain⟨z,rfl,hz,q⟩:=h;obtain⟨u,rfl,t,rfl⟩:=jcz r;have hn:=jbZ;exact len_str (by omega) ⟨.int z.length,H,I.tok _,⟨_,rfl⟩,q⟩
theorem CallR.or {f:Value}{r r':List V->Hp->VK->Prop}(h:CallR X f r)(h':CallR X f r'):CallR X f (fun xs H Q=>r xs H Q\/r' xs H Q):=by
 intro pins s σ H xs us Q I rs q;rcases q with q | q
 ·exact h pins s σ H xs us Q I rs q
 ·exact h' pins s σ H xs us Q I rs q
theorem jff:CallR X (.type "list") (fun xs H Q=>∃p ys,xs=[.ref p]/\(SqL X.K H p ys\/SqT X.K H p ys)/\∀l,H l=none->Q (.ref l) (upd H l (.lst ys))):=by
 intro pins s σ H xs us Q I r h;obtain⟨p,ys,rfl,hq,q⟩:=h;obtain⟨u,rfl,rx⟩:=jcz r;cases rx;have fin:∀(its:List Value),Vals ys its->ys.length<=sizeLine->∀(h':Heap) (c':Nat),(∀b o',s.heap.get? b=some o'->h'.get? b=some o') ->
   h'.get? s.heap.objs.size=some { cls:=.type "list",dict:=none,data:=.seq its.toArray c',slots:=#[] }->EP X pins σ Q (.ref s.heap.objs.size) { s with heap:=h' }:=fun its r' hz h' c' kp e=>
  ⟨.ref s.heap.objs.size,_,I.laid (t':=s.toks) kp (jvq _) (show ObjOk X.prog X.w _ h' _ (.lst ys)from⟨hz,its,c',r',e⟩),rfl,q _ (I.hok.fresh (jvq _))⟩
 rcases hq with hq | hq
 ·obtain⟨its,r',pl,hz⟩:=I.list hq;have hlen:=r'.length;obtain⟨o,ho,hc,n,hd⟩:=pl.isList;exact call_list_seq p (.inl rfl) ho hc hd (fun h' c' kp e=>fin its r' hz h' c' kp e) (by simp only[juO] <;> omega)
 ·obtain⟨its,r',pl,hz⟩:=I.tuple hq;have hlen:=r'.length;obtain⟨o,ho,hc,n,hd⟩:=pl;exact call_list_seq p (.inr rfl) ho hc hd (fun h' c' kp e=>fin its r' hz h' c' kp e) (by simp only[juO] <;> omega)
theorem jec:CallR X (.type "tuple") (fun xs H Q=>∃p ys,xs=[.ref p]/\((SqL X.K H p ys/\∀l,H l=none->Q (.ref l) (upd H l (.tup ys)))\/(SqT X.K H p ys/\Q (.ref p) H))):=by
 intro pins s σ H xs us Q I r h;obtain⟨p,ys,rfl,h⟩:=h;obtain⟨u,rfl,rx⟩:=jcz r;cases rx;rcases h with ⟨hq,q⟩ | ⟨hq,q⟩
 ·obtain⟨its,r',pl,hz⟩:=I.list hq;have hlen:=r'.length;refine call_tuple_list pl.isList (fun h' kp=>?_) (by simp only[juO] <;> omega)
  have I1:Inv X pins σ H { s with heap:=h' }:=I.kept (t':=s.toks) kp
  have I2:Inv X pins σ (upd H h'.objs.size (.tup ys)) { s with heap:=h'.push { cls:=.type "tuple",data:=.seq its.toArray } }:=
   I1.laid (t':=s.toks) (fun b o e=>jvl _ e) (jvq _) (show ObjOk X.prog X.w _ _ _ (.tup ys)from⟨hz,its,r',IsTup.new _ _⟩)
  exact⟨.ref h'.objs.size,_,I2,rfl,q _ (I1.hok.fresh (jvq _))⟩
 ·obtain⟨its,r',pl,hz⟩:=I.tuple hq;exact call_tuple_same pl ⟨.ref p,H,I,rfl,q⟩
noncomputable def tyV (K:PySem.W.Frag)(T:String)(x:V)(H:Hp):Prop:=match x with
 |.str _=>T="str"
 |.int _=>T="int"
 |.ref p=>(T="list"/\∃xs,SqL K H p xs)\/(T="tuple"/\∃o,K.lookup p=some o/\o.cls=.type "tuple"/\o.dict=none) \/
   (T="dict"/\((∃kvs,H p=some (.dK kvs))\/∃kvs,H p=some (.dT kvs)))\/(T="set"/\∃S n,H p=some (.set S n))
 |_=>False
theorem jq1 {pins:List (Addr×Obj)}{σ:St}{H:Hp}{s:Shared}{T:String}{x:V}{v:Value}(I:Inv X pins σ H s)(r:RelV x v)(ty:tyV X.K T x H) :
  s.TypeIs v T/\∀a,v=.ref a->∃ob,s.heap.get? a=some ob/\ob.dict=none:=by
 cases x with
 |str z=>
  obtain⟨t,rfl⟩:=r;cases (show T="str" from ty);exact⟨typeIs_str s z t,fun _ e=>nomatch e⟩
 |int i=>
  obtain⟨t,rfl⟩:=r;cases (show T="int" from ty);exact⟨typeIs_int s i t,fun _ e=>nomatch e⟩
 |ref p=>
  cases r;rcases ty with ⟨rfl,xs,hq⟩ | ⟨rfl,o,hk,hc,hd⟩ | ⟨rfl,hk⟩ | ⟨rfl,S,n,hk⟩
  ·obtain⟨its,_,pl,_⟩:=I.list hq;refine⟨pl.isList.typeIs,fun a e=>?_⟩;cases e;obtain⟨o,n,e,c,hd,_⟩:=pl;exact⟨o,e,hd⟩
  ·refine⟨⟨o,I.kIn p o hk,hc⟩,fun a e=>?_⟩;cases e;exact⟨o,I.kIn _ o hk,hd⟩
  ·have z:∃o,s.heap.get? p=some o/\o.ExactDict:=by
    rcases hk with ⟨kvs,hk⟩ | ⟨kvs,hk⟩
    ·obtain⟨_,_,_,_,o,_,_,e,ex,_⟩:=I.hok p _ hk;exact⟨o,e,ex⟩
    ·obtain⟨_,_,_,_,o,_,_,e,ex,_⟩:=I.hok p _ hk;exact⟨o,e,ex⟩
   obtain⟨o,e,ex⟩:=z;refine⟨⟨o,e,ex.1⟩,fun a e2=>?_⟩;cases e2;exact⟨o,e,ex.2.1⟩
  ·obtain⟨o,_,_,_,e,ex,_⟩:=I.hok p _ hk;refine⟨⟨o,e,ex.1⟩,fun a e2=>?_⟩;cases e2;exact⟨o,e,ex.2.1⟩
 |_=>exact False.elim ty
noncomputable def tBM (K:PySem.W.Frag)(T:String)(r:V->List V->Hp->VK->Prop)(to:TE)(t:TA):TE:=fun σ H Q=>to σ H fun x H1=>tyV K T x H1/\t σ H1 fun xs H2=>r x xs H2 Q
variable {o e:Expr}{es:List Expr}{to:TE}{t:TA}{name:Str}{apos cpos:Pos}{T id:String}{r:V->List V->Hp->VK->Prop}
theorem jq2 (pa:PlainAttrs T)(slot:Slot T name id)(hty:typeOf (.builtin id)=pure (.type "method_descriptor"))(hm:MtR X id r)(ho:PE X o to)(ha:PA X (e::es) t)
  (hbase:attributeBase o name X.env (eval o X.env)=eval o X.env:=by rfl)
  (hfew:((backTo cpos (starEach (e::es) X.env)).all (fun x=>!x.1) && (backToKw cpos (keywordEach [] X.env)).all (fun x=>x.1.isSome)
   && decide ((e::es).length + ([]:List Keyword).length + (if ([]:List Keyword).isEmpty then 0 else 1) < 30))=true:=by rfl)
  (hline:(apos.endLine == cpos.line)=true:=by rfl) (hs:starEach (e::es) X.env=(false,eval e X.env)::starEach es X.env:=by rfl) (hplain:(backTo cpos (starEach es X.env)).any (·.1)=false:=by rfl) :
  PE X (.Call (.Attribute o name apos) (e::es) [] cpos) (tBM X.K T r to t):=by
 intro pins s σ H Q I h;refine wpAny_Call_method_late hbase hfew hline rfl (thn (ho pins s σ H _ I h) fun v s1 hzz=>?_);obtain⟨x,H1,I1,r1,ty,q1⟩:=hzz;obtain⟨h1,h2⟩:=jq1 I1 r1 ty;refine⟨T,id,pa,slot,hty,h1,h2,?_⟩;have hA:=ha cpos pins s1 σ H1 _ I1 q1;rw[hs]at hA ⊢;refine Calls.callWith_builtin (by show (false || (backTo cpos (starEach es X.env)).any (·.1))=false;rw[hplain] <;> rfl) (Calls.evalArgs_plain ?_)
 exact thn hA fun us s2 ⟨vs,H2,I2,r2,q2⟩=>hm pins s2 σ H2 x vs v us Q I2 r1 r2 q2
end
end L2
namespace L2
open PySem PySem.Spec PyProof.Rows
noncomputable def MtM (X:Cx)(id:String)(r:V->List V->Hp->VK->Prop):Prop:=
 ∀(pins:List (Addr×Obj)) (s:Shared) (σ:St) (H:Hp) (x:V) (xs:List V) (v:Value) (us:List Value) (Q:VK),Inv X pins σ H s->RelV x v->Vals xs us->r x xs H Q ->
  wpAny (model X.prog X.w) X.A (call (.builtin id) (v::us)) (EP X pins σ Q) X.xe s
theorem Vals.one {x:V}{us:List Value}(h:Vals [x] us):∃u,us=[u]/\RelV x u:=by
 cases h with
 |cons r h=>cases h;exact⟨_,rfl,r⟩
theorem Vals.zero:∀{us:List Value},Vals [] us->us=[]
 |_,.nil=>rfl
theorem Vals.dropLast {xs:List V}{us:List Value}(h:Vals xs us):Vals xs.dropLast us.dropLast:=by
 induction h with
 |nil=>exact .nil
 |cons r t ih=>
  cases t with
  |nil=>exact .nil
  |cons q t'=>exact .cons r ih
theorem Vals.reverse {xs:List V}{us:List Value}(h:Vals xs us):Vals xs.reverse us.reverse:=by
 induction h with
 |nil=>exact .nil
 |cons r t ih=>rw[List.reverse_cons,List.reverse_cons];exact Vals.append ih (.cons r .nil)
theorem Vals.rep {xs:List V}{us:List Value}(h:Vals xs us):∀k:Nat,Vals (List.replicate k xs).flatten (List.replicate k us).flatten
 |0=>.nil
 |k + 1=>by
  rw[List.replicate_succ,List.replicate_succ,List.flatten_cons,List.flatten_cons];exact Vals.append h (Vals.rep h k)
theorem jfg (its:List Value):∀(k:Nat) (acc:List Value),
  List.foldl (fun x1 x2=>x1++x2) acc.toArray (List.replicate k its.toArray)=(acc++(List.replicate k its).flatten).toArray
 |0,acc=>by simp
 |k + 1,acc=>by
  have e:acc.toArray++its.toArray=(acc++its).toArray:=by simp
  have e2:(acc++its)++(List.replicate k its).flatten=acc++(List.replicate (k + 1) its).flatten:=by
   rw[List.replicate_succ,List.flatten_cons,jva]
  rw[<-e2,<-jfg its k (acc++its),<-e,List.replicate_succ,List.foldl_cons]
section
variable {X:Cx}{pins:List (Addr×Obj)}{σ:St}{H:Hp}{s:Shared}{l b:Addr}{xs ys zs:List V}
theorem Inv.lset {its its':List Value}{n:Nat}{f:Array Value->Array Value}{t':Nat}(I:Inv X pins σ H s)(hH:H l=some (.lst xs))
  (e:s.heap.get? l=some { cls:=.type "list",data:=.seq its.toArray n }) (hf:f its.toArray=its'.toArray) (hv:Vals ys its') (hz:ys.length<=sizeLine) :
  Inv X pins σ (upd H l (.lst ys)) { s with heap:=s.heap.update l (Obj.mapSeq f),toks:=t' }:=by
 have q:=PySem.IsL.update e f;rw[hf]at q;refine I.write (x:=l) (e:=l) (by rw[hH];exact trivial) (.inl rfl) (fun b' u hb hu=>(jvp s.heap (Obj.mapSeq f) (Ne.symm hb)).trans hu) ⟨_,q⟩ ?_
 exact⟨hz,its',_,hv,q⟩
theorem Inv.lnew {its:List Value}{t':Nat}(I:Inv X pins σ H s)(hv:Vals ys its)(hz:ys.length<=sizeLine) :
  Inv X pins σ (upd H s.heap.objs.size (.lst ys)) { s with heap:=s.heap.push { cls:=.type "list",data:=.seq its.toArray },toks:=t' }:=
 I.laid (fun _ _ q=>jvl _ q) (jvq _) ⟨hz,its,0,hv,jvn _ rfl⟩
theorem Inv.fresh (I:Inv X pins σ H s):H s.heap.objs.size=none:=I.hok.fresh (jvq _)
theorem Inv.lstM (I:Inv X pins σ H s)(hH:H l=some (.lst xs)):xs.length<=sizeLine/\∃(its:List Value) (n:Nat),Vals xs its/\xs.length=its.length/\s.heap.get? l=some { cls:=.type "list",data:=.seq its.toArray n }:=by
 obtain⟨z,its,n,r,e⟩:=I.hok l _ hH;exact⟨z,its,n,r,r.length,e⟩
end
section
variable {X:Cx}
noncomputable def jov:V->List V->Hp->VK->Prop:=fun x vs H Q=>∃l xs y,x=.ref l/\vs=[y]/\H l=some (.lst xs)/\xs.length < sizeLine/\Q .non (upd H l (.lst (xs++[y])))
theorem jfh:MtM X "list.append" jov:=by
 intro pins s σ H x vs v us Q I rx rv h;obtain⟨l,xs,y,rfl,rfl,hH,hz,q⟩:=h;cases rx;obtain⟨u,rfl,ru⟩:=rv.one;obtain⟨z,its,n,r,hl,e⟩:=I.lstM hH;refine call_meets F.slot_list_append ⟨_,e,rfl⟩ F.entry_list_append (F.args_list_append_2 _ _) (PySem.list_append l its.toArray n u (by rw[juO];omega)) ⟨e,?_⟩
 refine⟨.non,_,I.lset (its':=its++[u]) hH e (by simp) (r.append (.cons ru .nil)) ?_,rfl,q⟩
 rw[juY,List.length_singleton];omega
theorem jjg {α:Type}(xs:List α)(k:Nat):(List.replicate k xs).flatten.length=k * xs.length:=by
 induction k with
 |zero=>simp
 |succ k ih=>rw[List.replicate_succ,List.flatten_cons,juY,ih,Nat.succ_mul,Nat.add_comm]
end
section
variable {prog:Program}{w:World}{A:Around}{E:Value->Shared->Prop}{s:Shared}
set_option maxRecDepth 100000 in
end
section
variable {X:Cx}
end
end L2
namespace Att
open PySem PySem.W PySem.Calls PyProof.Rows
theorem jc3 {P:Params}{h:Heap}:∀(ns:List Int) (vs:List Value),WellAll P h vs (ns.map WData.int)->IntsAre vs ns:=by
 intro ns;induction ns with
 |nil=>
  intro vs w;rw[List.map_nil]at w;cases w;exact .nil
 |cons n ns ih=>
  intro vs w;rw[juR]at w;cases w with
  |cons a b=>
   cases a;exact .cons _ _ (ih _ b)
theorem jjh {l:OpenLaw}{n:Nat}(hn:l.most=some n){P:Params}{h:Heap}{args:List WData}{vals:List Value}
  (hpre:l.row.toRowW.claim.pre args=true) (hwl:WellAll P h vals args) :
  ∃a vs ns,vals=[Value.ref a]/\args=[WData.list (ns.map WData.int)]/\h.get? a=some { cls:=.type "list",data:=.seq vs.toArray }/\IntsAre vs ns/\ns.length<=n:=by
 have hsh:WShape.hasAll [] args [.list .int]=true:=(pre_splitW hpre).1;have hc:l.pre.holds [] { args:=args }=true:=(pre_splitW hpre).2;obtain⟨d,r,rfl,h1,h2⟩:=hasAllW_cons hsh;obtain rfl:=hasAllW_nil h2;obtain⟨xs,rfl,h3⟩:=hasW_list h1;obtain⟨ns,rfl⟩:=items_int h3;have hlen:ns.length<=n:=by
  unfold OpenLaw.pre at hc;have h4:(WTm.not (.lt (.lit (.int (n:Int))) (.len (.arg 0)))).holds [] { args:=[.list (ns.map .int)] }=true:=by
   have h4:=(holds_andW hc).1;rw[hn]at h4;exact h4
  have h5:=condW_of h4 (w_not (w_lt w_lit (w_len_list (w_arg rfl))));rw[juT]at h5;refine Nat.le_of_not_lt fun q=>?_;have q':(n:Int) < ((ns.length:Nat):Int):=by omega
  first
   |(rw[decide_eq_true q']at h5;exact absurd h5 (by decide))
   |(simp at h5;omega)
 cases hwl with
 |cons w1 w2=>
  cases w2;cases w1 with
  |list ho hall=>exact⟨_,_,ns,rfl,rfl,ho,jc3 ns _ hall,hlen⟩
theorem jji (l:OpenLaw)(args:List WData):l.row.toRowW.claim.post args (.bool true) args=true:=
 postW_of (r:=l.row.toRowW) (X:=(true == true))
  (show WShape.has [] (.bool true) .bool=true by first | rfl | decide | simp[WShape.has,WShape.arms,WShape.armsAll])
  (show (WTm.eq .res (.lit (.bool true))).value [] { args:=args,res:=some (.bool true),after:=args }=some (.bool (true == true))from w_eq_bool (w_res rfl) w_lit) rfl
theorem jgl {l:OpenLaw}{n:Nat}{q:Program}{loose:List Str}{XP:(Str->Option Value)->Heap->Prop}{YP:World->Heap->Prop}{d:DefRec}
  (hn:l.most=some n) (hdf:d.params.defaults=[])
  (call:∀(w:World) (s₀ s₁:Shared) (mg mb:Str->Option Value) (fa:Addr) (o:Obj) (pm cd doc:Value) (a:Addr) (vs:List Value) (ns:List Int),
   Ground q loose [] XP w s₀ mg mb s₁.heap->YP w s₁.heap ->
   s₁.heap.get? fa=some o->o.data=.func (docDef d.name d.params d.body d.scope pm cd doc)->s₁.heap.CodeRec cd d.name->mg d.name=some (.ref fa) ->
   s₁.heap.get? a=some { cls:=.type "list",data:=.seq vs.toArray }->IntsAre vs ns->ns.length<=n->s₁.gens=#[] ->
   codeAny (model l.prog w) callerA (.call (.ref fa) ⟨[.ref a],[]⟩) (fun r s'=>r=.ok (.ret (.bool true))/\OldK s₁.heap s'.heap/\s'.os=s₁.os/\AllBare s'.gens) s₁) :
  WalkO q loose XP YP l.row.toRowW d [] (fun f vs=>PySem.call f vs):=by
 intro w s₀ s₁ mg mb G Y fa o pm cd doc dV kV ho hd hcd hD hmg hg args vals as hpre hlay hrd hwl hlo;obtain rfl:dV=.none:=Dflts.none hD hdf;obtain rfl:kV=.none:=Dflts.noKw hD;obtain⟨a,vs,ns,rfl,rfl,hobj,hints,hlen⟩:=jjh hn hpre hwl;refine enter_call (codeAny_mono (call w s₀ s₁ mg mb fa o pm cd doc a vs ns G Y ho (fd_plain hd) hcd hmg hobj hints hlen hg) fun r s' hq=>?_);obtain⟨rfl,h2,h3,h4⟩:=hq;exact⟨.inl ⟨.bool true,.bool true,[],rfl,fun _=>rfl,.bool true,jji l _,fun _=>⟨List.Pairwise.nil,fun _ hm=>(nomatch hm)⟩⟩,h2,h3,h4⟩
section
variable {prog:Program}{w:World}{A:Around}{E:Value->Shared->Prop}{s:Shared}{K:Frag}
end
end Att
namespace L2
open PySem PySem.Spec PyProof.Rows
theorem jjj {vs:List Value}{ns:List Int}(h:IntsAre vs ns):Vals (ns.map V.int) vs:=by
 induction h with
 |nil=>exact .nil
 |cons n t h ih=>exact .cons ⟨t,rfl⟩ ih
noncomputable def jsQ (H:Hp):Prop:=∀b,H b=none\/∃o xs,H b=some (.frz o (.lst xs))
theorem jlG {P:Program}{w:World}{K:PySem.W.Frag}{mg mb:Str->Option Value}{CX:CXT}{k:Nat}{fa a:Addr}{fd:FuncData}{x:Str}{sp:Sp}{s₁:Shared}{vs:List Value}{ns:List Int}
  (KX:K.In s₁.heap) (hns:s₁.heap.Ns mainGlobals mg) (hb:s₁.heap.Ns builtinsNs mb) (hbb:∀x:Str,x≠"__name__"->mb x=bootBuiltins x) (hlim:s₁.heap.NoLimit) (hg:s₁.gens=#[])
  (ha:s₁.heap.get? a=some { cls:=.type "list",data:=.seq vs.toArray }) (hi:IntsAre vs ns) (hl:ns.length<=sizeLine) (hr:Room k callerA)
  (F:∀base:Heap,K.In base->base.Ns mainGlobals mg->FnOk P w K mg base CX k fa fd [x] sp) (hbind:∀(s:Shared) (u:Value),BindsTo s fd ⟨[u],[]⟩ [(x,u)])
  (hsp:∀H:Hp,jsQ H->SqL K H a (ns.map V.int)->sp [.ref a] H (fun v _=>v=.bl true) fun _ _ _=>False)
  (hCX:∀H e s',CX [] H s₁ (fun _ _ _=>False) e s'->False) :
  codeAny (model P w) callerA (.call (.ref fa) ⟨[.ref a],[]⟩) (fun r s'=>r=.ok (.ret (.bool true))/\OldK s₁.heap s'.heap/\s'.os=s₁.os/\AllBare s'.gens) s₁:=by
 have rv:=jjj hi;have lenV:=hi.length;have core:∀H:Hp,jsQ H->SqL K H a (ns.map V.int)->HOk P w H s₁.heap->(∀b,H b≠none->b=a)->(H a≠none->K.lookup a=none) ->
   codeAny (model P w) callerA (.call (.ref fa) ⟨[.ref a],[]⟩) (fun r s'=>r=.ok (.ret (.bool true))/\OldK s₁.heap s'.heap/\s'.os=s₁.os/\AllBare s'.gens) s₁:=by
  intro H hO hS hok hA hK;have base_of:∀{b:Addr}{o:Obj},s₁.heap.get? b=some o->H b=none->(jlu s₁.heap H).get? b=some o:=fun e n=>jlv e n;have noA:∀{b:Addr}{o:Obj}{es:Array DictEntry}{ep:Nat},s₁.heap.get? b=some o->o.data=.dict es ep->H b=none:=fun {b o es ep} e d=>by
   cases q:H b with
   |none=>rfl
   |some u=>
    have e':b=a:=hA b (by rw[q];simp)
    subst e';rw[ha]at e;cases e;have d':Data.seq vs.toArray _=Data.dict es ep:=d;cases d'
  have nsK:∀{b:Addr}{m:Str->Option Value},s₁.heap.Ns b m->(jlu s₁.heap H).Ns b m:=fun {b m} ⟨o,es,ep,e,d,r⟩=>⟨o,es,ep,base_of e (noA e d),d,r⟩;have hKb:K.In (jlu s₁.heap H):=fun b o e=>base_of (KX b o e) (by
   cases q:H b with
   |none=>rfl
   |some u=>
    have e':b=a:=hA b (by rw[q];simp)
    subst e';rw[hK (by rw[q];simp)]at e;cases e)
  have hM:Mod K mg (jlu s₁.heap H):=⟨hKb,nsK hns,⟨mb,nsK hb,hbb⟩,let ⟨mc,h1,h2⟩:=hlim;⟨mc,nsK h1,h2⟩⟩;have e0:Env0 P w K mg (jlu s₁.heap H) callerA [] s₁ H:=⟨rfl,hM,fun b o e=>joc e,Nat.le_of_eq (ji2 _ _),trivial,fun b hb=>absurd (show b∈([]:List Addr)from hb) (by simp),hok,.of_eq hg⟩
  refine codeAny_mono ((F _ hKb (nsK hns)).run callerA [] s₁ H ⟨[.ref a],[]⟩ [.ref a] [.ref a] _ _ hr e0 (hbind s₁ (.ref a)) (.cons rfl .nil) (hsp H hO hS)) fun r s' h=>?_;cases r with
  |error e=>exact(hCX H e s' h).elim
  |ok fl=>
   cases fl with
   |next=>exact False.elim h
   |brk=>exact False.elim h
   |cont=>exact False.elim h
   |ret u=>
    obtain⟨v,H',os,bare,un,hok',r',q⟩:=h;have q':v=.bl true:=q;subst q';obtain rfl:u=Value.bool true:=r';refine⟨rfl,OldK.of_keep fun b o e=>?_,os,bare⟩;cases q:H b with
    |none=>exact un.keep b o e q (by intro z;exact absurd (show b∈([]:List Addr)from z) (by simp)) (by simp)
    |some u=>
     rcases hO b with z | ⟨ob,xs,z⟩
     ·rw[q]at z;cases z
     ·have z2:=un.frzs b ob _ z;obtain⟨e1,_⟩:=hok b _ z;obtain⟨e2,_⟩:=hok' b _ z2;rw[e]at e1;cases e1;exact e2
 cases hk:K.lookup a with
 |some o=>
  have e:=KX a o hk;rw[ha]at e;cases e;refine core (fun _=>none) (fun _=>.inl rfl) (.inr ⟨_,vs.toArray,_,hk,rfl,rfl,rfl,by rw[juO,lenV];exact hl,by simpa using rv⟩) (fun b u z=>by have z':(none:Option HO)=some u:=z;cases z') (fun b z=>absurd rfl z) fun z=>absurd rfl z
 |none=>
  refine core (fun b=>if b=a then some (.frz { cls:=.type "list",data:=.seq vs.toArray } (.lst (ns.map V.int)))else none) (fun b=>?_) (.inl (.inr ⟨{ cls:=.type "list",data:=.seq vs.toArray },if_pos rfl⟩)) (fun b u z=>?_) (fun b z=>?_) fun _=>hk
  ·by_cases hb:b=a
   ·exact .inr ⟨_,_,if_pos hb⟩
   ·exact .inl (if_neg hb)
  ·by_cases hb:b=a
   ·have z':=(if_pos hb).symm.trans z;cases z';subst hb;exact⟨ha,by rw[juT];exact hl,vs,_,rv,ha⟩
   ·have z':=(if_neg hb).symm.trans z;cases z'
  ·by_cases hb:b=a
   ·exact hb
   ·exact absurd (if_neg hb) z
end L2
namespace L2
open PySem PySem.Spec PyProof.Rows
theorem jow {l:PySem.W.OpenLaw}{n k:Nat}{q:Program}{loose:List Str}{XP:(Str->Option Value)->Heap->Prop}{YP:World->Heap->Prop}{d:DefRec}{K:Params->PySem.W.Frag}{CX:World->CXT}{sp:World->Sp}{x:Str}
  (hn:l.most=some n) (hn2:n<=sizeLine) (hdf:d.params.defaults=[]) (hr:Room k callerA)
  (hY:∀(w:World) (h:Heap),YP w h->(K w.params).In h)
  (F:∀(w:World) (mg:Str->Option Value) (fa:Addr) (h:Heap),(K w.params).In h->h.Ns mainGlobals mg->mg d.name=some (.ref fa) ->
   ∃fd:FuncData,(∀(s:Shared) (u:Value),BindsTo s fd ⟨[u],[]⟩ [(x,u)]) /\
    ∀base:Heap,(K w.params).In base->base.Ns mainGlobals mg->FnOk l.prog w (K w.params) mg base (CX w) k fa fd [x] (sp w))
  (hsp:∀(w:World) (H:Hp) (a:Addr) (ns:List Int),ns.length<=n->jsQ H->SqL (K w.params) H a (ns.map V.int)->sp w [.ref a] H (fun v _=>v=.bl true) fun _ _ _=>False)
  (hCX:∀(w:World) (H:Hp) (s:Shared) (e:Value) (s':Shared),CX w [] H s (fun _ _ _=>False) e s'->False) :
  PySem.W.WalkO q loose XP YP l.row.toRowW d [] (fun f vs=>PySem.call f vs):=by
 refine Att.jgl hn hdf fun w s₀ s₁ mg mb fa o pm cd doc a vs ns G Y ho hd hcd hmg hobj hints hlen hg=>?_;have KX:=hY w _ Y;obtain⟨fd,hb,hF⟩:=F w mg fa _ KX G.T.g hmg;exact jlG KX G.T.g G.T.b G.T.builtins G.T.nolimit hg hobj hints (jvt hlen hn2) hr hF hb (fun H hO hS=>hsp w H a ns hlen hO hS) fun H e s'=>hCX w H s₁ e s'
end L2
namespace L2
open PySem PySem.Spec PyProof.Rows
noncomputable def defArgs (s:Stmt):Arguments:=match s with
 |.FunctionDef _ a _ _ _ _ _ _ _ _=>a
 |_=>{ posonlyargs:=[],args:=[],vararg:=none,kwonlyargs:=[],kw_defaults:=[],kwarg:=none,defaults:=[] }
noncomputable def defBody (s:Stmt):List Stmt:=match s with
 |.FunctionDef _ _ b _ _ _ _ _ _ _=>b
 |_=>[]
noncomputable def defScope (s:Stmt):Scope:=match s with
 |.FunctionDef _ _ _ _ _ _ sc _ _ _=>sc
 |_=>{ kind:=.function,names:=[],isGenerator:=false,isCoroutine:=false }
structure Fun (K:PySem.W.Frag)(x qual:Str)(st:Stmt)(f:Addr)(fd:FuncData):Prop where
 ex:∃(oc:Value) (od:Option Addr) (kV doc pm:Value) (an:Option Addr) (cdv ct:Value) (osl:Array (Option Value)),
  fd=PySem.W.fnOf x qual (defArgs st) (defBody st) (defScope st) .none kV doc pm an cdv ct/\K.lookup f=some ⟨oc,od,.func fd,osl⟩/\jvD K cdv qual=true
 kp:jvB K (.ref f)=true
section
variable {P:Program}{w:World}{K:PySem.W.Frag}{mg:Str->Option Value}{base:Heap}
theorem Fun.binds {x qual:Str}{st:Stmt}{f:Addr}{fd:FuncData}{ps:List Str}(F:Fun K x qual st f fd)
  (h:∀(kV doc pm:Value) (an:Option Addr) (cdv ct:Value) (us:List Value),us.length=ps.length->bindArgs (PySem.W.fnOf x qual (defArgs st) (defBody st) (defScope st) .none kV doc pm an cdv ct) ⟨us,[]⟩=pure (ps.zip us)):Binds K fd ps []:=by
 obtain⟨oc,od,kV,doc,pm,an,cdv,ct,osl,rfl,lk,hcd⟩:=F.ex;exact .all (h kV doc pm an cdv ct)
theorem jq3 {x qual:Str}{st:Stmt}{f:Addr}{oc:Value}{od an:Option Addr}{osl:Array (Option Value)}{kV doc pm cdv ct:Value}(l:K.lookup f=some ⟨oc,od,.func (PySem.W.fnOf x qual (defArgs st) (defBody st) (defScope st) .none kV doc pm an cdv ct),osl⟩)
  (c:jvD K cdv qual=true) (k:jvB K (.ref f)=true):Fun K x qual st f (PySem.W.fnOf x qual (defArgs st) (defBody st) (defScope st) .none kV doc pm an cdv ct):=⟨⟨oc,od,kV,doc,pm,an,cdv,ct,osl,rfl,l,c⟩,k⟩
end
section
variable {X:Cx}
end
noncomputable def Same (H H':Hp):Prop:=∀b o,H b=some o->H' b=some o
theorem Same.refl (H:Hp):Same H H:=fun _ _ h=>h
theorem Same.free {H H':Hp}(e:Same H H'){l:Addr}(h:H' l=Option.none):H l=Option.none:=by
 cases q:H l with
 |none=>rfl
 |some o=>
  rw[e l o q]at h;cases h
end L2
namespace TM
open PySem
theorem noFill_tuple_mul:fillsNumberSlot (.type "tuple") "mul"=pure false:=
 fillsNumberSlot_seq (id:="tuple.__mul__") (r:=some (.builtin "tuple.__rmul__")) PySem.F.slot_tuple_mul.lookup (by decide +kernel) PySem.F.slot_tuple_rmul.lookup (by decide +kernel)
theorem repeat_tuple:seqRepeat? (.type "tuple")=pure (some (.builtin "tuple.__mul__")):=by
 unfold seqRepeat?;rw[seqSlot_of (T:="tuple") (name:="__mul__") (id:="tuple.__mul__") PySem.F.slot_tuple_mul.lookup (by decide +kernel),seqSlot_of (T:="tuple") (name:="__rmul__") (id:="tuple.__rmul__") PySem.F.slot_tuple_rmul.lookup (by decide +kernel)]
 rfl
theorem int_rmul_tuple (a:Int)(t:Tok)(l:Addr)(items:Array Value)(n:Nat)(dd:Option Addr)(sl:Array (Option Value)) :
  Meets (Builtin.«int.__rmul__» ⟨[.int a t,.ref l],[]⟩) (fun _ R s=>s.heap.get? l=some { cls:=.type "tuple",dict:=dd,data:=.seq items n,slots:=sl }/\R (.ok (.ret Value.notImplemented)) s):=
 .of_wp fun prog w A R s h=>by obtain⟨hp,g,d,tk,os⟩:=s;obtain⟨hl,h⟩:=h;wp_walk;exact⟨_,rfl,h⟩
theorem tuple_mul_same (l:Addr)(items:Array Value)(n:Nat)(x:Int)(u:Tok)(dd:Option Addr)(sl:Array (Option Value))(hc0:¬(decide (x < -2 ^ 63) || decide (x>=2 ^ 63))=true)(hc1:(items.isEmpty || x == 1)=true) :
  Meets (Builtin.«tuple.__mul__» ⟨[.ref l,.int x u],[]⟩) (fun _ R s=>s.heap.get? l=some { cls:=.type "tuple",dict:=dd,data:=.seq items n,slots:=sl }/\R (.ok (.ret (Value.ref l))) s):=
 .of_wp fun prog w A R s h=>by
  obtain⟨hp,g,d,tk,os⟩:=s;obtain⟨hl,h⟩:=h;have f1:=AutoSeq1.idx_int;have f2:=AutoSeq1.sub_tuple_tuple;wp_walk using wpAny_loadPart' hl;rw[if_neg hc0];wp_walk using wpAny_loadPart' hl;exact⟨_,rfl,h⟩
theorem tuple_mul_new (l:Addr)(items:Array Value)(n:Nat)(x:Int)(u:Tok)(dd:Option Addr)(sl:Array (Option Value))(hc0:¬(decide (x < -2 ^ 63) || decide (x>=2 ^ 63))=true)(hc1:¬(items.isEmpty || x == 1)=true)
  (hc2:¬(decide (x<=0) || items.isEmpty)=true) (hc3:¬(↑items.size * x > (2 ^ 63 - 1) / 8)) (hc4:¬Builtin.Tuple.tupleTooMany (↑items.size * x)=true) (hsz:(List.foldl (fun x1 x2=>x1++x2) #[] (List.replicate x.toNat items)).size<=sizeLine) :
  Meets (Builtin.«tuple.__mul__» ⟨[.ref l,.int x u],[]⟩) (fun _ R s=>s.heap.get? l=some { cls:=.type "tuple",dict:=dd,data:=.seq items n,slots:=sl }/\R (.ok (.ret (Value.ref s.heap.objs.size))) { s with heap:=s.heap.push { cls:=Value.type "tuple",data:=Data.seq (List.foldl (fun x1 x2=>x1++x2) #[] (List.replicate x.toNat items)) },toks:=s.toks }):=
 .of_wp fun prog w A R s h=>by
  obtain⟨hp,g,d,tk,os⟩:=s;obtain⟨hl,h⟩:=h;have f1:=AutoSeq1.idx_int;have f2:=AutoSeq1.sub_tuple_tuple;wp_walk using wpAny_loadPart' hl;rw[if_neg hc0];wp_walk using wpAny_loadPart' hl;rw[if_neg hc3];wp_walk using wpAny_loadPart' hl;exact⟨_,rfl,h⟩
theorem tuple_mul_none (l:Addr)(items:Array Value)(n:Nat)(x:Int)(u:Tok)(dd:Option Addr)(sl:Array (Option Value))(hc0:¬(decide (x < -2 ^ 63) || decide (x>=2 ^ 63))=true)(hc1:¬(items.isEmpty || x == 1)=true)
  (hc2:(decide (x<=0) || items.isEmpty)=true) :
  Meets (Builtin.«tuple.__mul__» ⟨[.ref l,.int x u],[]⟩) (fun _ R s=>s.heap.get? l=some { cls:=.type "tuple",dict:=dd,data:=.seq items n,slots:=sl }/\R (.ok (.ret (Value.ref s.heap.objs.size))) { s with heap:=s.heap.push { cls:=Value.type "tuple",data:=Data.seq #[] },toks:=s.toks }):=
 .of_wp fun prog w A R s h=>by
  obtain⟨hp,g,d,tk,os⟩:=s;obtain⟨hl,h⟩:=h;have f1:=AutoSeq1.idx_int;have f2:=AutoSeq1.sub_tuple_tuple;wp_walk using wpAny_loadPart' hl;rw[if_neg hc0];wp_walk using wpAny_loadPart' hl;exact⟨_,rfl,h⟩
end TM
namespace L2
open PySem PySem.Spec PyProof.Rows
section
variable {X:Cx}
theorem jlH:OpR X (binaryOp .Add) (fun x y H Q=>∃a b ys,x=.ref a/\y=.ref b/\SqT X.K H a []/\SqT X.K H b ys/\Q (.ref b) H):=by
 intro pins s σ H x y v u Q I rx ry h;obtain⟨a,b,ys,rfl,rfl,ha,hb,q⟩:=h;cases rx;cases ry;obtain⟨its,r1,p1,_⟩:=I.tuple ha;obtain⟨its2,r2,p2,_⟩:=I.tuple hb;obtain rfl:its=[]:=r1.nil_iff.mpr rfl;obtain⟨⟨cls,dd,data,sl⟩,ho,hc,n,hd⟩:=id p1;obtain⟨⟨cls2,dd2,data2,sl2⟩,ho2,hc2,n2,hd2⟩:=id p2;simp only at hc hd hc2 hd2;subst hc hd hc2 hd2;exact concat_meets ⟨_,ho,rfl⟩ ⟨_,ho2,rfl⟩ noFill_tuple_add seq_tuple_add PySem.F.slot_tuple_add PySem.F.entry_tuple_add (PySem.F.args_tuple_add_2 _ _)
   (tuple_addW0 a b ([]:List Value).toArray its2.toArray n n2 dd dd2 sl sl2 rfl) ⟨ho,ho2,⟨.ref b,H,I,rfl,q⟩⟩
theorem jox:OpR X (binaryOp .Add) (fun x y H Q=>∃a b xs ys,x=.ref a/\y=.ref b/\SqL X.K H a xs/\SqL X.K H b ys/\xs.length + ys.length<=sizeLine/\∀p,H p=none->Q (.ref p) (upd H p (.lst (xs++ys)))):=by
 intro pins s σ H x y v u Q I rx ry h;obtain⟨a,b,xs,ys,rfl,rfl,ha,hb,hz,q⟩:=h;cases rx;cases ry;obtain⟨its,r1,⟨⟨cls,dd,data,sl⟩,n,ho,hc,hdd,hd⟩,_⟩:=I.list ha;obtain⟨its2,r2,⟨⟨cls2,dd2,data2,sl2⟩,n2,ho2,hc2,hdd2,hd2⟩,_⟩:=I.list hb;simp only at hc hd hc2 hd2;subst hc hd hc2 hd2;refine concat_meets ⟨_,ho,rfl⟩ ⟨_,ho2,rfl⟩ noFill_list_add seq_list_add PySem.F.slot_list_add PySem.F.entry_list_add (PySem.F.args_list_add_2 _ _)
   (list_addW a b its.toArray its2.toArray n n2 dd dd2 sl sl2 (by rw[juO,juO,<-r1.length,<-r2.length];exact hz)) ⟨ho,ho2,?_⟩
 have e:its.toArray++its2.toArray=(its++its2).toArray:=by simp
 rw[e];exact⟨.ref _,_,I.lnew (t':=s.toks) (r1.append r2) (by rw[juY];exact hz),rfl,q _ I.fresh⟩
theorem joy:OpR X (binaryOp .Mult) (fun x y H Q=>∃a k xs,x=.ref a/\y=.int k/\SqT X.K H a xs/\0<=k/\k<=16777216/\xs.length * k.toNat<=sizeLine /\
  ((xs.isEmpty || k == 1)=true->Q (.ref a) H)/\((xs.isEmpty || k == 1)=false->∀p,H p=none->Q (.ref p) (upd H p (.tup (List.replicate k.toNat xs).flatten)))):=by
 intro pins s σ H x y v u Q I rx ry h;obtain⟨a,k,xs,rfl,rfl,ha,h0,h1,hz,q1,q2⟩:=h;cases rx;obtain⟨t,rfl⟩:=ry;obtain⟨its,r1,p1,_⟩:=I.tuple ha;have hlen:=r1.length;obtain⟨⟨cls,dd,data,sl⟩,ho,hc,n,hd⟩:=id p1;simp only at hc hd;subst hc hd;have hc0:¬(decide (k < -2 ^ 63) || decide (k>=2 ^ 63))=true:=by
  simp only[Bool.or_eq_true,decide_eq_true_eq];omega
 have hem:its.toArray.isEmpty=xs.isEmpty:=by cases r1 <;> simp
 refine wpAny_binaryOp_repeat_ref (T:="tuple") (U:="int") (by decide) ⟨_,ho,rfl⟩ (fun s'=>typeIs_int s' k t) TM.noFill_tuple_mul PySem.F.fills_int_mul PySem.F.slot_int_rmul TM.repeat_tuple PySem.F.slot_int_index.lookup
  (call_meets PySem.F.slot_int_rmul (typeIs_int s k t) PySem.F.entry_int_rmul (PySem.F.args_int_rmul_2 _ _) (TM.int_rmul_tuple k t a its.toArray n dd sl) ⟨ho,rfl,⟨_,ho,rfl⟩,?_⟩)
 cases hc:(xs.isEmpty || k == 1)with
 |true=>
  exact call_meets PySem.F.slot_tuple_mul ⟨_,ho,rfl⟩ PySem.F.entry_tuple_mul (PySem.F.args_tuple_mul_2 _ _) (TM.tuple_mul_same a its.toArray n k t dd sl hc0 (by rw[hem];exact hc)) ⟨ho,⟨.ref a,H,I,rfl,q1 hc⟩⟩
 |false=>
  have q:=q2 hc;have hxe:xs.isEmpty=false:=(Bool.or_eq_false_iff.mp hc).1;by_cases hk:k<=0
  ·have hk0:k.toNat=0:=by omega
   refine call_meets PySem.F.slot_tuple_mul ⟨_,ho,rfl⟩ PySem.F.entry_tuple_mul (PySem.F.args_tuple_mul_2 _ _) (TM.tuple_mul_none a its.toArray n k t dd sl hc0 (by rw[hem,hc];exact jvx) (by rw[hem,hxe];simp[hk])) ⟨ho,?_⟩
   refine⟨.ref s.heap.objs.size,_,I.laid (t':=s.toks) (o:=.tup (List.replicate k.toNat xs).flatten) (fun b ob q=>jvl _ q) (jvq _) ?_,rfl,q _ (I.hok.fresh (jvq _))⟩;rw[hk0];exact⟨Nat.zero_le _,[],.nil,IsTup.new _ _⟩
  ·have hn:(List.foldl (fun x1 x2=>x1++x2) #[] (List.replicate k.toNat its.toArray))=(List.replicate k.toNat its).flatten.toArray:=by
    have:=jfg its k.toNat [];rw[List.nil_append]at this;exact this
   have hl2:(List.replicate k.toNat xs).flatten.length<=sizeLine:=by rw[jjg,Nat.mul_comm];exact hz
   have hprod:(its.toArray.size:Int) * k<=sizeLine:=by
    rw[juO,<-hlen];have:((xs.length * k.toNat:Nat):Int)<=sizeLine:=by exact_mod_cast hz
    rw[Int.natCast_mul,Int.toNat_of_nonneg h0]at this;exact this
   have hs24:(sizeLine:Int)=16777216:=by rw[sizeLine_eq];rfl
   refine call_meets PySem.F.slot_tuple_mul ⟨_,ho,rfl⟩ PySem.F.entry_tuple_mul (PySem.F.args_tuple_mul_2 _ _) (TM.tuple_mul_new a its.toArray n k t dd sl hc0 (by rw[hem,hc];exact jvx) (by rw[hem,hxe];simp;omega) (by omega)
    (by unfold Builtin.Tuple.tupleTooMany;simp only[decide_eq_true_eq];omega) (by rw[hn,juO,jjg,<-hlen,Nat.mul_comm];exact hz)) ⟨ho,?_⟩
   rw[hn];refine⟨.ref s.heap.objs.size,_,I.laid (t':=s.toks) (o:=.tup (List.replicate k.toNat xs).flatten) (fun b ob q=>jvl _ q) (jvq _) ?_,rfl,q _ (I.hok.fresh (jvq _))⟩;exact⟨hl2,_,r1.rep k.toNat,IsTup.new _ _⟩
theorem jb3 {prog:Program}{w:World}{A:Around}{E:Value->Shared->Prop}{s:Shared}{t sl:Addr}{items:Array Value}{vl vu:Value}{lo hi:Option Int}{Q:Value->Shared->Prop}(ht:IsTup s.heap t items)(hs:s.heap.IsSliceOf sl vl vu .none)(pl:IsPart vl lo)(pu:IsPart vu hi)
  (hw:HT.sIx items.size 0 lo=0/\HT.sIx items.size items.size hi=items.size) (h:Q (.ref t) s):wpAny (model prog w) A (getItem (.ref t) (.ref sl)) Q E s:=by
 obtain⟨os,hos,hcs,hds⟩:=id hs;have hTs:s.TypeIs (.ref sl) "slice":=⟨os,hos,hcs⟩;unfold getItem;try with_reducible refine jvh ?_
 first | refine jvc (jvd ?_) | skip
 refine jvc (wpAny_sequenceKey ht.typeIs (by decide) ?_)
 refine jvc (wpAny_callSpecial?_slot (name:=Str.ofString "__getitem__") ht.typeIs PyProof.Rows.slot_tuple_getitem
  (wpAny_call_entry PyProof.Rows.slot_tuple_getitem ht.typeIs entry_tuple_getitem ?_ (args_tuple_getitem _ _)))
 show wpAny _ _ (Builtin.Tuple.tupleItemsOf (.ref t) >>= _) _ _ s;refine jvc (tupleItemsOf_ ht ?_);refine jvc (wpAny_typeOf hTs ?_);rw[if_pos (by decide)]
 refine jvc (HT.jbC hs pl pu ?_);have hyes:(((HT.sIx items.size 0 lo:Nat):Int) == 0 && (1:Int) == 1 && (HT.sIx items.size items.size hi - HT.sIx items.size 0 lo) == items.size)=true:=by
  rw[hw.1,hw.2];simp
 show wpAny _ _ (if (((HT.sIx items.size 0 lo:Nat):Int) == 0 && (1:Int) == 1 && (HT.sIx items.size items.size hi - HT.sIx items.size 0 lo) == items.size)=true then _ else _) _ _ s;rw[if_pos hyes];refine jvc (m:=Builtin.Tuple.tupleIsExact _) ?_;unfold Builtin.Tuple.tupleIsExact;refine jvc (wpAny_typeOf ht.typeIs ?_);refine jvd ?_;rw[if_pos (by rfl)]
 exact jvc (wpAny_rule (jvd ⟨_,rfl,jvd h⟩))
theorem sl_tupW:SlR X (fun x lo hi H Q=>∃a xs,x=.ref a/\SqT X.K H a xs/\(HT.sIx xs.length 0 lo=0/\HT.sIx xs.length xs.length hi=xs.length)/\Q (.ref a) H):=by
 intro pins s σ H x v vl vu lo hi sl Q I rx hs pl pu h;obtain⟨a,xs,rfl,hx,hw,q⟩:=h;cases rx;obtain⟨its,r,ht,hz⟩:=I.tuple hx;have hlen:its.toArray.size=xs.length:=by rw[juO];exact r.length.symm
 refine⟨"tuple",_,PyProof.Rows.slot_tuple_getitem.lookup,ht.typeIs,?_⟩;exact jb3 ht hs pl pu (by rw[hlen];exact hw) ⟨.ref a,H,I,rfl,q⟩
theorem Inv.big {pins:List (Addr×Obj)}{σ:St}{H:Hp}{s:Shared}(I:Inv X pins σ H s):sysModules < s.heap.objs.size:=by
 have h:mainGlobals < s.heap.objs.size:=(I.mod.glob.keeps I.bk).lt;exact Nat.lt_trans (by decide) h
theorem jlI {P:Program}{w:World}{H:Hp}(h:Heap)(hb:sysModules < h.objs.size):ObjOk P w H (h.push { cls:=.type "dict",data:=.dict #[] }) h.objs.size (.dK []):=
 ⟨Nat.zero_le _,beq_eq_false_iff_ne.mpr (Ne.symm (jvs hb)),[],.nil,Heap.DictOf.new h⟩
noncomputable def jq4:TE:=fun _ H Q=>∀p,H p=none->Q (.ref p) (upd H p (.dK []))
theorem jlJ {pos:Pos}:PE X (.Dict [] [] pos) jq4:=fun pins s σ H Q I h=>
 wpAny_Dict_empty ⟨.ref s.heap.objs.size,_,I.laid (a:=s.heap.objs.size) (o:=.dK []) (t':=s.toks) (fun _ _ q=>jvl _ q) (jvq _) (jlI s.heap I.big),rfl,h _ (I.hok.fresh (jvq _))⟩
noncomputable def trV:V->Option Bool
 |.bl b=>some b
 |.int i=>some (i != 0)
 |_=>none
theorem jjk {prog:Program}{w:World}{A:Around}{x:V}{v:Value}{b:Bool}(r:RelV x v)(h:trV x=some b){s:Shared}{Q:Bool->Shared->Prop}{E:Value->Shared->Prop}(q:Q b s):wpAny (model prog w) A (truthy v) Q E s:=by
 cases x with
 |bl c=>
  cases (show v=Value.bool c from r);cases h;exact wpAny_truthy_bool q
 |int i=>
  obtain⟨t,rfl⟩:=(show ∃t,v=Value.int i t from r);cases h;exact PySem.P.truthy_int q
 |_=>cases h
theorem jed {pins:List (Addr×Obj)}{σ:St}{H:Hp}{s:Shared}{p:Addr}{ys:List V}(hc:X.calm=true)(I:Inv X pins σ H s)(h:SqL X.K H p ys\/SqT X.K H p ys){A:Around}(hA:A.handled=none){Q:Value->Shared->Prop}{E:Value->Shared->Prop}
  (q:∀(its:List Value) (I':Addr) (fp wr:List Addr) (St:Nat->Heap->Prop) (h2:Heap),Vals ys its->Walks X.prog X.w A I' fp wr ys.length (fun i v=>its[i]?=some v) St->St 0 h2->(∀b∈fp,b < h2.objs.size) ->
   (∀h' tk,(∀b o,b ∉ wr->h2.get? b=some o->h'.get? b=some o)->Inv X pins σ H { s with heap:=h',toks:=tk })->Q (.ref I') { s with heap:=h2 }):wpAny (model X.prog X.w) A (pyIter (.ref p)) Q E s:=by
 have back:∀(o:Obj) (h':Heap) (tk:Nat),(∀b ob,b ∉ [s.heap.objs.size]->(s.heap.push o).get? b=some ob->h'.get? b=some ob)->Inv X pins σ H { s with heap:=h',toks:=tk }:=fun o h' tk kp=>
  I.kept fun b ob e=>kp b ob (by simpa using jvs (jvm e)) (jvl _ e)
 rcases h with h | h
 ·obtain⟨its,r,pl,hz⟩:=I.list h;have hlen:its.toArray.size=ys.length:=by rw[juO];exact r.length.symm
  have hlt:p < s.heap.objs.size:=by obtain⟨o,n,e,_⟩:=pl;exact jvm e
  refine wpAny_pyIter_list pl.isList ?_;have W:=Walks.list (prog:=X.prog) (w:=X.w) hA s.heap.objs.size p (jvs hlt) its.toArray;rw[hlen]at W;refine q its s.heap.objs.size _ _ (fun i h=>h.IsListIter s.heap.objs.size p i/\h.IsList p its.toArray) _ r (by simpa using W) ⟨⟨_,jvn _ rfl,rfl,rfl⟩,pl.isList.push _⟩ (fun b hb=>?_) (fun h' tk kp=>back _ h' tk kp)
  rw[Heap.size_push];rcases List.mem_cons.mp hb with rfl | hb
  ·exact Nat.lt_succ_self _
  ·have:b=p:=by simpa using hb
   subst this;exact Nat.lt_succ_of_lt hlt
 ·obtain⟨its,r,pl,hz⟩:=I.tuple h;have hlen:its.toArray.size=ys.length:=by rw[juO];exact r.length.symm
  have hlt:p < s.heap.objs.size:=pl.lt;have pl':s.heap.IsTuple p its.toArray:=pl;refine wpAny_pyIter_tuple pl' ?_;have W:=Walks.tuple (prog:=X.prog) (w:=X.w) hA s.heap.objs.size p (jvs hlt) its.toArray;rw[hlen]at W;refine q its s.heap.objs.size _ _ (fun i h=>h.IsTupleIter s.heap.objs.size p i/\h.IsTuple p its.toArray) _ r (by simpa using W) ⟨⟨_,jvn _ rfl,rfl,rfl⟩,?_⟩ (fun b hb=>?_) (fun h' tk kp=>back _ h' tk kp)
  ·obtain⟨o,e,c⟩:=pl';exact⟨o,jvl _ e,c⟩
  ·rw[Heap.size_push];rcases List.mem_cons.mp hb with rfl | hb
   ·exact Nat.lt_succ_self _
   ·have:b=p:=by simpa using hb
    subst this;exact Nat.lt_succ_of_lt hlt
theorem jfi {ys:List V}{bs:List Bool}(h:ys.map trV=bs.map some):(List.range ys.length).all (fun i=>((ys[i]?).bind trV).getD false)=bs.all id/\(List.range ys.length).any (fun i=>((ys[i]?).bind trV).getD false)=bs.any id:=by
 have hl:ys.length=bs.length:=by simpa using congrArg List.length h
 have hg:∀i:Nat,((ys[i]?).bind trV).getD false=(bs[i]?).getD false:=fun i=>by
  have e:(ys.map trV)[i]?=(bs.map some)[i]?:=by rw[h]
  rw[juQ,juQ]at e;cases q:ys[i]? with
  |none=>rw[q]at e;cases q2:bs[i]? with
   |none=>rfl
   |some b=>rw[q2]at e;cases e
  |some y=>rw[q]at e;cases q2:bs[i]? with
   |none=>rw[q2]at e;cases e
   |some b=>rw[q2]at e;simp at e;simp[e]
 have ea:(List.range ys.length).map (fun i=>((ys[i]?).bind trV).getD false)=bs:=by
  apply List.ext_getElem?;intro i;rw[juQ];by_cases hi:i < ys.length
  ·rw[List.getElem?_range hi];have hb:i < bs.length:=by omega
   rw[Option.map_some,hg i,juK hb];rfl
  ·rw[ju0 (by simpa using hi),ju0 (by omega)]
   rfl
 constructor
 ·conv=>rhs;rw[<-ea]
  rw[List.all_map];rfl
 ·conv=>rhs;rw[<-ea]
  rw[List.any_map];rfl
theorem jfj (hc:X.calm=true)(all:Bool):CallR X (.builtin (if all then "all" else "any")) (fun xs H Q=>∃(p:Addr) (ys:List V) (bs:List Bool),xs=[.ref p]/\(SqL X.K H p ys\/SqT X.K H p ys)/\ys.map trV=bs.map some/\Q (.bl (if all then bs.all id else bs.any id)) H):=by
 intro pins s σ H xs us Q I r h;obtain⟨p,ys,bs,rfl,hq,hb,q⟩:=h;obtain⟨u,rfl,rx⟩:=jcz r;cases rx;have hA:X.A.in1.handled=none:=I.ok.hd hc;have tro:∀its:List Value,Vals ys its->TruthOf X.prog X.w X.A.in1 (fun i v=>its[i]?=some v) (fun i=>((ys[i]?).bind trV).getD false):=fun its rv i v s Q E hP hQ=>by
  have hlen:=rv.length;have hi:i < ys.length:=by rw[hlen];exact(List.getElem?_eq_some_iff.mp hP).1
  obtain⟨u,e1,e2⟩:=rv.get (juK hi);rw[hP]at e1;cases e1;have e:(ys.map trV)[i]?=(bs.map some)[i]?:=by rw[hb]
  rw[juQ,juQ,juK hi]at e;cases q2:bs[i]? with
  |none=>rw[q2]at e;cases e
  |some b=>
   rw[q2]at e;have e:trV ys[i]=some b:=by simpa using e
   refine jjk e2 e ?_;have:((ys[i]?).bind trV).getD false=b:=by rw[juK hi];simp[e]
   rw[<-this];exact hQ
 cases all with
 |true=>
  refine call_all_walk (jed hc I hq hA fun its I' fp wr St h2 rv W st hfp back=>⟨I',fp,wr,_,_,St,_,rfl,W,st,tro its rv,fun h' tk kp=>?_⟩);rw[(jfi hb).1];exact⟨.bl _,H,back h' tk kp,rfl,q⟩
 |false=>
  refine call_any_walk (jed hc I hq hA fun its I' fp wr St h2 rv W st hfp back=>⟨I',fp,wr,_,_,St,_,rfl,W,st,tro its rv,fun h' tk kp=>?_⟩);rw[(jfi hb).2];exact⟨.bl _,H,back h' tk kp,rfl,q⟩
end
end L2
namespace L2
open PySem PySem.Spec PyProof.Rows PySem.W PySem.Builtin PySem.Builtin.Getset_descriptor
structure ECls (K:Frag)(C:Addr):Prop where
 ga:findIn K (.ref C) "__getattribute__"=some (some (.builtin "BaseException.__getattribute__"))
 hk:findIn K (.ref C) "__getattr__"=some none
 ca:findIn K (.ref C) "__class__"=some (some (.builtin "object.__class__"))
 gs:specialIn K (.builtin "object.__class__") "__get__"=some (some (.builtin "getset_descriptor.__get__"))
 tk:takesIn K (.builtin "object.__class__")=some true
 mo:mroIn K C (.type "object")=some true
 mb:mroIn K C (.type "BaseException")=some true
 ms:mroIn K C (.ref C)=some true
 mv:mroIn K C (.type "ValueError")=some true
 cd:(clsIn K C).isSome=true
 ty:typeIn K (.ref C)=some (.type "type")
section
variable {prog:Program}{w:World}{A:Around}{E:Value->Shared->Prop}{s:Shared}{K:Frag}{x C:Addr}{ox:Obj}
inductive TyAt (h:Heap) (x C:Addr):Prop
 |mk (o:_):(h.get? x=some o)->(o.cls=.ref C)->TyAt h x C
theorem TyAt.looks {M:Model}{h:Heap}(t:TyAt h x C):Looks M h (typeOf (.ref x)) (.ref C):=by
 obtain⟨o,e,hc⟩:=t;have z:=(Looks.ld (M:=M) (part:=none) e).andThen (f:=fun o=>pure o.cls) Looks.now;rw[hc]at z;exact z
theorem jjl {M:Model}{nameV:Value}{Q:Unit->Shared->Prop}(X:K.In s.heap)(e:ECls K C)(I:TyAt s.heap x C)(hq:Q () s) :
  wpAny M A (checkBuiltinCall "BaseException.__getattribute__" ⟨[.ref x,nameV],[]⟩) Q E s:=by
 have k1:builtinKind "BaseException.__getattribute__"=some .slot:=by decide +kernel
 have k2:splitId "BaseException.__getattribute__"=some ("BaseException","__getattribute__"):=by decide +kernel
 have ha:=F.args_bexc_ga (.ref x) nameV;have L0:=I.looks (M:=M);have L1:=looks_mroIn (M:=M) X e.mb;simp only[checkBuiltinCall,k1,k2];refine jvc ?_;unfold isInstance;obtain⟨hh,g,d,t,os⟩:=s;refine jvc (L0.at (L1.at ?_));repeat (first | wp_step)
 exact hq
theorem jlK {M:Model}{h:Heap}(X:K.In h)(e:ECls K C)(x:Addr):Looks M h (Builtin.ObjectAttr.find (.ref x) (.ref C) "__class__") (.bind (.builtin "getset_descriptor.__get__") (.builtin "object.__class__")):=by
 have a1:=looks_findIn (M:=M) X e.ca;have a2:=looks_specialIn (M:=M) X e.gs;have a3:=looks_takesIn (M:=M) X e.tk;refine a1.andThen (Looks.andThen (a:=some (Value.builtin "getset_descriptor.__get__")) (by unfold Builtin.ObjectAttr.getOf;exact a2) ?_)
 exact Looks.andThen (a:=some (.builtin "getset_descriptor.__get__",.builtin "object.__class__")) (a3.andThen Looks.now) (Looks.tag Looks.now)
theorem joz {R:Result->Shared->Prop}(X:K.In s.heap)(e:ECls K C)(I:TyAt s.heap x C)(h:R (.ok (.ret (.ref C))) s) :
  codeAny (model prog w) A (.call (.builtin "getset_descriptor.__get__") ⟨[.builtin "object.__class__",.ref x,.ref C],[]⟩) R s:=by
 have T0:=I.looks (M:=model prog w);have T1:=looks_mroIn (M:=model prog w) X e.mo;obtain⟨hp,ge,dr,tk,os⟩:=s;refine codeAny_call_builtin KF.slot_gs.plain KF.entry_gs ?_;refine KF.slot_gs.check _ _ _ _ _ _ _ _ KF.type_class (KF.args_gs _ _ _) ?_;unfold Builtin.«getset_descriptor.__get__»;unfold descrGet;rw[dga_obj];refine jvc (jvd ?_);unfold descrGetter;unfold descrCheckInstance;unfold descrNameAndClass;unfold isInstance;simp only[KF.owner_class];repeat lk
 refine⟨Code.quiet_builtin _ (by decide +kernel),codeAny_builtin KF.entry_class ?_⟩
 unfold Builtin.«object.__class__»;unfold shownTypeOf;repeat lk
 exact h
theorem jjm {Q:Option Value->Shared->Prop}(X:K.In s.heap)(e:ECls K C)(I:TyAt s.heap x C)(h:Q (some (.ref C)) { s with toks:=s.toks + 1 }):wpAny (model prog w) A (getAttr? (.ref x) "__class__") Q E s:=by
 obtain⟨hh,g,d,t,os⟩:=s;have L0:=I.looks (M:=model prog w);have L1:=looks_findIn (M:=model prog w) X e.ga;have L2':=looks_findIn (M:=model prog w) X e.hk;have L3:=jlK (M:=model prog w) X e x;unfold getAttr? getAttrBy? getAttrBy;refine jvc (wpAny_mkText (jvc (wpAny_attempt ?_)));refine jvh (jvc (L0.at (jvc (L1.at ?_))));have hx2:(Value.builtin "BaseException.__getattribute__" == Value.builtin "object.__getattribute__")=false:=by decide +kernel
 simp only[hx2,Bool.and_false,jvw,if_false];unfold getAttrByItsOwn hookBefore;simp only[onTheHeap,if_true];refine jvc (L2'.at (jvc (wpAny_attempt (jvh ?_))));unfold callGetattribute boundAndCalled;simp only[Bool.false_and,jvw,if_false];rw[F.attr_ValueError.ga.bind];refine jvc (jvd ?_);refine wpAny_call (codeAny_call_builtin F.attr_ValueError.ga.plain F.entry_bexc_ga (jjl X e I ?_));unfold Builtin.«object.__getattribute__»;refine jvc (jvf (a:=(Value.ref x,[Value.str "__class__" t])) rfl ?_);dsimp only;refine jvc (jvf (a:=("__class__":Str)) rfl ?_);refine jvc (L0.at (jvc (L3.at ?_)));dsimp only;unfold Builtin.ObjectAttr.bindTo;dsimp only;refine jvc (jvh (wpAny_call (joz (s:=⟨hh,g,d,t + 1,os⟩) X e I ?_)));dsimp only;refine jvd ?_;dsimp only;exact jvd (jvd h)
theorem ECls.isTy {M:Model}{h:Heap}(e:ECls K C)(X:K.In h):Looks M h (isType (.ref C)) true:=by
 obtain⟨cd,hcd⟩:=Option.isSome_iff_exists.mp e.cd;unfold clsIn at hcd;split at hcd
 ·rename_i ho;intro A' Q' E' s' k q;unfold isType;unfold loadHead;exact jvc (wpAny_loadPart (k _ _ (X _ _ ho)) (jvd q))
 ·cases hcd
theorem jlL (e:ECls K C):KitX K (.ref x) (.ref C) (fun h=>TyAt h x C) where
 ty:=fun _ _ _ I=>I.looks
 it:=fun _ _ X _=>e.isTy X
 ne:=fun h tp dd its n sl X htp=>by
  obtain⟨cd,hcd⟩:=Option.isSome_iff_exists.mp e.cd;refine Bool.eq_false_iff.mpr fun q=>?_;have z:C=tp:=Value.ref.inj (beq_iff_eq.mp q);subst z;unfold clsIn at hcd;split at hcd
  ·rename_i ho;cases (X _ _ ho).symm.trans htp
  ·cases hcd
 ca:=fun X I k=>jjm X e I k
theorem jgm {C':Addr}{b:Bool}{Q:Bool->Shared->Prop}(X:K.In s.heap)(e':ECls K C')(I:TyAt s.heap x C)(hs:subIn K (.ref C) (.ref C')=some b)(hq:Q b s):wpAny (model prog w) A (excMatches (.ref x) (.ref C')) Q E s:=by
 have L0:=I.looks (M:=model prog w);have L1:=looks_typeIn (M:=model prog w) X e'.ty;have L2':=looks_mroIn (M:=model prog w) X e'.mb;have L3:=looks_subIn (M:=model prog w) X hs;have f:=tc_notTuple;have L4:=e'.isTy (M:=model prog w) X;obtain⟨hh,g,d,t,os⟩:=s;unfold excMatches;unfold isInstance;refine jvc (jvc (L1.at (jvf f ?_)));simp only[jvw,if_false];refine jvc (jvd ?_);simp only[List.forIn_cons,List.forIn_nil];unfold isExcClass;refine jvc (jvc (jvc (jvc (L4.at ?_))));simp only[if_true];refine L2'.at ?_;simp only[Bool.not_true,jvw,if_false];refine jvd (jvd (jvc (L0.at ?_)));refine jvc (jvc (jvc (L3.at ?_)));cases b with
 |true=>exact jvd (jvd (jvd hq))
 |false=>exact jvd (jvd (jvd hq))
end
end L2
namespace L2
open PySem PySem.Spec PyProof.Rows PySem.Builtin.SmallTypes
noncomputable def Sit (b:Bool)(h:Heap)(it l:Addr)(k:Nat)(xs:Array Value):Prop:=(b=true/\h.IsListIter it l k/\h.IsList l xs)\/(b=false/\h.IsTupleIter it l k/\h.IsTuple l xs)
noncomputable def Sq (b:Bool)(h:Heap)(l:Addr)(xs:Array Value):Prop:=(b=true/\h.IsList l xs)\/(b=false/\h.IsTuple l xs)
theorem Sit.at {b:Bool}{h h':Heap}{it l:Addr}{k:Nat}{xs:Array Value}(S:Sit b h it l k xs)(h1:∀o,h.get? it=some o->h'.get? it=some o)(h2:∀o,h.get? l=some o->h'.get? l=some o):Sit b h' it l k xs:=by
 rcases S with ⟨e,⟨o,a,r⟩,⟨o',a',r'⟩⟩ | ⟨e,⟨o,a,r⟩,⟨o',a',r'⟩⟩
 ·exact .inl ⟨e,⟨o,h1 o a,r⟩,⟨o',h2 o' a',r'⟩⟩
 ·exact .inr ⟨e,⟨o,h1 o a,r⟩,⟨o',h2 o' a',r'⟩⟩
section
variable {prog:Program}{w:World}{A:Around}{E:Value->Shared->Prop}{s:Shared}
theorem jh7 {it t:Addr}{k:Nat}{xs:Array Value}{x:Value}{Q:Value->Shared->Prop}(I:s.heap.IsTupleIter it t k)(T:s.heap.IsTuple t xs)(hx:xs[k]?=some x)
  (go:∀h',h'.IsTupleIter it t (k + 1)->Heap.SameBut it s.heap h'->Q x { s with heap:=h' }):wpAny (model prog w) A (nextOf (.ref it)) Q E s:=by
 have ty:=I.typeIs;obtain⟨ob,e1,e2,e3⟩:=I;obtain⟨tb,f1,_,n,f3⟩:=T;unfold nextOf;refine jvc (wpAny_callSpecial?_slot (name:=Str.ofString "__next__") ty F.slot_tuple_iterator_next (wpAny_call_entry F.slot_tuple_iterator_next ty F.entry_tuple_iterator_next ?_ (F.args_tuple_iterator_next_1 _)));show wpAny (model prog w) _ (field (.ref it) 0 >>= _) _ _ s;refine jvc (jvi e1 e3 (x:=.ref t) rfl ?_);show wpAny (model prog w) _ (if (Value.ref t == Value.none)=true then _ else _) _ _ s;rw[if_neg (show ¬((Value.ref t == Value.none)=true)from jvx)];show wpAny (model prog w) _ (field (.ref it) 1 >>= _) _ _ s;refine jvc (jvi e1 e3 (x:=.int k 0) rfl ?_);show wpAny (model prog w) _ (seqItems? (.ref t) >>= _) _ _ s;refine jvc (wpAny_seqItems f1 f3 ?_);simp only[hx,Int.toNat_natCast];refine jvc (wpAny_setField e1 e3 (by simp) (jvd ⟨x,rfl,jvd (go _ ⟨_,jvo _ e1 (Obj.isFreed_of_fields (Obj.data_mapFields e3 _)),(Obj.cls_mapFields ..).trans e2,?_⟩ (Heap.SameBut.update ..))⟩))
 rw[Obj.data_mapFields e3];simp[rawInt]
theorem jh8 {it t:Addr}{k:Nat}{xs:Array Value}{Q:Value->Shared->Prop}(hh:A.handled=none)(I:s.heap.IsTupleIter it t k)(T:s.heap.IsTuple t xs)(hx:xs[k]?=none)
  (go:∀h' e,Heap.ExtBut it s.heap h'->(∃o,h'.get? e=some o/\o.cls=.type "StopIteration")->E (.ref e) { s with heap:=h' }):wpAny (model prog w) A (nextOf (.ref it)) Q E s:=by
 have ty:=I.typeIs;obtain⟨ob,e1,e2,e3⟩:=I;obtain⟨tb,f1,_,n,f3⟩:=T;unfold nextOf;refine jvc (wpAny_callSpecial?_slot (name:=Str.ofString "__next__") ty F.slot_tuple_iterator_next (wpAny_call_entry F.slot_tuple_iterator_next ty F.entry_tuple_iterator_next ?_ (F.args_tuple_iterator_next_1 _)));show wpAny (model prog w) _ (field (.ref it) 0 >>= _) _ _ s;refine jvc (jvi e1 e3 (x:=.ref t) rfl ?_);show wpAny (model prog w) _ (if (Value.ref t == Value.none)=true then _ else _) _ _ s;rw[if_neg (show ¬((Value.ref t == Value.none)=true)from jvx)];show wpAny (model prog w) _ (field (.ref it) 1 >>= _) _ _ s;refine jvc (jvi e1 e3 (x:=.int k 0) rfl ?_);show wpAny (model prog w) _ (seqItems? (.ref t) >>= _) _ _ s;refine jvc (wpAny_seqItems f1 f3 ?_);simp only[hx,Int.toNat_natCast];refine jvc (wpAny_rule (jvc (wpAny_setField e1 e3 (by simp) (show wpAny (model prog w) _ (newExc (.type "StopIteration") [] >>= _) _ _ _ from jvc ?_))))
 simp only[newTuple,newExc];refine jvc (jvg (jvc (m:=firstArgMember _ _) (jvf (a:=Value.none) (by first | rfl | (simp only[firstArgMember];rfl)) (jvg ?_ (by size_fits)))) (by size_fits))
 simp only[raiseNew];refine jvc (wpAny_handled (by
  first | rw[show A.in1.handled=none from hh] | rw[hh]
  exact jvc (jvd (wpAny_throw (go _ _ (((Heap.SameBut.update ..).extBut.push _).push _) ⟨_,jvn _ rfl,rfl⟩)))))
theorem jee {b:Bool}{it l:Addr}{k:Nat}{xs:Array Value}{x:Value}{Q:Value->Shared->Prop}(S:Sit b s.heap it l k xs)(ne:l≠it)(hx:xs[k]?=some x)
  (go:∀h',Sit b h' it l (k + 1) xs->Heap.SameBut it s.heap h'->Q x { s with heap:=h' }):wpAny (model prog w) A (nextOf (.ref it)) Q E s:=by
 rcases S with ⟨e,I,L⟩ | ⟨e,I,L⟩
 ·exact wpAny_nextOf_list_item I L hx fun h' I' sb=>go h' (.inl ⟨e,I',L.extBut sb.extBut ne⟩) sb
 ·exact jh7 I L hx fun h' I' sb=>go h' (.inr ⟨e,I',L.extBut sb.extBut ne⟩) sb
theorem jhl {b:Bool}{it l:Addr}{k:Nat}{xs:Array Value}{Q:Value->Shared->Prop}(hh:A.handled=none)(S:Sit b s.heap it l k xs)(hx:xs[k]?=none)
  (go:∀h' e,Heap.ExtBut it s.heap h'->(∃o,h'.get? e=some o/\o.cls=.type "StopIteration")->E (.ref e) { s with heap:=h' }):wpAny (model prog w) A (nextOf (.ref it)) Q E s:=by
 rcases S with ⟨_,I,L⟩ | ⟨_,I,L⟩
 ·exact wpAny_nextOf_list_end hh I L hx go
 ·exact jh8 hh I L hx go
structure Zs (b1 b2:Bool)(h:Heap)(z TI TO i1 i2 l1 l2:Addr)(k:Nat)(xs ys:Array Value)(f:Value):Prop where
 zi:IsZip h z TI TO f
 ti:IsPair h TI (.ref i1) (.ref i2)
 to_:∃a b,IsPair h TO a b
 s1:Sit b1 h i1 l1 k xs
 s2:Sit b2 h i2 l2 k ys
theorem joA {b1 b2:Bool}{z TI TO i1 i2 l1 l2:Addr}{k:Nat}{xs ys:Array Value}{x y:Value}{Q:Value->Shared->Prop}(D:ZipApart z TI TO i1 i2 l1 l2)(S:Zs b1 b2 s.heap z TI TO i1 i2 l1 l2 k xs ys .none)(hx:xs[k]?=some x)(hy:ys[k]?=some y)
  (go:∀h',Zs b1 b2 h' z TI TO i1 i2 l1 l2 (k + 1) xs ys (rawInt s.heap.objs.size)->IsPair h' s.heap.objs.size x y->(∀c o,c≠z->c≠TO->c≠i1->c≠i2->s.heap.get? c=some o->h'.get? c=some o)->Q (.ref s.heap.objs.size) { s with heap:=h' }) :
  wpAny (model prog w) A (Builtin.«zip.__next__» ⟨[.ref z],[]⟩) (fun fin s'=>∃v,fin=.done (.ret v)/\Q v s') E s:=by
 obtain⟨zi,ti,⟨a,b,to_⟩,s1,s2⟩:=S;show wpAny (model prog w) _ (field (.ref z) 2 >>= _) _ _ _;refine jvc (jvi zi rfl (x:=.bool false) rfl ?_);show wpAny (model prog w) _ (field (.ref z) 3 >>= _) _ _ _;refine jvc (jvi zi rfl (x:=.ref TI) rfl (jvc (wpAny_seqItems ti rfl ?_)));show wpAny (model prog w) _ (ownedTupleIsFree (.ref z) >>= _) _ _ _;refine jvc ?_;unfold ownedTupleIsFree;refine jvc (jvi zi rfl (x:=.none) rfl (jvd ?_));simp only[if_true];refine jvc (wpAny_rule (jvc (jvi zi rfl (x:=.ref TO) rfl (jvc (wpAny_setField_rec zi (by simp) fun g1 y1 u1=>?_)))))
 replace y1:IsZip g1 z TI TO .ellipsis:=y1;refine jvc ?_;simp only[List.forIn_cons,List.forIn_nil,List.zipIdx_cons,List.zipIdx_nil];refine jvc (jvc (wpAny_onRaise (show wpAny (model prog w) _ (nextOf (.ref i1) >>= _) _ _ _ from jvc ?_)));refine jee (s1.at (fun o e=>u1.extBut _ o D.i1z e) fun o e=>u1.extBut _ o D.l1z e) D.l1i1 hx fun g2 y2 u2=>jvd ?_;have t2:IsPair g2 TO a b:=u2.extBut _ _ D.TOi1 (u1.extBut _ _ D.TOz to_);refine jvc (wpAny_seqItems t2 rfl (jvc (wpAny_updateSeq_pair t2 fun g3 t3 u3=>jvc (wpAny_letGo (jvd ?_)))));replace t3:IsPair g3 TO x b:=t3;refine jvc (jvc (wpAny_onRaise (show wpAny (model prog w) _ (nextOf (.ref i2) >>= _) _ _ _ from jvc ?_)));refine jee (s2.at (fun o e=>u3.extBut _ o D.TOi2.symm (u2.extBut _ o D.i12.symm (u1.extBut _ o D.i2z e))) fun o e=>u3.extBut _ o D.l2TO (u2.extBut _ o D.l2i1 (u1.extBut _ o D.l2z e))) D.l2i2 hy fun g4 y4 u4=>jvd ?_;have t4:IsPair g4 TO x b:=u4.extBut _ _ D.TOi2 t3;refine jvc (wpAny_seqItems t4 rfl (jvc (wpAny_updateSeq_pair t4 fun g5 t5 u5=>jvc (wpAny_letGo (jvd (jvd ?_))))));replace t5:IsPair g5 TO x y:=t5;refine jvc (wpAny_seqItems t5 rfl (jvc (wpAny_newTuple ?_)));have sz:g5.objs.size=s.heap.objs.size:=by rw[u5.1,u4.1,u3.1,u2.1,u1.1]
 have z5:IsZip g5 z TI TO .ellipsis:=u5.extBut _ _ D.TOz.symm (u4.extBut _ _ D.i2z.symm (u3.extBut _ _ D.TOz.symm (u2.extBut _ _ D.i1z.symm y1)));have k5:∀c o,c≠z->c≠TO->c≠i1->c≠i2->s.heap.get? c=some o->g5.get? c=some o:=fun c o c1 c2 c3 c4 e=>u5.extBut c o c2 (u4.extBut c o c4 (u3.extBut c o c2 (u2.extBut c o c3 (u1.extBut c o c1 e))));have a5:Sit b1 g5 i1 l1 (k + 1) xs:=y2.at (fun o e=>u5.extBut _ o D.TOi1.symm (u4.extBut _ o D.i12 (u3.extBut _ o D.TOi1.symm e))) fun o e=>u5.extBut _ o D.l1TO (u4.extBut _ o D.l1i2 (u3.extBut _ o D.l1TO e));have b5:Sit b2 g5 i2 l2 (k + 1) ys:=y4.at (fun o e=>u5.extBut _ o D.TOi2.symm e) fun o e=>u5.extBut _ o D.l2TO e;have lz:z < g5.objs.size:=jvm z5;show wpAny (model prog w) _ (ownedTupleHandOut (.ref z) (.ref g5.objs.size) >>= _) _ _ _;refine jvc ?_;unfold ownedTupleHandOut;refine jvc (wpAny_setField_rec (show IsZip (g5.push { cls:=.type "tuple",data:=.seq #[x,y] }) z TI TO .ellipsis from jvl _ z5) (by simp) fun g7 z7 u7=>?_)
 replace z7:IsZip g7 z TI TO (rawInt g5.objs.size):=z7;refine wpAny_setField_rec z7 (by simp) fun g8 z8 u8=>?_
 replace z8:IsZip g8 z TI TO (rawInt g5.objs.size):=z8;have up:∀c o,c≠z->g5.get? c=some o->g8.get? c=some o:=fun c o c1 e=>u8.extBut c o c1 (u7.extBut c o c1 (jvl _ e));have p8:IsPair g8 g5.objs.size x y:=u8.extBut _ _ (Nat.ne_of_gt lz) (u7.extBut _ _ (Nat.ne_of_gt lz) (jvn _ rfl));rw[sz]at z8 p8;refine jvd ⟨.ref g5.objs.size,rfl,?_⟩;rw[sz];exact go g8 ⟨z8,up _ _ D.TIz (k5 _ _ D.TIz D.TITO D.TIi1 D.TIi2 ti),⟨x,y,up _ _ D.TOz t5⟩,a5.at (fun o e=>up _ o D.i1z e) (fun o e=>up _ o D.l1z e),b5.at (fun o e=>up _ o D.i2z e) (fun o e=>up _ o D.l2z e)⟩ p8 fun c o c1 c2 c3 c4 e=>up c o c1 (k5 c o c1 c2 c3 c4 e)
theorem jlM {b1 b2:Bool}{z TI TO i1 i2 l1 l2:Addr}{k:Nat}{xs ys:Array Value}{Q:Fin->Shared->Prop}(hh:A.handled=none)(D:ZipApart z TI TO i1 i2 l1 l2)(S:Zs b1 b2 s.heap z TI TO i1 i2 l1 l2 k xs ys .none)(he:xs[k]?=none\/ys[k]?=none)
  (go:∀h' e,(∀c o,c≠z->c≠TO->c≠i1->c≠i2->s.heap.get? c=some o->h'.get? c=some o)->(∃o,h'.get? e=some o/\o.cls=.type "StopIteration")->E (.ref e) { s with heap:=h' }) :
  wpAny (model prog w) A (Builtin.«zip.__next__» ⟨[.ref z],[]⟩) Q E s:=by
 obtain⟨zi,ti,⟨a,b,to_⟩,s1,s2⟩:=S;show wpAny (model prog w) _ (field (.ref z) 2 >>= _) _ _ _;refine jvc (jvi zi rfl (x:=.bool false) rfl ?_);show wpAny (model prog w) _ (field (.ref z) 3 >>= _) _ _ _;refine jvc (jvi zi rfl (x:=.ref TI) rfl (jvc (wpAny_seqItems ti rfl ?_)));show wpAny (model prog w) _ (ownedTupleIsFree (.ref z) >>= _) _ _ _;refine jvc ?_;unfold ownedTupleIsFree;refine jvc (jvi zi rfl (x:=.none) rfl (jvd ?_));simp only[if_true];refine jvc (wpAny_rule (jvc (jvi zi rfl (x:=.ref TO) rfl (jvc (wpAny_setField_rec zi (by simp) fun g1 y1 u1=>?_)))))
 replace y1:IsZip g1 z TI TO .ellipsis:=y1;refine jvc ?_;simp only[List.forIn_cons,List.forIn_nil,List.zipIdx_cons,List.zipIdx_nil];refine jvc (jvc (wpAny_onRaise (show wpAny (model prog w) _ (nextOf (.ref i1) >>= _) _ _ _ from jvc ?_)));have s1':=s1.at (h':=g1) (fun o e=>u1.extBut _ o D.i1z e) fun o e=>u1.extBut _ o D.l1z e;cases hx:xs[k]? with
 |none=>
  refine jhl hh s1' hx fun g2 ea u2 hzz=>?_;obtain⟨oe,q1,q2⟩:=hzz;have z2:IsZip g2 z TI TO .ellipsis:=u2 _ _ D.i1z.symm y1;have ne:ea≠z:=fun q=>by subst q;rw[z2]at q1;cases q1;simp at q2
  exact wpAny_setField_rec z2 (by simp) fun g3 _ u3=>go g3 ea (fun c o c1 _ c3 _ q=>u3.extBut _ _ c1 (u2 _ _ c3 (u1.extBut _ _ c1 q))) ⟨oe,u3.extBut _ _ ne q1,q2⟩
 |some x=>
  have hy:ys[k]?=none:=by
   rcases he with h | h
   ·rw[hx]at h;cases h
   ·exact h
  refine jee s1' D.l1i1 hx fun g2 y2 u2=>jvd ?_;have t2:IsPair g2 TO a b:=u2.extBut _ _ D.TOi1 (u1.extBut _ _ D.TOz to_);refine jvc (wpAny_seqItems t2 rfl (jvc (wpAny_updateSeq_pair t2 fun g3 t3 u3=>jvc (wpAny_letGo (jvd ?_)))));refine jvc (jvc (wpAny_onRaise (show wpAny (model prog w) _ (nextOf (.ref i2) >>= _) _ _ _ from jvc ?_)));refine jhl hh (s2.at (fun o e=>u3.extBut _ o D.TOi2.symm (u2.extBut _ o D.i12.symm (u1.extBut _ o D.i2z e))) fun o e=>u3.extBut _ o D.l2TO (u2.extBut _ o D.l2i1 (u1.extBut _ o D.l2z e))) hy fun g4 ea u4 hzz=>?_;obtain⟨oe,q1,q2⟩:=hzz;have z4:IsZip g4 z TI TO .ellipsis:=u4 _ _ D.i2z.symm (u3.extBut _ _ D.TOz.symm (u2.extBut _ _ D.i1z.symm y1));have ne:ea≠z:=fun q=>by subst q;rw[z4]at q1;cases q1;simp at q2
  exact wpAny_setField_rec z4 (by simp) fun g5 _ u5=>go g5 ea (fun c o c1 c2 c3 c4 q=>u5.extBut _ _ c1 (u4 _ _ c4 (u3.extBut _ _ c2 (u2.extBut _ _ c3 (u1.extBut _ _ c1 q))))) ⟨oe,u5.extBut _ _ ne q1,q2⟩
theorem jh9 {b1 b2:Bool}{z TI TO i1 i2 l1 l2:Addr}{k:Nat}{xs ys:Array Value}{x y:Value}{Q:Option Value->Shared->Prop}(D:ZipApart z TI TO i1 i2 l1 l2)(S:Zs b1 b2 s.heap z TI TO i1 i2 l1 l2 k xs ys .none)(hx:xs[k]?=some x)(hy:ys[k]?=some y)
  (go:∀h',Zs b1 b2 h' z TI TO i1 i2 l1 l2 (k + 1) xs ys (rawInt s.heap.objs.size)->IsPair h' s.heap.objs.size x y->(∀c o,c≠z->c≠TO->c≠i1->c≠i2->s.heap.get? c=some o->h'.get? c=some o)->Q (some (.ref s.heap.objs.size)) { s with heap:=h' }) :
  wpAny (model prog w) A (pyNext (.ref z)) Q E s:=by
 have ty:s.TypeIs (.ref z) "zip":=⟨_,S.zi,rfl⟩;unfold pyNext;exact jvc (wpAny_attempt (wpAny_callSpecial?_slot (name:=Str.ofString "__next__") ty F.slot_zip_next (wpAny_call_entry F.slot_zip_next ty F.entry_zip_next (joA D S hx hy fun h' q1 q2 q3=>jvd (go h' q1 q2 q3)) (F.args_zip_next_1 _))))
theorem jia {b1 b2:Bool}{z TI TO i1 i2 l1 l2:Addr}{k:Nat}{xs ys:Array Value}{Q:Option Value->Shared->Prop}(hh:A.handled=none)(D:ZipApart z TI TO i1 i2 l1 l2)(S:Zs b1 b2 s.heap z TI TO i1 i2 l1 l2 k xs ys .none)(he:xs[k]?=none\/ys[k]?=none)
  (go:∀h',(∀c o,c≠z->c≠TO->c≠i1->c≠i2->s.heap.get? c=some o->h'.get? c=some o)->Q none { s with heap:=h' }):wpAny (model prog w) A (pyNext (.ref z)) Q E s:=by
 have ty:s.TypeIs (.ref z) "zip":=⟨_,S.zi,rfl⟩;unfold pyNext;refine jvc (wpAny_attempt (wpAny_callSpecial?_slot (name:=Str.ofString "__next__") ty F.slot_zip_next (wpAny_call_entry F.slot_zip_next ty F.entry_zip_next (jlM hh D S he fun h' ea hk ⟨o,ho,hc⟩=>?_) (F.args_zip_next_1 _))));exact jvc (wpAny_isInstance (T:="StopIteration") (b:=true) ⟨o,ho,hc⟩ isSubtype_stop (jvd (go _ hk)))
end
end L2
namespace L2
open PySem PySem.Spec PyProof.Rows
noncomputable def itO (b:Bool)(l:Addr):Obj:=if b then { cls:=.type "list_iterator",data:=.fields #[.ref l,.int 0 0] } else { cls:=.type "tuple_iterator",data:=.fields #[.ref l,.int 0 0] }
theorem Sq.push {b:Bool}{h:Heap}{l:Addr}{xs:Array Value}(S:Sq b h l xs)(o:Obj):Sq b (h.push o) l xs:=by
 rcases S with ⟨e,L⟩ | ⟨e,L⟩
 ·exact .inl ⟨e,L.push o⟩
 ·exact .inr ⟨e,L.push o⟩
theorem jjn {prog:Program}{w:World}{A:Around}{E:Value->Shared->Prop}{s:Shared}{b:Bool}{l:Addr}{xs:Array Value}{Q:Value->Shared->Prop}(S:Sq b s.heap l xs)
  (go:Q (.ref s.heap.objs.size) { s with heap:=s.heap.push (itO b l) }):wpAny (model prog w) A (pyIter (.ref l)) Q E s:=by
 rcases S with ⟨e,L⟩ | ⟨e,L⟩
 ·subst e;exact wpAny_pyIter_list L go
 ·subst e;exact wpAny_pyIter_tuple L go
theorem Sit.new {b:Bool}{h h':Heap}{it l:Addr}{xs:Array Value}(S:Sq b h l xs)(e:h'.get? it=some (itO b l))(k:∀o,h.get? l=some o->h'.get? l=some o):Sit b h' it l 0 xs:=by
 rcases S with ⟨z,⟨o,a,r⟩⟩ | ⟨z,⟨o,a,r⟩⟩
 ·subst z;exact .inl ⟨rfl,⟨_,e,rfl,rfl⟩,⟨o,k o a,r⟩⟩
 ·subst z;exact .inr ⟨rfl,⟨_,e,rfl,rfl⟩,⟨o,k o a,r⟩⟩
noncomputable abbrev zA (h:Heap)(b1:Bool)(l1:Addr):Heap:=h.push (itO b1 l1)
noncomputable abbrev zB (h:Heap)(b1 b2:Bool)(l1 l2:Addr):Heap:=(zA h b1 l1).push (itO b2 l2)
noncomputable abbrev zC (h:Heap)(b1 b2:Bool)(l1 l2:Addr):Heap:=(zB h b1 b2 l1 l2).push { cls:=.type "tuple",data:=.seq #[.ref h.objs.size,.ref (zA h b1 l1).objs.size] }
noncomputable abbrev zD (h:Heap)(b1 b2:Bool)(l1 l2:Addr):Heap:=(zC h b1 b2 l1 l2).push { cls:=.type "tuple",data:=.seq #[.none,.none] }
noncomputable abbrev zE (h:Heap)(b1 b2:Bool)(l1 l2:Addr):Heap:=(zD h b1 b2 l1 l2).push { cls:=.type "zip",data:=.fields #[.none,.bool false,.bool false,.ref (zB h b1 b2 l1 l2).objs.size,.ref (zC h b1 b2 l1 l2).objs.size] }
theorem joB (b1 b2:Bool)(l1 l2:Addr)(xs ys:Array Value):Meets (Builtin.«zip.__new__» ⟨[.type "zip",.ref l1,.ref l2],[]⟩) (fun _ R s=>Sq b1 s.heap l1 xs/\Sq b2 s.heap l2 ys/\R (.ok (.ret (.ref (zD s.heap b1 b2 l1 l2).objs.size))) { s with heap:=zE s.heap b1 b2 l1 l2 }):=
 .of_wp fun prog w A R s h=>by
  obtain⟨hp,g,d,tk,os⟩:=s;obtain⟨S1,S2,h⟩:=h;have hsub:=sub_zip;have T1:Sq b1 (Shared.heap ⟨hp,g,d,tk,os⟩) l1 xs:=S1;have T2:Sq b2 (Shared.heap ⟨hp.push (itO b1 l1),g,d,tk,os⟩) l2 ys:=Sq.push S2 _;wp_walk using jjn T1,jjn T2;exact⟨_,rfl,h⟩
section
variable {prog:Program}{w:World}{A:Around}{E:Value->Shared->Prop}{s:Shared}
theorem jlN {b1 b2:Bool}{l1 l2:Addr}{xs ys:Array Value}{Q:Value->Shared->Prop}(S1:Sq b1 s.heap l1 xs)(S2:Sq b2 s.heap l2 ys)
  (go:∀h',Zs b1 b2 h' (s.heap.objs.size + 4) (s.heap.objs.size + 2) (s.heap.objs.size + 3) s.heap.objs.size (s.heap.objs.size + 1) l1 l2 0 xs ys .none->(∀c o,s.heap.get? c=some o->h'.get? c=some o)->Q (.ref (s.heap.objs.size + 4)) { s with heap:=h' }) :
  wpAny (model prog w) A (call (.type "zip") [.ref l1,.ref l2]) Q E s:=by
 refine callType_new F.called_zip (by decide) (F.typeCall_zip_2 _ _) (F.newCall_zip_2 _ _) (fun obj=>F.args_object_init_3 obj _ _) F.entry_zip_new (joB b1 b2 l1 l2 xs ys) ⟨S1,S2,?_⟩
 have n1:(zA s.heap b1 l1).objs.size=s.heap.objs.size + 1:=Heap.size_push ..;have n2:(zB s.heap b1 b2 l1 l2).objs.size=s.heap.objs.size + 2:=by rw[Heap.size_push,n1]
 have n3:(zC s.heap b1 b2 l1 l2).objs.size=s.heap.objs.size + 3:=by rw[Heap.size_push,n2]
 have n4:(zD s.heap b1 b2 l1 l2).objs.size=s.heap.objs.size + 4:=by rw[Heap.size_push,n3]
 have up:∀c o,s.heap.get? c=some o->(zE s.heap b1 b2 l1 l2).get? c=some o:=fun c o e=>jvl _ (jvl _ (jvl _ (jvl _ (jvl _ e))));have g5:(zE s.heap b1 b2 l1 l2).get? (zD s.heap b1 b2 l1 l2).objs.size=some _:=jvn _ rfl;have g4:(zE s.heap b1 b2 l1 l2).get? (zC s.heap b1 b2 l1 l2).objs.size=some _:=jvl _ (jvn _ rfl);have g3:(zE s.heap b1 b2 l1 l2).get? (zB s.heap b1 b2 l1 l2).objs.size=some _:=jvl _ (jvl _ (jvn _ rfl));have g2:(zE s.heap b1 b2 l1 l2).get? (zA s.heap b1 l1).objs.size=some (itO b2 l2):=jvl _ (jvl _ (jvl _ (jvn _ (by cases b2 <;> rfl))))
 have g1:(zE s.heap b1 b2 l1 l2).get? s.heap.objs.size=some (itO b1 l1):=jvl _ (jvl _ (jvl _ (jvl _ (jvn _ (by cases b1 <;> rfl)))))
 show _/\_;rw[n2,n3,n4]at g5;rw[n1,n2]at g3;rw[n3]at g4;rw[n1]at g2;rw[n4];exact⟨⟨_,g5,rfl⟩,go _ ⟨g5,g3,⟨_,_,g4⟩,Sit.new S1 g1 (up l1),Sit.new S2 g2 (up l2)⟩ up⟩
end
noncomputable def SqB (K:PySem.W.Frag)(b:Bool)(H:Hp)(a:Addr)(xs:List V):Prop:=(b=true/\SqL K H a xs)\/(b=false/\SqT K H a xs)
noncomputable def Itz (K:PySem.W.Frag)(b1 b2:Bool)(l1 l2:Addr):It where
 go i H:=∃xs ys x y,SqB K b1 H l1 xs/\SqB K b2 H l2 ys/\xs[i]?=some x/\ys[i]?=some y
 yld i H v H':=∃p x y,v=.ref p/\H p=none/\H'=upd H p (.tup [x,y])/\(∀xs,SqB K b1 H l1 xs->xs[i]?=some x)/\∀ys,SqB K b2 H l2 ys->ys[i]?=some y
 stop i H:=∃xs ys,SqB K b1 H l1 xs/\SqB K b2 H l2 ys/\(xs.length<=i\/ys.length<=i)
section
variable {X:Cx}{pins:List (Addr×Obj)}{σ:St}{H:Hp}{s:Shared}{b:Bool}{a:Addr}{xs ys:List V}
theorem Inv.sqb (I:Inv X pins σ H s)(h:SqB X.K b H a xs):∃its:List Value,Vals xs its/\Sq b s.heap a its.toArray/\xs.length<=sizeLine:=by
 rcases h with ⟨e,h⟩ | ⟨e,h⟩
 ·obtain⟨its,r,p,z⟩:=I.list h;exact⟨its,r,.inl ⟨e,p.isList⟩,z⟩
 ·obtain⟨its,r,p,z⟩:=I.tuple h;exact⟨its,r,.inr ⟨e,p⟩,z⟩
theorem Inv.sqb_inj (I:Inv X pins σ H s)(h:SqB X.K b H a xs)(h':SqB X.K b H a ys):xs=ys:=by
 rcases h with ⟨e,h⟩ | ⟨e,h⟩
 ·rcases h' with ⟨e',h'⟩ | ⟨e',h'⟩
  ·exact I.list_inj h h'
  ·rw[e]at e';cases e'
 ·rcases h' with ⟨e',h'⟩ | ⟨e',h'⟩
  ·rw[e]at e';cases e'
  ·exact I.tuple_inj h h'
theorem Inv.turnedN {h':Heap}{t':Nat}{fp:List Addr}(I:Inv X pins σ H s)(k:∀b o,b ∉ fp->s.heap.get? b=some o->h'.get? b=some o)(hf:∀b∈fp,FpOk X pins H b):Inv X pins σ H { s with heap:=h',toks:=t' }:=by
 have nit:∀b u,H b=some u->b ∉ fp:=fun b u e z=>by rw[(hf b z).1]at e;cases e
 refine I.call' (ch:=fp) rfl ⟨fun b o e _ _ hc=>k b o hc e,fun b o e _ _ hc=>⟨o.slots,k b o hc e⟩,fun _ _ _ n _=>n,fun b o e hc=>⟨o,k b o hc e⟩,fun _ _ e=>e,fun _ _ _ e=>e,fun b ps e=>⟨#[],by rw[e];simp⟩⟩ (fun b u e=>?_) I.bare fun b hb=>?_
 ·refine(I.hok b u e).stay (fun c v hc q=>k c v ?_ q) (fun _ q=>q) fun _ _ q=>q;rcases hc with z | z
  ·rw[z];exact nit b u e
  ·exact nit c _ z
 ·obtain⟨_,f1,_,f3,f4,f5⟩:=hf b hb;exact⟨f3,f1,f4,f5⟩
end
theorem Inv.turnedP {X:Cx}{pins:List (Addr×Obj)}{σ:St}{H:Hp}{s:Shared}{h':Heap}{t':Nat}{fp:List Addr}{x y:V}{u v:Value}(I:Inv X pins σ H s)(k:∀b o,b ∉ fp->s.heap.get? b=some o->h'.get? b=some o)(hf:∀b∈fp,FpOk X pins H b)
  (rx:RelV x u) (ry:RelV y v) (pr:IsPair h' s.heap.objs.size u v):Inv X pins σ (upd H s.heap.objs.size (.tup [x,y])) { s with heap:=h',toks:=t' }:=by
 have hn:H s.heap.objs.size=none:=I.hok.fresh (jvq _);have nit:∀b u,H b=some u->b ∉ fp:=fun b u e z=>by rw[(hf b z).1]at e;cases e
 refine I.call' (ch:=fp) rfl ⟨fun b o e _ _ hc=>k b o hc e,fun b o e _ _ hc=>⟨o.slots,k b o hc e⟩,fun b o e n _=>?_,fun b o e hc=>⟨o,k b o hc e⟩,fun b xs e=>?_,fun b o w e=>?_,fun b ps e=>⟨#[],?_⟩⟩ (fun b w e=>?_) I.bare fun b hb=>?_
 ·rw[jac (jvs (jvm e))];exact n
 ·rw[jac (jab e hn)];exact e
 ·rw[jac (jab e hn)];exact e
 ·rw[jac (jab e hn),e];simp
 ·by_cases hb:b=s.heap.objs.size
  ·subst hb;rw[jaj]at e;cases e;exact⟨by rw[sizeLine_eq];show 2<=16777216;decide,[u,v],.cons rx (.cons ry .nil),_,pr,rfl,_,rfl⟩
  ·rw[jac hb]at e;refine(I.hok b w e).stay (fun c v hc q=>k c v ?_ q) (fun c q=>?_) fun c ts q=>?_
   ·rcases hc with z | z
    ·rw[z];exact nit b w e
    ·exact nit c _ z
   ·rw[jac (jab q hn)];exact q
   ·rw[jac (jab q hn)];exact q
 ·obtain⟨_,f1,_,f3,f4,f5⟩:=hf b hb;exact⟨f3,f1,f4,f5⟩
structure Zi (b1 b2:Bool)(h:Heap)(z TI TO i1 i2 l1 l2:Addr)(k:Nat)(f:Value):Prop where
 zi:IsZip h z TI TO f
 ti:IsPair h TI (.ref i1) (.ref i2)
 to_:∃a b,IsPair h TO a b
 s1:(b1=true/\h.IsListIter i1 l1 k)\/(b1=false/\h.IsTupleIter i1 l1 k)
 s2:(b2=true/\h.IsListIter i2 l2 k)\/(b2=false/\h.IsTupleIter i2 l2 k)
section
variable {b1 b2:Bool}{h h':Heap}{z TI TO i1 i2 l1 l2:Addr}{k:Nat}{f:Value}{xs ys:Array Value}
theorem Zs.zi' (S:Zs b1 b2 h z TI TO i1 i2 l1 l2 k xs ys f):Zi b1 b2 h z TI TO i1 i2 l1 l2 k f:=⟨S.zi,S.ti,S.to_,S.s1.imp (fun q=>⟨q.1,q.2.1⟩) (fun q=>⟨q.1,q.2.1⟩),S.s2.imp (fun q=>⟨q.1,q.2.1⟩) (fun q=>⟨q.1,q.2.1⟩)⟩
theorem jnE {b:Bool}{it l:Addr}(q:(b=true/\h.IsListIter it l k)\/(b=false/\h.IsTupleIter it l k))(S:Sq b h l xs):Sit b h it l k xs:=by
 rcases q with ⟨e,q⟩ | ⟨e,q⟩
 ·rcases S with ⟨e',S⟩ | ⟨e',S⟩
  ·exact .inl ⟨e,q,S⟩
  ·rw[e]at e';cases e'
 ·rcases S with ⟨e',S⟩ | ⟨e',S⟩
  ·rw[e]at e';cases e'
  ·exact .inr ⟨e,q,S⟩
theorem Zi.zs (S:Zi b1 b2 h z TI TO i1 i2 l1 l2 k f)(S1:Sq b1 h l1 xs)(S2:Sq b2 h l2 ys):Zs b1 b2 h z TI TO i1 i2 l1 l2 k xs ys f:=⟨S.zi,S.ti,S.to_,jnE S.s1 S1,jnE S.s2 S2⟩
theorem Zi.at (S:Zi b1 b2 h z TI TO i1 i2 l1 l2 k f)(q:∀b∈[z,TI,TO,i1,i2],∀o,h.get? b=some o->h'.get? b=some o):Zi b1 b2 h' z TI TO i1 i2 l1 l2 k f:=by
 obtain⟨zi,ti,⟨a,b,to_⟩,s1,s2⟩:=S;refine⟨q z (by simp) _ zi,q TI (by simp) _ ti,⟨a,b,q TO (by simp) _ to_⟩,?_,?_⟩
 ·rcases s1 with ⟨e,o,r1,r2⟩ | ⟨e,o,r1,r2⟩
  ·exact .inl ⟨e,o,q i1 (by simp) o r1,r2⟩
  ·exact .inr ⟨e,o,q i1 (by simp) o r1,r2⟩
 ·rcases s2 with ⟨e,o,r1,r2⟩ | ⟨e,o,r1,r2⟩
  ·exact .inl ⟨e,o,q i2 (by simp) o r1,r2⟩
  ·exact .inr ⟨e,o,q i2 (by simp) o r1,r2⟩
theorem jef {b:Bool}{it l:Addr}(q:(b=true/\h.IsListIter it l k)\/(b=false/\h.IsTupleIter it l k)):∃o,h.get? it=some o/\∀v,o.data≠.cell v:=by
 rcases q with ⟨_,o,r1,_,r2⟩ | ⟨_,o,r1,_,r2⟩ <;> exact⟨o,r1,fun v z=>by rw[r2]at z;cases z⟩
end
theorem jlO {P:Program}{w:World}{K:PySem.W.Frag}{es:List Expr}{n:Nat}{pos:Pos}{b1 b2:Bool}{z TI TO i1 i2 l1 l2:Addr}(D:ZipApart z TI TO i1 i2 l1 l2) :
  Turn P w K (.Tuple es n pos) (Itz K b1 b2 l1 l2) [z,TI,TO,i1,i2] z (fun i h=>Zi b1 b2 h z TI TO i1 i2 l1 l2 i .none) where
 mem:=by simp
 obj:=fun i h st b hb=>by
  obtain⟨zi,ti,⟨a,c,to_⟩,s1,s2⟩:=st;simp only[juN,jvb,or_false]at hb;rcases hb with rfl | rfl | rfl | rfl | rfl
  ·exact⟨_,zi,fun v q=>by simp at q⟩
  ·exact⟨_,ti,fun v q=>by simp at q⟩
  ·exact⟨_,to_,fun v q=>by simp at q⟩
  ·exact jef s1
  ·exact jef s2
 keep:=fun i h h' st k=>st.at k
 item:=by
  intro X hP hw hK hc i pins s σ H E I hf st hg;subst hP hw hK;obtain⟨xs,ys,x,y,q1,q2,hx,hy⟩:=hg;obtain⟨as,r1,S1,_⟩:=I.sqb q1;obtain⟨bs,r2,S2,_⟩:=I.sqb q2;obtain⟨u1,hu1,ru1⟩:=r1.get hx;obtain⟨u2,hu2,ru2⟩:=r2.get hy;refine jh9 D (st.zs S1 S2) (x:=u1) (y:=u2) (by simpa using hu1) (by simpa using hu2) fun h1 st1 pr kp=>⟨_,rfl,?_⟩
  refine wpAny_letOwnedTupleGo_zip st1.zi fun h2 zi2 sb2=>?_;have zlt:z < s.heap.objs.size:=jvm st.zi;have kp2:∀b o,b ∉ [z,TI,TO,i1,i2]->s.heap.get? b=some o->h2.get? b=some o:=fun b o hb e=>by
   simp only[juN,jvb,or_false,not_or]at hb;exact sb2.extBut b o hb.1 (kp b o hb.1 hb.2.2.1 hb.2.2.2.1 hb.2.2.2.2 e)
  have pr2:IsPair h2 s.heap.objs.size u1 u2:=sb2.extBut _ _ (Nat.ne_of_gt zlt) pr;have hn:H s.heap.objs.size=none:=I.hok.fresh (jvq _);have I3:Inv X pins σ (upd H s.heap.objs.size (.tup [x,y])) { s with heap:=h2 }:=I.turnedP (t':=s.toks) kp2 hf ru1 ru2 pr2
  have fin:∀b∈[z,TI,TO,i1,i2],b < s.heap.objs.size:=fun b hb=>by
   obtain⟨zi,ti,⟨a,c,to_⟩,s1,s2⟩:=st;simp only[juN,jvb,or_false]at hb;rcases hb with rfl | rfl | rfl | rfl | rfl
   ·exact jvm zi
   ·exact jvm ti
   ·exact jvm to_
   ·obtain⟨o,e,_⟩:=jef s1;exact jvm e
   ·obtain⟨o,e,_⟩:=jef s2;exact jvm e
  have st2:Zi b1 b2 h2 z TI TO i1 i2 l1 l2 (i + 1) .none:=by
   obtain⟨_,ti,⟨a,c,to_⟩,s1,s2⟩:=st1.zi';refine⟨zi2,sb2.extBut _ _ D.TIz ti,⟨a,c,sb2.extBut _ _ D.TOz to_⟩,?_,?_⟩
   ·rcases s1 with ⟨e,o,r1,r2⟩ | ⟨e,o,r1,r2⟩
    ·exact .inl ⟨e,o,sb2.extBut _ _ D.i1z r1,r2⟩
    ·exact .inr ⟨e,o,sb2.extBut _ _ D.i1z r1,r2⟩
   ·rcases s2 with ⟨e,o,r1,r2⟩ | ⟨e,o,r1,r2⟩
    ·exact .inl ⟨e,o,sb2.extBut _ _ D.i2z r1,r2⟩
    ·exact .inr ⟨e,o,sb2.extBut _ _ D.i2z r1,r2⟩
  refine⟨.ref s.heap.objs.size,_,I3,rfl,⟨_,x,y,rfl,hn,rfl,fun xs' q=>?_,fun ys' q=>?_⟩,st2,fun b hb=>?_⟩
  ·rw[I.sqb_inj q q1];exact hx
  ·rw[I.sqb_inj q q2];exact hy
  ·rw[jac (jvs (fin b hb))];exact(hf b hb).1
 done:=by
  intro X hP hw hK hc i pins s σ H E I hf st hg;subst hP hw hK;obtain⟨xs,ys,q1,q2,hl⟩:=hg;obtain⟨as,r1,S1,_⟩:=I.sqb q1;obtain⟨bs,r2,S2,_⟩:=I.sqb q2;have e1:=r1.length;have e2:=r2.length;refine jia (I.ok.hd hc) D (st.zs S1 S2) ?_ fun h' kp=>⟨rfl,I.turnedN (t':=s.toks) (fun b o hb e=>?_) hf⟩
  ·rcases hl with hl | hl
   ·exact .inl (by simp;omega)
   ·exact .inr (by simp;omega)
  ·simp only[juN,jvb,or_false,not_or]at hb;exact kp b o hb.1 hb.2.2.1 hb.2.2.2.1 hb.2.2.2.2 e
 self:=fun _ _ _ _ _ st h=>wpAny_pyIter_zip st.zi h
noncomputable def juo (K:PySem.W.Frag)(ta:TA):TI:=fun σ H R=>ta σ H fun vs H1=>∃l1 l2 b1 b2 xs ys,vs=[.ref l1,.ref l2]/\SqB K b1 H1 l1 xs/\SqB K b2 H1 l2 ys/\(xs.length<=sizeLine->ys.length<=sizeLine->R (Itz K b1 b2 l1 l2) H1)
theorem jq5 {X:Cx}{es:List Expr}{n:Nat}{pos':Pos}{a b:Expr}{ta:TA}{p pos:Pos}(hg:Gl X "zip")(hm:X.mg "zip"=none)(ha:PA X [a,b] ta)(hs:starEach [a,b] X.env=(false,eval a X.env)::starEach [b] X.env)(hs2:(backTo pos (starEach [b] X.env)).any (·.1)=false) :
  PI X (.Tuple es n pos') (.Call (.Name "zip" p) [a,b] [] pos) (juo X.K ta):=by
 intro pins s σ H R I h;have hv:bootBuiltins "zip"=some (.type "zip"):=by decide +kernel
 refine wpAny_Call_Name_kw (je8 I hg hm hv ?_ (by decide) (by decide))
 refine PyProof.Rows.callWith_type1 (thn (ha pos pins s σ H _ I h) fun us s1 ⟨vs,H1,I1,r1,q1⟩=>?_) hs hs2;obtain⟨l1,l2,b1,b2,xs,ys,rfl,q1,q2,q⟩:=q1;cases r1 with
 |cons r rr=>
  cases rr with
  |cons r' rr=>
   cases rr;cases r;cases r';obtain⟨as,v1,S1,z1⟩:=I1.sqb q1;obtain⟨bs,v2,S2,z2⟩:=I1.sqb q2;refine jlN S1 S2 fun h' st kp=>?_;refine wpAny_pyIter_zip st.zi ?_;have n1:l1 < s1.heap.objs.size:=by
    rcases S1 with ⟨_,o,e,_⟩ | ⟨_,o,e,_⟩ <;> exact jvm e
   have n2:l2 < s1.heap.objs.size:=by
    rcases S2 with ⟨_,o,e,_⟩ | ⟨_,o,e,_⟩ <;> exact jvm e
   refine⟨_,_,_,_,H1,rfl,I1.kept (t':=s1.toks) kp,jlO (zipApart_new n1 n2),st.zi',fun b hb=>?_,q z1 z2⟩;have hb':s1.heap.objs.size<=b:=by
    simp only[juN,jvb,or_false]at hb;rcases hb with rfl | rfl | rfl | rfl | rfl
    ·exact Nat.le_add_right _ _
    ·exact Nat.le_add_right _ _
    ·exact Nat.le_add_right _ _
    ·exact jvq _
    ·exact Nat.le_add_right _ _
   exact I1.fpOk hb' (I1.hok.fresh hb')
end L2
namespace L2
open PySem PySem.Spec PyProof.Rows
noncomputable def SubH (h h':Heap):Prop:=∀b o,h.get? b=some o->h'.get? b=some o
theorem SubH.refl {h:Heap}:SubH h h:=fun _ _ e=>e
theorem SubH.trans {h h1 h2:Heap}(a:SubH h h1)(b:SubH h1 h2):SubH h h2:=fun c o e=>b c o (a c o e)
theorem SubH.push {h:Heap}(o:Obj):SubH h (h.push o):=fun _ _ e=>jvl _ e
structure Itb (prog:Program)(w:World)(A:Around)(it:Value)(T:String)(h:Heap)(n:Nat)(P:Nat->Value->Prop)(wr0:List Addr):Prop where
 nl:T≠"list"
 nt:T≠"tuple"
 ty:∀s:Shared,SubH h s.heap->s.TypeIs it T
 ref:∀a,it=.ref a->a < h.objs.size
 iter:∀(s:Shared) (S:Addr) (Q E:Value->Shared->Prop),SubH h s.heap->h.objs.size<=S->S < s.heap.objs.size ->
  (∀(I:Addr) (fp wr:List Addr) (St:Nat->Heap->Prop) (h':Heap) (tk:Nat) (dr:Drawn),s.toks<=tk->SubH s.heap h'->Walks prog w A I fp wr n P St->St 0 h'->S ∉ fp->(∀b∈wr,b∈wr0\/s.heap.objs.size<=b)->Q (.ref I) { s with heap:=h',toks:=tk,drawn:=dr }) ->
  wpAny (model prog w) A (pyIter it) Q E s
 hint:∀(s:Shared) (Q:Bool->Shared->Prop) (E:Value->Shared->Prop),SubH h s.heap->(∀b tk,s.toks<=tk->Q b { s with toks:=tk })->wpAny (model prog w) A (Builtin.List.listLengthHint it) Q E s
structure Bhd (wr0:List Addr)(S:Addr)(s s':Shared):Prop where
 heap:∀b o,b≠S->b ∉ wr0->s.heap.get? b=some o->s'.heap.get? b=some o
 gens:s'.gens=s.gens
 os:s'.os=s.os
section
variable {prog:Program}{w:World}{A:Around}{it:Value}{T:String}{h:Heap}{n:Nat}{P:Nat->Value->Prop}{wr0:List Addr}
theorem jjo {s:Shared}{R:Result->Shared->Prop}(Y:Itb prog w A.in1 it T h n P wr0)(hh:SubH h s.heap)(hn:n<=sizeLine)(S:Addr)(res:Value)(c₀:Nat)(hS0:h.objs.size<=S)
  (hS:s.heap.get? S=some { cls:=Value.type "list",data:=Data.seq #[] c₀ })
  (hR:∀(s':Shared) (acc':Array Value) (c':Nat),Bhd wr0 S s s'->s'.heap.get? S=some { cls:=Value.type "list",data:=Data.seq acc' c' }->ItemsOf P acc' n->R (Except.ok (Flow.ret res)) s') :
  wpAny (model prog w) A.in1 (Builtin.List.listExtendWith (Value.ref S) it res)
   (fun fin s'=>match fin with
    |Fin.done f=>R (Except.ok f) s'
    |Fin.again c'=>c'.quiet=true/\codeAny (model prog w) A c' R s')
   (fun e s'=>R (Except.error e) s') s:=by
 have hsame:Builtin.List.listSameRef (Value.ref S) it=false:=by
  cases it <;> try rfl
  rename_i a;have:=Y.ref a rfl;simp only[Builtin.List.listSameRef];exact beq_eq_false_iff_ne.mpr (Nat.ne_of_gt (jvr this hS0))
 have htl:(Value.type T == Value.type "list")=false:=by
  rw[beq_eq_false_iff_ne];intro z;injection z with z;exact Y.nl z
 have htt:(Value.type T == Value.type "tuple")=false:=by
  rw[beq_eq_false_iff_ne];intro z;injection z with z;exact Y.nt z
 unfold Builtin.List.listExtendWith;refine jvc (wpAny_typeOf (Y.ty s hh) ?_);rw[hsame,htl,htt];refine jve rfl ?_;refine jvc (Y.iter s S _ _ hh hS0 (jvm hS) fun I fp wr St h' tk dr htk hsub W hst hSf hwr=>?_);refine jvc (jvh (Y.hint _ _ _ (hh.trans hsub) fun b tk2 htk2=>?_));have hS1:h'.get? S=some { cls:=Value.type "list",data:=Data.seq #[] c₀ }:=hsub S _ hS;have fin:∀(s1:Shared) (c:Nat),s1.gens=s.gens->s1.os=s.os->(∀b o,b≠S->h'.get? b=some o->s1.heap.get? b=some o)->s1.heap.get? S=some { cls:=Value.type "list",data:=Data.seq #[] c } ->
   codeAny (model prog w) A (Code.builtin "list.extend.loop" { pos:=[Value.ref S,Value.ref I,res] }) R s1:=fun s1 c hg ho hk hS2=>by
  refine codeAny_extend_loopS W.toS hn S hSf res n 0 s1 #[] c rfl (Nat.zero_le _) (W.frame 0 h' s1.heap hst fun b hb o e=>hk b o (fun z=>hSf (z ▸ hb)) e) hS2 ⟨rfl,fun j v e=>by simp at e⟩ fun s' acc' c' hm hS' hit=>?_
  refine hR s' acc' c' ⟨fun b o hb hw e=>hm.heap b o ?_ (hk b o hb (hsub b o e)),hm.gens.trans hg,hm.os.trans ho⟩ hS' hit;intro z;rcases List.mem_cons.mp z with z | z
  ·exact hb z
  ·rcases hwr b z with z | z
   ·exact hw z
   ·exact absurd (jvm e) (Nat.not_lt.mpr z)
 have go:∀(s1:Shared) (c:Nat),s1.gens=s.gens->s1.os=s.os->(∀b o,b≠S->h'.get? b=some o->s1.heap.get? b=some o)->s1.heap.get? S=some { cls:=Value.type "list",data:=Data.seq #[] c } ->
   wpAny (model prog w) A.in1 (again (Code.builtin "list.extend.loop" { pos:=[Value.ref S,Value.ref I,res] }))
   (fun fin s'=>match fin with
    |Fin.done f=>R (Except.ok f) s'
    |Fin.again c'=>c'.quiet=true/\codeAny (model prog w) A c' R s')
   (fun e s'=>R (Except.error e) s') s1:=fun s1 c hg ho hk hS2=>jvd ⟨plainId_quiet F.plain_extend_loop _,fin s1 c hg ho hk hS2⟩
 split
 ·refine jvc (wpAny_rule ?_);refine jvc ?_;unfold Builtin.List.listTouch;refine jvc (listUpdate_at hS1 rfl ?_ (by simp[sizeLine_eq]) (by simp[sizeLine_eq]))
  have e1:=jvo (Obj.mapSeq fun x=>x.push Value.none) hS1 rfl;refine listUpdate_at e1 rfl ?_ (by simp[sizeLine_eq]) (by simp[sizeLine_eq])
  have e2:=jvo (Obj.mapSeq fun x=>x.pop) e1 rfl;refine go _ _ rfl rfl (fun b o hb e=>?_) e2;exact(jvp _ _ (Ne.symm hb)).trans ((jvp _ _ (Ne.symm hb)).trans e)
 ·exact go _ c₀ rfl rfl (fun b o _ e=>e) hS1
theorem jdL {s:Shared}{Q:List Value->Shared->Prop}{E:Value->Shared->Prop}(Y:Itb prog w A.in1 it T s.heap n P wr0)(hn:n<=sizeLine)
  (hQ:∀(s':Shared) (acc:Array Value),(∀b o,b ∉ wr0->s.heap.get? b=some o->s'.heap.get? b=some o)->s.heap.objs.size<=s'.heap.objs.size->s'.gens=s.gens->s'.os=s.os->ItemsOf P acc n->Q acc.toList s') :
  wpAny (model prog w) A (collect it) Q E s:=by
 unfold collect;refine jvc (wpAny_runValue (codeAny_builtin F.entry_proto_collect ?_));rw[Around.under_plainId F.plain_proto_collect];unfold Builtin.«proto.collect» newList;refine jvc (jvg (jvd ⟨plainId_quiet F.plain_list_iadd _,codeAny_builtin F.entry_list_iadd ?_⟩) (by simp[sizeOk]))
 rw[Around.under_plainId F.plain_list_iadd];unfold Builtin.«list.__iadd__»;show wpAny (model prog w) A.in1 (Builtin.List.listExtendWith (Value.ref s.heap.objs.size) it (Value.ref s.heap.objs.size)) _ _ _;have hS:=jvn s.heap (o:={ cls:=Value.type "list",data:=Data.seq #[] }) rfl;refine jjo (R:=fun r s'=>match r with
   |Except.ok (Flow.ret v)=>wpAny (model prog w) A (match v with
     |Value.ref a=>do
      let __do_lift <-load a
      match __do_lift.data with
       |Data.seq xs epoch=>pure xs.toList
       |x=>unsupported "internal:collect"
     |x=>unsupported "internal:collect") Q E s'
   |Except.ok _=>False
   |Except.error e=>E e s') Y (SubH.push _) hn _ _ _ (jvq _) hS fun s' acc' c' bh hS' hit=>?_
 refine jvc (wpAny_load hS' (jvd ?_));exact hQ s' acc' (fun b o hb e=>bh.heap b o (jvs (jvm e)) hb (jvl _ e)) (Nat.le_of_lt (jvm hS')) bh.gens bh.os hit
theorem jcb {s:Shared}{Q E:Value->Shared->Prop}(Y:Itb prog w A.in1.in1.in1 it T s.heap n P wr0)(hn:n<=sizeLine)
  (hQ:∀(s':Shared) (acc:Array Value),(∀b o,b ∉ wr0->s.heap.get? b=some o->s'.heap.get? b=some o)->s.heap.objs.size<=s'.heap.objs.size->s'.gens=s.gens->s'.os=s.os->ItemsOf P acc n ->
   Q (.ref s'.heap.objs.size) { s' with heap:=s'.heap.push { cls:=Value.type "tuple",data:=Data.seq acc } }) :
  wpAny (model prog w) A (call (Value.type "tuple") [it]) Q E s:=by
 refine callType_codes (Q₁:=fun obj s₁=>s₁.TypeIs obj "tuple"/\Q obj s₁) F.called_tuple (F.typeCall_tuple_1 it) F.entry_object_init ?_ fun obj s₁ h₁=>⟨h₁.1,F.args_object_init_2 obj it,object_init_meets F.called_tuple.init.lookup F.called_tuple.made (by decide) prog w A.in1 (wants (fun r s₂=>r=Value.none/\Q obj s₂) E) s₁ ⟨h₁.1,rfl,h₁.2⟩⟩
 refine codeAny_of_tree ?_;refine jvc (jvf (F.newCall_tuple_1 it) (jvd ⟨plainId_quiet F.plain_tuple_new _,codeAny_builtin F.entry_tuple_new ?_⟩));rw[Around.under_plainId F.plain_tuple_new];unfold Builtin.«tuple.__new__»;refine jvc ?_;refine jvd ?_;refine jve rfl ?_;refine jvc (jvf sub_tuple_self (jve rfl ?_));refine jve rfl ?_;refine jvc (jvf madeHere_tuple ?_);refine jvc (jvf init_tuple_lookup (wpAny_ite_true rfl ?_));refine jvc ?_;refine wpAny_ite_true rfl (jvd ?_);refine jvc ?_;unfold checkCount;refine jve rfl ?_;refine jve rfl ?_;refine jvd ?_;refine wpAny_ite_true rfl ?_;refine jvc ?_;unfold Builtin.Tuple.tupleIsExact;refine jvc (wpAny_typeOf (Y.ty s SubH.refl) (jvd ?_));refine jve (by
  rw[decide_eq_false_iff_not];intro z;have z:=beq_iff_eq.mp z;injection z with z
  exact Y.nt z) ?_
 refine jvc (jdL Y hn fun s' acc hk hle hg ho hit=>?_);refine jvc (jvd ?_);refine jvc ?_;unfold Builtin.Tuple.tupleExact;rw[Array.toArray_toList];refine jvg (jvd ?_) (by show acc.size<=sizeLine;rw[hit.1];exact hn)
 exact⟨⟨_,jvn s'.heap rfl,rfl⟩,hQ s' acc hk hle hg ho hit⟩
theorem jlP:typeLookup (Value.type "list_reverseiterator") (Str.ofString "__len__")=pure none:=by rfl
theorem joC:typeLookup (Value.type "list_reverseiterator") (Str.ofString "__length_hint__")=pure (some (Value.builtin "list_reverseiterator.__length_hint__")):=by rfl
theorem jq6:isSubtype (Value.type "list_reverseiterator") (Value.type "list_reverseiterator")=pure true:=by rfl
theorem joD {s:Shared}{l I:Addr}{items:Array Value}{A:Around}(hA:A.handled=none)(hI:s.heap.IsRevIter I l ((items.size:Int) - 1))(hl:s.heap.IsList l items)(ne:l≠I) :
  Itb prog w A (.ref I) "list_reverseiterator" s.heap items.size (fun i v=>items[items.size - 1 - i]?=some v) [I] where
 nl:=by decide
 nt:=by decide
 ty:=fun s' k=>by
  obtain⟨o,e,c⟩:=hI.typeIs;exact⟨o,k _ _ e,c⟩
 ref:=fun a z=>by
  cases z;obtain⟨o,e,c⟩:=hI.typeIs;exact jvm e
 iter:=fun s' S Q E k h1 h2 q=>by
  have W:=Walks.listRev (prog:=prog) (w:=w) hA I l ne items;obtain⟨o1,e1,c1,d1⟩:=hI;obtain⟨o2,e2,c2⟩:=hl;have st:0<=items.size/\s'.heap.IsRevIter I l ((items.size:Int) - 1 - (0:Nat))/\s'.heap.IsList l items:=⟨Nat.zero_le _,⟨o1,k _ _ e1,c1,by simpa using d1⟩,o2,k _ _ e2,c2⟩
  refine W.self 0 s' Q E st (q I _ _ _ s'.heap s'.toks s'.drawn (jvq _) SubH.refl W st (fun z=>?_) fun b hb=>.inl hb);rcases List.mem_cons.mp z with rfl | z
  ·exact absurd (jvm e1) (Nat.not_lt.mpr h1)
  ·have:S=l:=by simpa using z
   subst this;exact absurd (jvm e2) (Nat.not_lt.mpr h1)
 hint:=fun s' Q E k q=>by
  obtain⟨o1,e1,c1,d1⟩:=hI;have ty:s'.TypeIs (.ref I) "list_reverseiterator":=⟨o1,k _ _ e1,c1⟩;unfold Builtin.List.listLengthHint;refine jvc (wpAny_specialOf ty jlP ?_);refine jve rfl ?_;refine jve rfl ?_;refine jvc (wpAny_specialOf ty joC ?_);refine jvc (wpAny_isInstance ty jq6 ?_);refine jve rfl ?_;refine wpAny_ite_true rfl ?_;refine jve rfl ?_;exact jvd (q false s'.toks (jvq _))
end
end L2
namespace L2
open PySem PySem.Spec PyProof.Rows
noncomputable def del (H:Hp)(b:Addr):Hp:=fun a=>if a=b then none else H a
theorem jb0 {H:Hp}{b a:Addr}(h:a≠b):del H b a=H a:=if_neg h
theorem jlQ {H:Hp}{b:Addr}:del H b b=none:=if_pos rfl
theorem jeg {H:Hp}{b:Addr}{o:HO}(h:H b=none):del (upd H b o) b=H:=by
 funext a
 unfold del upd;by_cases e:a=b
 ·simp[e,h]
 ·simp[e]
section
variable {X:Cx}{pins:List (Addr×Obj)}{σ:St}{H:Hp}{s:Shared}
theorem Inv.gone (I:Inv X pins σ H s){b:Addr}{φ:Heap->Prop}(hb:H b=some (.ext φ))(h0:X.s₀.heap.objs.size<=b){s':Shared}(k:∀c o,c≠b->s.heap.get? c=some o->s'.heap.get? c=some o)(hg:s'.gens=s.gens)(ho:s'.os=s.os):Inv X pins σ (del H b) s':=by
 have ne0:∀c o,X.s₀.heap.get? c=some o->c≠b:=fun c o e=>jvs (jvr (jvm e) h0);have neN:∀c,H c=none->c≠b:=fun c e z=>by rw[z,hb]at e;cases e
 refine⟨I.ok,ho.trans I.os,by rw[hg];exact I.bare,⟨fun c o e n h1 h2=>k c o (ne0 c o e) (I.base.keep c o e n h1 h2),fun c o e n h1 h2=>?_,fun c o e n h1=>?_,fun c o e h1=>?_,fun c xs e=>?_,fun c o u e=>?_,fun c ps e=>?_⟩,?_,fun x c e=>?_,?_,fun x c e=>?_,fun p hp=>?_,fun a o e=>?_,I.len⟩
 ·obtain⟨sl,q⟩:=I.base.slot c o e n h1 h2;exact⟨sl,k c _ (ne0 c o e) q⟩
 ·rw[jb0 (ne0 c o e)];exact I.base.free c o e n h1
 ·obtain⟨o',q⟩:=I.base.there c o e h1;exact⟨o',k c _ (ne0 c o e) q⟩
 ·have q:=I.base.tups c xs e;rw[jb0 (fun z=>by rw[z,hb]at q;cases q)];exact q
 ·have q:=I.base.frzs c o u e;rw[jb0 (fun z=>by rw[z,hb]at q;cases q)];exact q
 ·obtain⟨m,q⟩:=I.base.tbls c ps e;exact⟨m,by rw[jb0 (fun z=>by rw[z,hb]at q;cases q)];exact q⟩
 ·obtain⟨m,hn,hl⟩:=I.loc;obtain⟨o,es,ep,e1,e2,e3,e4⟩:=hn;refine⟨m,⟨o,es,ep,k _ _ (neN _ I.free) e1,e2,e3,e4⟩,fun i x v h1 h2 h3=>?_⟩;obtain⟨u,r,lk⟩:=hl i x v h1 h2 h3;refine⟨u,r,lk.imp id fun ⟨h4,c,h5,o,h6⟩=>⟨h4,c,h5,o,k _ _ (neN _ (I.freeC x c h5)) h6.1,h6.2⟩⟩
 ·obtain⟨v,o,h6⟩:=I.cell x c e;exact⟨v,o,k _ _ (neN _ (I.freeC x c e)) h6.1,h6.2⟩
 ·rw[jb0 (neN _ I.free)];exact I.free
 ·rw[jb0 (neN _ (I.freeC x c e))];exact I.freeC x c e
 ·obtain⟨h1,h2,h3⟩:=I.pin p hp;exact⟨k _ _ (neN _ h2) h1,by rw[jb0 (neN _ h2)];exact h2,h3⟩
 ·have hne:a≠b:=fun z=>by rw[z,jlQ]at e;cases e
  rw[jb0 hne]at e;refine(I.hok a o e).stay (fun c u hc q=>k c u (fun z=>?_) q) (fun c hc=>?_) fun c xs hc=>?_
  ·rcases hc with hc | hc
   ·exact hne (hc.symm.trans z)
   ·rw[z,hb]at hc;cases hc
  ·rw[jb0 (fun z=>by rw[z,hb]at hc;cases hc)];exact hc
  ·rw[jb0 (fun z=>by rw[z,hb]at hc;cases hc)];exact hc
theorem Inv.track (I:Inv X pins σ H s){a:Addr}{o:HO}(hn:H a=none)(h0:X.s₀.heap.objs.size<=a)(hL:a≠X.env.locals)(hC:∀x c,X.env.cells.lookup x=some c->c≠a)(hP:∀p∈X.pn++pins,p.1≠a)(new:ObjOk X.prog X.w (upd H a o) s.heap a o):Inv X pins σ (upd H a o) s:=by
 have ne0:∀c o,X.s₀.heap.get? c=some o->c≠a:=fun c o e=>jvs (jvr (jvm e) h0);refine⟨I.ok,I.os,I.bare,⟨I.base.keep,I.base.slot,fun c u e n h1=>?_,I.base.there,fun c xs e=>?_,fun c u v e=>?_,fun c ps e=>?_⟩,I.loc,I.cell,?_,fun x c e=>?_,fun p hp=>?_,fun b u e=>?_,I.len⟩
 ·rw[jac (ne0 c u e)];exact I.base.free c u e n h1
 ·have q:=I.base.tups c xs e;rw[jac (jab q hn)];exact q
 ·have q:=I.base.frzs c u v e;rw[jac (jab q hn)];exact q
 ·obtain⟨m,q⟩:=I.base.tbls c ps e;exact⟨m,by rw[jac (jab q hn)];exact q⟩
 ·rw[jac (Ne.symm hL)];exact I.free
 ·rw[jac (hC x c e)];exact I.freeC x c e
 ·obtain⟨h1,h2,h3⟩:=I.pin p hp;exact⟨h1,by rw[jac (hP p hp)];exact h2,h3⟩
 ·by_cases hb:b=a
  ·subst hb;rw[jaj]at e;cases e;exact new
  ·rw[jac hb]at e;exact(I.hok b u e).stay (fun c v _ q=>q) (fun c q=>by rw[jac (jab q hn)];exact q) fun c xs q=>by rw[jac (jab q hn)];exact q
theorem Inv.above (I:Inv X pins σ H s):X.s₀.heap.objs.size<=s.heap.objs.size:=by
 obtain⟨m,hn,_⟩:=I.loc;exact jvt I.ok.above (Nat.le_of_lt hn.lt)
theorem Inv.new (I:Inv X pins σ H s){a:Addr}(ha:s.heap.objs.size<=a):X.s₀.heap.objs.size<=a/\a≠X.env.locals/\(∀x c,X.env.cells.lookup x=some c->c≠a)/\(∀p∈X.pn++pins,p.1≠a)/\H a=none:=by
 refine⟨jvt I.above ha,fun z=>?_,fun x c e z=>?_,fun p hp z=>?_,I.hok.fresh ha⟩
 ·obtain⟨m,hn,_⟩:=I.loc;rw[z]at ha;exact jvu _ (jvr hn.lt ha)
 ·obtain⟨v,o,h6,_⟩:=I.cell x c e;rw[<-z]at ha;exact jvu _ (jvr (jvm h6) ha)
 ·have h6:=(I.pin p hp).1;rw[<-z]at ha;exact jvu _ (jvr (jvm h6) ha)
theorem Inv.goneLaid (I:Inv X pins σ H s){b a:Addr}{φ:Heap->Prop}{o:HO}(hb:H b=some (.ext φ))(h0:X.s₀.heap.objs.size<=b){s':Shared}(k:∀c o,c≠b->s.heap.get? c=some o->s'.heap.get? c=some o)(hg:s'.gens=s.gens)(ho:s'.os=s.os)(ha:s.heap.objs.size<=a)(new:ObjOk X.prog X.w (upd (del H b) a o) s'.heap a o):Inv X pins σ (upd (del H b) a o) s':=by
 obtain⟨n0,n1,n2,n3,n4⟩:=I.new ha;exact(I.gone hb h0 k hg ho).track (by unfold del;split <;> first | rfl | exact n4) n0 n1 n2 n3 new
noncomputable def jjp (X:Cx)(I p:Addr)(n:Nat):Heap->Prop:=fun h=>h.IsRevIter I p ((n:Int) - 1)/\X.s₀.heap.objs.size<=I/\p≠I
theorem jdA:CallR X (.type "reversed") (fun xs H Q=>∃p ys,xs=[.ref p]/\SqL X.K H p ys/\∀I,H I=none->Q (.ref I) (upd H I (.ext (jjp X I p ys.length)))):=by
 intro pins s σ H xs us Q I r h;obtain⟨p,ys,rfl,hq,q⟩:=h;obtain⟨u,rfl,rx⟩:=jcz r;cases rx;obtain⟨its,r',pl,hz⟩:=I.list hq;have hlen:=r'.length;refine call_reversed_list pl.isList ?_;have hp:p≠s.heap.objs.size:=by obtain⟨o,n,e,_⟩:=pl;exact jvs (jvm e)
 refine⟨.ref s.heap.objs.size,_,I.laid (t':=s.toks) (o:=.ext (jjp X s.heap.objs.size p ys.length)) (fun b o e=>jvl _ e) (jvq _) ⟨⟨⟨_,jvn s.heap rfl,rfl,?_⟩,I.above,hp⟩,⟨_,jvn s.heap rfl⟩,?_⟩,rfl,q _ (I.hok.fresh (jvq _))⟩
 ·rw[juO,<-hlen];rfl
 ·rintro h1 h2 ⟨⟨o,e,c⟩,z⟩ k;exact⟨⟨o,k _ e,c⟩,z⟩
theorem jfk {its:List Value}{acc:Array Value}(h:ItemsOf (fun i v=>its.toArray[its.toArray.size - 1 - i]?=some v) acc its.toArray.size):acc.toList=its.reverse:=by
 obtain⟨h1,h2⟩:=h;simp only[juO]at h1 h2;apply List.ext_getElem?;intro i;by_cases hi:i < acc.size
 ·have:=h2 i acc[i] (by simp[hi])
  rw[List.getElem?_reverse (by omega)]
  rw[Array.getElem?_toList,Array.getElem?_eq_getElem hi];simpa using this.symm
 ·rw[ju0 (by simp;omega),ju0]
  simp;omega
theorem jdB (hc:X.calm=true):CallR X (.type "tuple") (fun xs H Q=>∃I p ys,xs=[.ref I]/\H I=some (.ext (jjp X I p ys.length))/\SqL X.K H p ys/\∀l,del H I l=none->Q (.ref l) (upd (del H I) l (.tup ys.reverse))):=by
 intro pins s σ H xs us Q I r h;obtain⟨J,p,ys,rfl,hJ,hq,q⟩:=h;obtain⟨u,rfl,rx⟩:=jcz r;cases rx;obtain⟨its,r',pl,hz⟩:=I.list hq;have hlen:=r'.length;obtain⟨⟨hr,h0,hne⟩,_,_⟩:=I.hok J _ hJ;have hA:X.A.in1.in1.in1.handled=none:=I.ok.hd hc;have hsz:its.toArray.size=ys.length:=by rw[juO];exact hlen.symm
 refine jcb (joD (items:=its.toArray) hA (by rw[hsz];exact hr) pl.isList hne) (by rw[hsz];exact hz) fun s' acc kp hle hg ho it=>?_
 have ea:=jfk it;have ha:acc=its.reverse.toArray:=by rw[<-ea]
 refine⟨.ref s'.heap.objs.size,_,I.goneLaid (o:=.tup ys.reverse) (s':={ s' with heap:=s'.heap.push { cls:=Value.type "tuple",data:=Data.seq acc } }) hJ h0 (fun c o z e=>jvl _ (kp c o (by simpa using z) e)) hg ho hle ⟨by simpa using hz,its.reverse,r'.reverse,by rw[ha];exact IsTup.new _ _⟩,rfl,q _ ?_⟩
 unfold del;split
 ·rfl
 ·exact I.hok.fresh hle
end
end L2
namespace RT
open PySem PySem.Spec PyProof.Rows L2
theorem jeh:Manifest.owners.lookup (String.ofList ['d','e','s','r','e','v','e','r'].reverse)=some Manifest.sig_reversed:=by kernel_rfl
theorem slot_next:Slot "reversed" "__next__" "reversed.__next__":=
 .of (owner:="reversed") (n:="__next__") (by rw[typeLookup_type,builtinLookup_eq_fast];kernel_rfl) (by decide +kernel) (by decide +kernel) (by decide +kernel)
  (by first | exact .inl (by decide +kernel) | exact .inr (by decide +kernel)) (by rw[isSubtype_type];kernel_rfl)
theorem jdM:entryFor table "reversed.__next__"=some Builtin.«reversed.__next__»:=entryFor_of_tree (by kernel_rfl)
theorem jfl (a:Value):argsOk "reversed.__next__" ⟨[a],[]⟩:=by
 unfold argsOk;rw[signature?_of (id:="reversed.__next__") (n:=['_','_','t','x','e','n','_','_']) (o:=['d','e','s','r','e','v','e','r']) (by kernel_rfl) jeh];kernel_rfl
theorem jfm:Slot "reversed" "__iter__" "reversed.__iter__":=
 .of (owner:="reversed") (n:="__iter__") (by rw[typeLookup_type,builtinLookup_eq_fast];kernel_rfl) (by decide +kernel) (by decide +kernel) (by decide +kernel)
  (by first | exact .inl (by decide +kernel) | exact .inr (by decide +kernel)) (by rw[isSubtype_type];kernel_rfl)
theorem jjq (a:Value):argsOk "reversed.__iter__" ⟨[a],[]⟩:=by
 unfold argsOk;rw[signature?_of (id:="reversed.__iter__") (n:=['_','_','r','e','t','i','_','_']) (o:=['d','e','s','r','e','v','e','r']) (by kernel_rfl) jeh];kernel_rfl
theorem jib:entryFor table "reversed.__iter__"=some Builtin.«dict_keyiterator.__iter__»:=
 entryFor_alias (id':="dict_keyiterator.__iter__") (by kernel_rfl) (by first | rfl | decide +kernel | (unfold String.splitOn;simp +decide [String.splitOnAux])) (by decide +kernel) (by kernel_rfl)
theorem slot_hint:Slot "reversed" "__length_hint__" "reversed.__length_hint__":=
 .of (owner:="reversed") (n:="__length_hint__") (by rw[typeLookup_type,builtinLookup_eq_fast];kernel_rfl) (by decide +kernel) (by decide +kernel) (by decide +kernel)
  (by first | exact .inl (by decide +kernel) | exact .inr (by decide +kernel)) (by rw[isSubtype_type];kernel_rfl)
theorem jic:entryFor table "reversed.__length_hint__"=some Builtin.«reversed.__length_hint__»:=entryFor_of_tree (by kernel_rfl)
theorem jjr (a:Value):argsOk "reversed.__length_hint__" ⟨[a],[]⟩:=by
 unfold argsOk;rw[signature?_of (id:="reversed.__length_hint__") (n:=['_','_','t','n','i','h','_','h','t','g','n','e','l','_','_']) (o:=['d','e','s','r','e','v','e','r']) (by kernel_rfl) jeh];kernel_rfl
theorem jq7:typeLookup (Value.type "tuple") (Str.ofString "__reversed__")=pure none:=by rfl
theorem jq8:typeLookup (Value.type "reversed") (Str.ofString "__len__")=pure none:=by rfl
theorem jlR:isSubtype (Value.type "tuple") (Value.type "dict")=pure false:=by rfl
theorem jq9:isSubtype (.type "reversed") (.type "reversed")=pure true:=by rw[isSubtype_type];kernel_rfl
theorem jjs:Slot "reversed" "__init__" "object.__init__":=
 .of (owner:="object") (n:="__init__") (by rw[typeLookup_type,builtinLookup_eq_fast];kernel_rfl) (by decide +kernel) (by decide +kernel) (by decide +kernel)
  (by first | exact .inl (by decide +kernel) | exact .inr (by decide +kernel)) (by rw[isSubtype_type];kernel_rfl)
theorem called:TypeCalled "reversed" "reversed.__new__" "object.__init__":=
 ⟨by decide +kernel,by decide +kernel,⟨_,_,PySem.F.mro_reversed⟩,PySem.F.made_reversed,by decide +kernel,PySem.F.sub_reversed_self,jjs⟩
end RT
namespace RT
open PySem PySem.Spec PyProof.Rows L2
noncomputable def obj (l:Addr)(i:Int):Obj:={ cls:=.type "reversed",data:=.fields #[.ref l,rawInt i] }
noncomputable def IsRv (h:Heap)(a l:Addr)(i:Int):Prop:=∃o,h.get? a=some o/\o.cls=.type "reversed"/\o.data=.fields #[.ref l,rawInt i]
section
variable {prog:Program}{w:World}{A:Around}{E:Value->Shared->Prop}{s:Shared}
theorem IsRv.typeIs {a l:Addr}{i:Int}(x:IsRv s.heap a l i):s.TypeIs (.ref a) "reversed":=let ⟨o,ho,hc,_⟩:=x;⟨o,ho,hc⟩
theorem IsRv.at {h h':Heap}{a l:Addr}{i:Int}(x:IsRv h a l i)(e:∀o,h.get? a=some o->h'.get? a=some o):IsRv h' a l i:=let ⟨o,ho,r⟩:=x;⟨o,e _ ho,r⟩
theorem jlS {l:Addr}{items:Array Value}{Q₁:Value->Shared->Prop}(hl:IsTup s.heap l items)(hz:(items.size:Int) < 2 ^ 63)
  (h:Q₁ (.ref s.heap.objs.size) { s with heap:=s.heap.push (obj l ((items.size:Int) - 1)),toks:=s.toks + 1 + 1 }) :
  codeAny (model prog w) A (.call (.builtin "reversed.__new__") ⟨[.type "reversed",.ref l],[]⟩) (wants Q₁ E) s:=by
 refine codeAny_of_tree ?_;show wpAny _ A.in1 (do checkBuiltinCall "reversed.__new__" ⟨[.type "reversed",.ref l],[]⟩;again (.builtin "reversed.__new__" ⟨[.type "reversed",.ref l],[]⟩)) _ _ s
 refine jvc (jvf (PySem.F.newCall_reversed_1 _) (jvd ⟨plainId_quiet PySem.F.plain_reversed_new _,codeAny_builtin PySem.F.entry_reversed_new ?_⟩));rw[Around.under_plainId PySem.F.plain_reversed_new _];unfold Builtin.«reversed.__new__»;refine jvc (jvf (newClass_reversed _) ?_);try dsimp only
 refine jvc (jvf (a:=()) (by first | rfl | kernel_rfl) ?_)
 refine jvc (jvf (a:=()) (by first | rfl | kernel_rfl) ?_)
 try dsimp only
 refine jvc (wpAny_specialOf hl.typeIs jq7 ?_);try dsimp only
 refine jvc (jvc (wpAny_isInstance hl.typeIs jlR ?_));refine jve rfl ?_;refine jvc (wpAny_specialOf hl.typeIs slot_tuple_getitem.lookup ?_);refine wpAny_ite_true rfl (jvd ?_);refine jve rfl ?_;refine jvc (len_tuple hl hz ?_);refine jvc (jvf (a:=some (items.size:Int)) rfl ?_);try dsimp only
 exact jvc (show wpAny _ _ (newObj (Value.type "reversed") (.fields #[.ref l,rawInt ((items.size:Int) - 1)])) _ _ _ from jvg (jvd h))
theorem jlT {l:Addr}{items:Array Value}{Q:Value->Shared->Prop}(hl:IsTup s.heap l items)(hz:(items.size:Int) < 2 ^ 63)
  (h:Q (.ref s.heap.objs.size) { s with heap:=s.heap.push (obj l ((items.size:Int) - 1)),toks:=s.toks + 1 + 1 }):wpAny (model prog w) A (call (.type "reversed") [.ref l]) Q E s:=by
 refine callType_codes (Q₁:=fun obj' s₁=>obj'=.ref s.heap.objs.size/\s₁={ s with heap:=s.heap.push (obj l ((items.size:Int) - 1)),toks:=s.toks + 1 + 1 }) called (PySem.F.typeCall_reversed_1 _) F.entry_object_init (jlS hl hz ⟨rfl,rfl⟩) fun obj' s₁ h₁=>?_
 obtain⟨rfl,rfl⟩:=h₁;have ty:Shared.TypeIs { s with heap:=s.heap.push (obj l ((items.size:Int) - 1)),toks:=s.toks + 1 + 1 } (.ref s.heap.objs.size) "reversed":=⟨_,jvn _ rfl,rfl⟩
 exact⟨ty,F.args_object_init_2 _ _,object_init_meets called.init.lookup called.made (by decide) prog w A.in1 (wants (fun r s₂=>r=Value.none/\Q _ s₂) E) _ ⟨ty,rfl,h⟩⟩
theorem jjt {it l:Addr}{i:Nat}{items:Array Value}{x:Value}{Q:Option Value->Shared->Prop}(hit:IsRv s.heap it l (i:Int))(hl:IsTup s.heap l items)(hx:items[i]?=some x)(hz:(items.size:Int) < 2 ^ 63)(ne:l≠it)
  (hQ:∀h' tk,IsRv h' it l ((i:Int) - 1)->Heap.SameBut it s.heap h'->Q (some x) { s with heap:=h',toks:=tk }):wpAny (model prog w) A (pyNext (.ref it)) Q E s:=by
 obtain⟨o,ho,hc,hd⟩:=id hit;have hi:i < items.size:=(Array.getElem?_eq_some_iff.mp hx).1;unfold pyNext;refine jvc (wpAny_attempt (wpAny_callSpecial?_slot (name:=Str.ofString "__next__") hit.typeIs slot_next
  (wpAny_call_entry slot_next hit.typeIs jdM ?_ (jfl _))))
 unfold Builtin.«reversed.__next__»;refine jvc (jvf (a:=(Value.ref it,[])) rfl ?_);try dsimp only
 refine jvc (jvi ho hd (x:=.ref l) rfl ?_);refine jvc (jvi ho hd (x:=rawInt (i:Int)) rfl ?_);show wpAny _ _ (if (i:Int) < 0 then _ else _) _ _ s;rw[if_neg (by omega)]
 refine jvc (wpAny_specialOf hl.typeIs slot_tuple_getitem.lookup ?_);refine jve rfl ?_;refine jvc (wpAny_mkInt ?_);refine jvc (wpAny_attempt (getItem_tuple (j:=i) hl (by omega) (by omega) ?_ hx ?_))
 ·exact(seqIndex_of (by omega) (by omega)).trans (by simp)
 try dsimp only
 refine jvc (jvi ho hd (x:=rawInt (i:Int)) rfl ?_);refine jvc (wpAny_setField ho hd (by simp) ?_)
 refine jvd ⟨x,rfl,jvd (hQ _ _ ?_ (Heap.SameBut.update ..))⟩;exact⟨_,jvo _ ho (Obj.isFreed_of_fields (Obj.data_mapFields hd _)),(Obj.cls_mapFields ..).trans hc,by
  rw[Obj.data_mapFields hd];simp⟩
theorem jlU {it l:Addr}{Q:Option Value->Shared->Prop}(hh:A.handled=none)(hit:IsRv s.heap it l (-1))
  (hQ:∀h',Heap.ExtBut it s.heap h'->Q none { s with heap:=h' }):wpAny (model prog w) A (pyNext (.ref it)) Q E s:=by
 obtain⟨o,ho,hc,hd⟩:=id hit;unfold pyNext;refine jvc (wpAny_attempt (wpAny_callSpecial?_slot (name:=Str.ofString "__next__") hit.typeIs slot_next
  (wpAny_call_entry slot_next hit.typeIs jdM ?_ (jfl _))))
 unfold Builtin.«reversed.__next__»;refine jvc (jvf (a:=(Value.ref it,[])) rfl ?_);try dsimp only
 refine jvc (jvi ho hd (x:=.ref l) rfl ?_);refine jvc (jvi ho hd (x:=rawInt (-1)) rfl ?_);show wpAny _ _ (if (-1:Int) < 0 then _ else _) _ _ s;rw[if_pos (by decide)]
 refine jvc (wpAny_rule ?_);refine jvc (jvc (wpAny_setField ho hd (by simp) ?_))
 have ho2:(s.heap.update it (Obj.mapFields fun x=>x.setIfInBounds 1 (rawInt (-1)))).get? it=some (Obj.mapFields (fun x=>x.setIfInBounds 1 (rawInt (-1))) o):=jvo _ ho (Obj.isFreed_of_fields (Obj.data_mapFields hd _));refine wpAny_setField ho2 (Obj.data_mapFields hd _) (by simp) ?_
 unfold Builtin.SmallTypes.stopIteration;refine jvc (jvc ?_);simp only[newExc,newTuple];refine jvc (jvg ?_ (by size_fits))
 refine jvc (m:=firstArgMember _ _) (jvf (a:=Value.none) (by first | rfl | (simp only[firstArgMember];rfl)) ?_)
 refine jvg ?_ (by size_fits)
 simp only[raiseNew];refine jvc (wpAny_handled ?_);first | rw[show A.in1.handled=none from hh] | rw[hh]
 refine jvc (jvd (wpAny_throw ?_));refine jvc (wpAny_isInstance (T:="StopIteration") (b:=true) ⟨_,jvn _ rfl,rfl⟩ isSubtype_stop ?_);refine jvd (hQ _ (Heap.ExtBut.push (Heap.ExtBut.push ?_ _) _));intro b o' hb e;exact(Heap.SameBut.update ..).2 b hb |>.trans ((Heap.SameBut.update ..).2 b hb |>.trans e)
theorem jju {it l:Addr}{i:Int}{Q:Value->Shared->Prop}(hit:IsRv s.heap it l i)(h:Q (.ref it) s):wpAny (model prog w) A (pyIter (.ref it)) Q E s:=by
 refine wpAny_pyIter_slot hit.typeIs jfm (wpAny_call_entry jfm hit.typeIs jib ?_ (jjq _));show wpAny _ _ (ret (.ref it)) _ _ s;exact jvd ⟨_,rfl,"reversed",_,hit.typeIs,slot_next.lookup,h⟩
theorem joE {it l:Addr}{i:Int}{items:Array Value}{Q:Bool->Shared->Prop}(hit:IsRv s.heap it l i)(hl:IsTup s.heap l items)(hi:i + 1=items.size)(hz:items.size<=sizeLine)(h:∀b tk,s.toks<=tk->Q b { s with toks:=tk }):wpAny (model prog w) A (Builtin.List.listLengthHint (.ref it)) Q E s:=by
 have hn:=jbZ;obtain⟨o,ho,hc,hd⟩:=id hit;unfold Builtin.List.listLengthHint;refine jvc (wpAny_specialOf hit.typeIs jq8 ?_);refine jve rfl ?_;refine jve rfl ?_;refine jvc (wpAny_specialOf hit.typeIs slot_hint.lookup ?_);refine jvc (wpAny_isInstance hit.typeIs jq9 ?_);refine jve rfl ?_;refine jve rfl ?_;refine jvc (wpAny_rule ?_);refine jvc (jvf (slot_hint.bind _) ?_);refine jvc (wpAny_attempt (wpAny_call_entry slot_hint hit.typeIs jic ?_ (jjr _)));unfold Builtin.«reversed.__length_hint__»;refine jvc (jvf (a:=Value.ref it) rfl ?_);refine jvc (jvi ho hd (x:=.ref l) rfl ?_);refine jve rfl ?_;refine jvc (len_tuple hl (by omega) ?_)
 refine jvc (jvf (a:=some (items.size:Int)) rfl ?_);refine jvc (jvi ho hd (x:=rawInt i) rfl ?_);show wpAny _ _ (if (items.size:Int) < i + 1 then _ else _) _ _ _;rw[if_neg (by omega)]
 unfold retInt;refine jvc (wpAny_mkInt (jvd ⟨_,rfl,?_⟩));show wpAny _ _ (asInt? (.int (i + 1) _) >>= _) _ _ _;refine jvc (jvf (a:=some (i + 1)) rfl ?_);have f1:(!Builtin.List.listFitsIndex (i + 1))=false:=by rw[hi];simp[Builtin.List.listFitsIndex];omega
 have f2:Builtin.List.listTooLong (i + 1).toNat=false:=by rw[hi];simp[Builtin.List.listTooLong];omega
 dsimp only;rw[if_neg (by rw[f1];exact jvx),if_neg (by omega),if_neg (by rw[f2];exact jvx)]
 exact jvd (h _ _ (by omega))
theorem jsR (hh:A.handled=none)(I l:Addr)(hne:l≠I)(items:Array Value)(hz:(items.size:Int) < 2 ^ 63) :
  Walks prog w A I [I,l] [I] items.size (fun i v=>items[items.size - 1 - i]?=some v) (fun i h=>i<=items.size/\IsRv h I l ((items.size:Int) - 1 - (i:Int))/\IsTup h l items) where
 sub:=fun b hb=>by simp at hb;simp[hb]
 frame:=fun _ _ _ x hk=>⟨x.1,x.2.1.at fun o e=>hk I (by simp) o e,by obtain⟨o,e,r⟩:=x.2.2;exact⟨o,hk l (by simp) o e,r⟩⟩
 item:=fun i s Q E hi x hQ=>by
  have e:(items.size:Int) - 1 - (i:Int)=((items.size - 1 - i:Nat):Int):=by omega
  have hit:=x.2.1;rw[e]at hit;have hx:items[items.size - 1 - i]?=some (items[items.size - 1 - i]'(by omega)):=Array.getElem?_eq_getElem (by omega)
  refine jjt hit x.2.2 hx hz hne fun h' tk hit' hs'=>?_;have e2:((items.size - 1 - i:Nat):Int) - 1=(items.size:Int) - 1 - ((i + 1:Nat):Int):=by omega
  rw[e2]at hit';exact hQ _ h' tk hx ⟨hi,hit',by obtain⟨o,eo,r⟩:=x.2.2;exact⟨o,(hs'.2 l hne).trans eo,r⟩⟩ fun b o hb eo=>hs'.extBut b o (fun h=>hb (by simp[h])) eo
 done:=fun s Q E x hQ=>by
  have e:(items.size:Int) - 1 - (items.size:Int)=-1:=by omega
  have hit:=x.2.1;rw[e]at hit;exact jlU hh hit fun h' he'=>hQ h' s.toks fun b o hb eo=>he' b o (fun h=>hb (by simp[h])) eo
 self:=fun _ _ _ _ x hQ=>jju x.2.1 hQ
theorem itb {I l:Addr}{items:Array Value}(hA:A.handled=none)(hI:IsRv s.heap I l ((items.size:Int) - 1))(hl:IsTup s.heap l items)(ne:l≠I)(hz:items.size<=sizeLine) :
  Itb prog w A (.ref I) "reversed" s.heap items.size (fun i v=>items[items.size - 1 - i]?=some v) [I] where
 nl:=by decide
 nt:=by decide
 ty:=fun s' k=>by
  obtain⟨o,e,c⟩:=hI.typeIs;exact⟨o,k _ _ e,c⟩
 ref:=fun a z=>by
  cases z;obtain⟨o,e,c⟩:=hI.typeIs;exact jvm e
 iter:=fun s' S Q E k h1 h2 q=>by
  have hn:=jbZ;have W:=jsR (prog:=prog) (w:=w) hA I l ne items (by omega)
  obtain⟨o1,e1,c1,d1⟩:=hI;obtain⟨o2,e2,c2⟩:=hl;have st:0<=items.size/\IsRv s'.heap I l ((items.size:Int) - 1 - (0:Nat))/\IsTup s'.heap l items:=⟨Nat.zero_le _,⟨o1,k _ _ e1,c1,by simpa using d1⟩,o2,k _ _ e2,c2⟩
  refine W.self 0 s' Q E st (q I _ _ _ s'.heap s'.toks s'.drawn (jvq _) SubH.refl W st (fun z=>?_) fun b hb=>.inl hb);rcases List.mem_cons.mp z with rfl | z
  ·exact absurd (jvm e1) (Nat.not_lt.mpr h1)
  ·have:S=l:=by simpa using z
   subst this;exact absurd (jvm e2) (Nat.not_lt.mpr h1)
 hint:=fun s' Q E k q=>by
  obtain⟨o1,e1,c1,d1⟩:=hI;obtain⟨o2,e2,c2⟩:=hl;exact joE (l:=l) (i:=(items.size:Int) - 1) (items:=items) ⟨o1,k _ _ e1,c1,d1⟩ ⟨o2,k _ _ e2,c2⟩ (by omega) hz q
end
section
variable {X:Cx}{pins:List (Addr×Obj)}{σ:L2.St}{H:Hp}{s:Shared}
noncomputable def Phi (X:Cx)(I p:Addr)(n:Nat):Heap->Prop:=fun h=>IsRv h I p ((n:Int) - 1)/\X.s₀.heap.objs.size<=I/\p≠I
theorem jdC:CallR X (.type "reversed") (fun xs H Q=>∃p ys,xs=[.ref p]/\SqT X.K H p ys/\∀I,H I=none->Q (.ref I) (upd H I (.ext (Phi X I p ys.length)))):=by
 intro pins s σ H xs us Q I r h;obtain⟨p,ys,rfl,hq,q⟩:=h;obtain⟨u,rfl,rx⟩:=jcz r;cases rx;obtain⟨its,r',pl,hz⟩:=I.tuple hq;have hlen:=r'.length;have hn:=jbZ;refine jlT pl (by rw[juO];omega) ?_
 have hp:p≠s.heap.objs.size:=by obtain⟨o,e,_⟩:=pl;exact jvs (jvm e)
 refine⟨.ref s.heap.objs.size,_,I.laid (t':=s.toks + 1 + 1) (o:=.ext (Phi X s.heap.objs.size p ys.length)) (fun b o e=>jvl _ e) (jvq _) ⟨⟨⟨_,jvn s.heap rfl,rfl,?_⟩,I.above,hp⟩,⟨_,jvn s.heap rfl⟩,?_⟩,rfl,q _ (I.hok.fresh (jvq _))⟩
 ·rw[juO,<-hlen];rfl
 ·rintro h1 h2 ⟨⟨o,e,c⟩,z⟩ k;exact⟨⟨o,k _ e,c⟩,z⟩
theorem jei (hc:X.calm=true):CallR X (.type "tuple") (fun xs H Q=>∃I p ys,xs=[.ref I]/\H I=some (.ext (Phi X I p ys.length))/\SqT X.K H p ys/\∀l,del H I l=none->Q (.ref l) (upd (del H I) l (.tup ys.reverse))):=by
 intro pins s σ H xs us Q I r h;obtain⟨J,p,ys,rfl,hJ,hq,q⟩:=h;obtain⟨u,rfl,rx⟩:=jcz r;cases rx;obtain⟨its,r',pl,hz⟩:=I.tuple hq;have hlen:=r'.length;obtain⟨⟨hr,h0,hne⟩,_,_⟩:=I.hok J _ hJ;have hA:X.A.in1.in1.in1.handled=none:=I.ok.hd hc;have hsz:its.toArray.size=ys.length:=by rw[juO];exact hlen.symm
 refine jcb (itb (items:=its.toArray) hA (by rw[hsz];exact hr) pl hne (by rw[hsz];exact hz)) (by rw[hsz];exact hz) fun s' acc kp hle hg ho it=>?_
 have ea:=jfk it;have ha:acc=its.reverse.toArray:=by rw[<-ea]
 refine⟨.ref s'.heap.objs.size,_,I.goneLaid (o:=.tup ys.reverse) (s':={ s' with heap:=s'.heap.push { cls:=Value.type "tuple",data:=Data.seq acc } }) hJ h0 (fun c o z e=>jvl _ (kp c o (by simpa using z) e)) hg ho hle ⟨by simpa using hz,its.reverse,r'.reverse,by rw[ha];exact IsTup.new _ _⟩,rfl,q _ ?_⟩
 unfold del;split
 ·rfl
 ·exact I.hok.fresh hle
end
end RT
namespace KS
open PySem PySem.W PyProof.Rows
noncomputable def jax {α:Type}(lt:Nat->Nat->Bool):KasT α->α
 |.ret a=>a
 |.ask i j k=>jax lt (k (lt i j))
theorem jbo {α β:Type}{lt:Nat->Nat->Bool}{f:α->KasT β}:∀(t:KasT α),jax lt (t.bind f)=jax lt (f (jax lt t))
 |.ret a=>rfl
 |.ask i j k=>by
  show jax lt ((k (lt i j)).bind f)=jax lt (f (jax lt (k (lt i j))));exact jbo (k (lt i j))
section
variable {lt:Nat->Nat->Bool}{p:Array Nat}
noncomputable def le (lt:Nat->Nat->Bool)(a b:Nat):Prop:=lt b a=false
structure Ord (lt:Nat->Nat->Bool):Prop where
 asym:∀a b,lt a b=true->lt b a=false
 trans:∀a b c,le lt a b->le lt b c->le lt a c
theorem Ord.refl (O:Ord lt)(a:Nat):le lt a a:=by
 unfold le;cases h:lt a a with
 |false=>rfl
 |true=>exact absurd (O.asym a a h) (by rw[h];decide)
noncomputable def at_ (p:Array Nat)(i:Nat):Nat:=p.getD i 0
noncomputable def Up (lt:Nat->Nat->Bool)(p:Array Nat)(k:Nat):Prop:=∀i j,i<=j->j < k->le lt (at_ p i) (at_ p j)
noncomputable def Dn (lt:Nat->Nat->Bool)(p:Array Nat)(k:Nat):Prop:=∀i j,i<=j->j < k->le lt (at_ p j) (at_ p i)
theorem jjv {p q:Array Nat}{i j:Nat}(h:p[i]?=q[j]?):at_ p i=at_ q j:=by
 unfold at_;rw[Array.getD_eq_getD_getElem?,Array.getD_eq_getD_getElem?,h]
theorem Up.succ (O:Ord lt){n:Nat}(h1:1<=n)(h:Up lt p n)(hn:le lt (at_ p (n - 1)) (at_ p n)):Up lt p (n + 1):=fun i j hij hj=>by
 by_cases e:j=n
 ·subst e;by_cases e2:i=j
  ·subst e2;exact O.refl _
  ·exact O.trans _ _ _ (h i (j - 1) (by omega) (by omega)) hn
 ·exact h i j hij (by omega)
theorem Dn.succ (O:Ord lt){n:Nat}(h1:1<=n)(h:Dn lt p n)(hn:le lt (at_ p n) (at_ p (n - 1))):Dn lt p (n + 1):=fun i j hij hj=>by
 by_cases e:j=n
 ·subst e;by_cases e2:i=j
  ·subst e2;exact O.refl _
  ·exact O.trans _ _ _ hn (h i (j - 1) (by omega) (by omega))
 ·exact h i j hij (by omega)
theorem jjw (O:Ord lt):∀(f n:Nat),1<=n->Up lt p n->n<=jax lt (kas_asc p f n)/\jax lt (kas_asc p f n)<=n + f/\Up lt p (jax lt (kas_asc p f n))/\(jax lt (kas_asc p f n) < n + f->lt (at_ p (jax lt (kas_asc p f n))) (at_ p (jax lt (kas_asc p f n) - 1))=true)
 |0,n,h1,h=>⟨jvq _,jvq _,h,fun z=>absurd z (jvu _)⟩
 |f + 1,n,h1,h=>by
  show n<=jax lt (if lt (p.getD n 0) (p.getD (n - 1) 0)=true then .ret n else kas_asc p f (n + 1))/\jax lt (if lt (p.getD n 0) (p.getD (n - 1) 0)=true then .ret n else kas_asc p f (n + 1))<=n + (f + 1)/\Up lt p (jax lt (if lt (p.getD n 0) (p.getD (n - 1) 0)=true then .ret n else kas_asc p f (n + 1)))/\_;cases hc:lt (p.getD n 0) (p.getD (n - 1) 0)with
  |true=>
   have e:jax lt (kas_asc p (f + 1) n)=n:=by
    show jax lt (if lt (p.getD n 0) (p.getD (n - 1) 0)=true then .ret n else kas_asc p f (n + 1))=n;rw[hc];rfl
   rw[e];exact⟨jvq _,by show n<=_;omega,h,fun _=>hc⟩
  |false=>
   have e:jax lt (kas_asc p (f + 1) n)=jax lt (kas_asc p f (n + 1)):=by
    show jax lt (if lt (p.getD n 0) (p.getD (n - 1) 0)=true then .ret n else kas_asc p f (n + 1))=_;rw[hc];rfl
   obtain⟨a1,a2,a3,a4⟩:=jjw O f (n + 1) (by omega) (h.succ O h1 hc)
   rw[e];exact⟨by show n<=jax lt (kas_asc p f (n + 1));omega,by show jax lt (kas_asc p f (n + 1))<=_;omega,a3,fun z=>a4 (by omega)⟩
theorem jcc {i j k:Nat}(hj:j<=p.size):at_ (kas_rev p i j) k=if i<=k/\k < j then at_ p (i + j - 1 - k)else at_ p k:=by
 have:=getElem?_mirror_all (i:=i) hj k;unfold kas_rev;split
 ·rename_i h;rw[if_pos h]at this;exact jjv this
 ·rename_i h;rw[if_neg h]at this;exact jjv this
theorem jaZ {i j:Nat}:(kas_rev p i j).Perm p:=mirror_perm _ _ _ _
theorem jej {i j:Nat}:(kas_rev p i j).size=p.size:=mirror_size _ _ _ _
theorem Dn.rev {n:Nat}(hn:n<=p.size)(h:Dn lt p n):Up lt (kas_rev p 0 n) n:=fun i j hij hj=>by
 rw[jcc hn,jcc hn,if_pos ⟨Nat.zero_le _,by omega⟩,if_pos ⟨Nat.zero_le _,hj⟩]
 exact h _ _ (by omega) (by omega)
theorem jek (O:Ord lt){k:Nat}(hs:Up lt p k):∀(f l r:Nat),r - l<=f->l<=r->r<=k->(∀i,i < l->le lt (at_ p i) (at_ p k))->(∀i,r<=i->i < k->lt (at_ p k) (at_ p i)=true) ->
  jax lt (kas_place p k f l r)<=k/\(∀i,i < jax lt (kas_place p k f l r)->le lt (at_ p i) (at_ p k))/\∀i,jax lt (kas_place p k f l r)<=i->i < k->lt (at_ p k) (at_ p i)=true
 |0,l,r,hf,hlr,hrk,h1,h2=>by
  show l<=k/\(∀i,i < l->_)/\∀i,l<=i->_;exact⟨by omega,h1,fun i hi=>h2 i (by omega)⟩
 |f + 1,l,r,hf,hlr,hrk,h1,h2=>by
  by_cases hge:l>=r
  ·have e:jax lt (kas_place p k (f + 1) l r)=l:=by
    show jax lt (if l>=r then .ret l else _)=l;rw[if_pos hge];rfl
   rw[e];exact⟨by omega,h1,fun i hi=>h2 i (by omega)⟩
  ·have e:jax lt (kas_place p k (f + 1) l r)=jax lt (if lt (at_ p k) (at_ p ((l + r) / 2))=true then kas_place p k f l ((l + r) / 2)else kas_place p k f ((l + r) / 2 + 1) r):=by
    show jax lt (if l>=r then .ret l else _)=_;rw[if_neg hge];rfl
   rw[e];cases hc:lt (at_ p k) (at_ p ((l + r) / 2))with
   |true=>
    rw[if_pos rfl];refine jek O hs f l ((l + r) / 2) (by omega) (by omega) (by omega) h1 fun i hi hik=>?_
    cases hx:lt (at_ p k) (at_ p i)with
    |true=>rfl
    |false=>
     have:=O.trans _ _ _ (hs ((l + r) / 2) i hi hik) hx;unfold le at this;rw[hc]at this;cases this
   |false=>
    rw[if_neg (by decide)]
    refine jek O hs f ((l + r) / 2 + 1) r (by omega) (by omega) hrk (fun i hi=>?_) h2
    exact O.trans _ _ _ (hs i ((l + r) / 2) (by omega) (by omega)) hc
theorem jnF {k d i:Nat}(hk:k < p.size)(hd:d<=k):at_ (bubble p k d) i=if i=k - d then at_ p k else if k - d < i/\i<=k then at_ p (i - 1)else at_ p i:=by
 have:=getElem?_bubble hk d hd i;split
 ·rename_i h;rw[if_pos h]at this;exact jjv this
 ·rename_i h;rw[if_neg h]at this;split
  ·rename_i h2;rw[if_pos h2]at this;exact jjv this
  ·rename_i h2;rw[if_neg h2]at this;exact jjv this
theorem jnG (O:Ord lt):∀(f:Nat) (p:Array Nat) (k:Nat),k + f<=p.size->Up lt p k->(jax lt (kas_bin f p k)).Perm p/\Up lt (jax lt (kas_bin f p k)) (k + f)
 |0,p,k,hk,h=>⟨Array.Perm.refl _,h⟩
 |f + 1,p,k,hk,h=>by
  have e:jax lt (kas_bin (f + 1) p k)=jax lt (kas_bin f (bubble p k (k - jax lt (kas_place p k k 0 k))) (k + 1)):=by
   show jax lt ((kas_place p k k 0 k).bind _)=_;rw[jbo]
  obtain⟨a1,a2,a3⟩:=jek O h k 0 k (by omega) (by omega) (jvq _) (fun i hi=>absurd hi (by omega)) (fun i hi hik=>absurd hik (by omega))
  rw[e];generalize jax lt (kas_place p k k 0 k)=l at a1 a2 a3;have hup:Up lt (bubble p k (k - l)) (k + 1):=fun i j hij hj=>by
   rw[jnF (by omega) (by omega),jnF (by omega) (by omega)]
   have hl:k - (k - l)=l:=Nat.sub_sub_self (by omega)
   rw[hl];clear hl e;by_cases hi:i=l
   ·rw[if_pos hi];by_cases hj':j=l
    ·rw[if_pos hj'];exact O.refl _
    ·rw[if_neg hj',if_pos ⟨by omega,by omega⟩]
     exact O.asym _ _ (a3 (j - 1) (by omega) (by omega))
   ·rw[if_neg hi];by_cases hil:l < i/\i<=k
    ·rw[if_pos hil,if_neg (by omega),if_pos ⟨by omega,by omega⟩]
     exact h (i - 1) (j - 1) (by omega) (by omega)
    ·rw[if_neg hil];by_cases hj':j=l
     ·rw[if_pos hj'];exact a2 i (by omega)
     ·rw[if_neg hj'];by_cases hjl:l < j/\j<=k
      ·rw[if_pos hjl];exact h i (j - 1) (by omega) (by omega)
      ·rw[if_neg hjl];exact h i j hij (by omega)
  obtain⟨b1,b2⟩:=jnG O f (bubble p k (k - l)) (k + 1) (by rw[bubble_size];omega) hup
  exact⟨b1.trans (bubble_perm _ _ _),by rw[show k + (f + 1)=k + 1 + f by omega];exact b2⟩
noncomputable def Eqs (lt:Nat->Nat->Bool)(p:Array Nat)(n q:Nat):Prop:=∀k,n - (q + 1)<=k->k < n->le lt (at_ p k) (at_ p (n - 1))/\le lt (at_ p (n - 1)) (at_ p k)
theorem Dn.revEq (O:Ord lt){n q:Nat}(hn:n<=p.size)(hq:q + 1<=n)(h:Dn lt p n)(he:Eqs lt p n q):Dn lt (kas_rev p (n - (q + 1)) n) n:=fun i j hij hj=>by
 have same:∀k,k < n->le lt (at_ (kas_rev p (n - (q + 1)) n) k) (at_ p k)/\le lt (at_ p k) (at_ (kas_rev p (n - (q + 1)) n) k):=fun k hk=>by
  rw[jcc hn];split
  ·rename_i hx;obtain⟨a1,a2⟩:=he k hx.1 hk;obtain⟨b1,b2⟩:=he (n - (q + 1) + n - 1 - k) (by omega) (by omega)
   exact⟨O.trans _ _ _ b1 a2,O.trans _ _ _ a1 b2⟩
  ·exact⟨O.refl _,O.refl _⟩
 exact O.trans _ _ _ (same j hj).1 (O.trans _ _ _ (h i j hij hj) (same i (by omega)).2)
theorem jel (O:Ord lt):∀(f:Nat) (p:Array Nat) (n q:Nat),1<=n->q + 1<=n->n + f<=p.size->Dn lt p n->Eqs lt p n q ->
  ∃p' n' q',jax lt (kas_desc f p n q)=(p',n',q')/\p'.Perm p/\n<=n'/\n'<=n + f/\q' + 1<=n'/\Dn lt p' n'/\Eqs lt p' n' q'
 |0,p,n,q,h1,hq,hf,h,he=>⟨p,n,q,rfl,Array.Perm.refl _,jvq _,jvq _,hq,h,he⟩
 |f + 1,p,n,q,h1,hq,hf,h,he=>by
  have e:jax lt (kas_desc (f + 1) p n q)=jax lt (if lt (at_ p n) (at_ p (n - 1))=true then (if q > 0 then kas_desc f (kas_rev p (n - (q + 1)) n) (n + 1) 0 else kas_desc f p (n + 1) 0)else if lt (at_ p (n - 1)) (at_ p n)=true then .ret (p,n,q)else kas_desc f p (n + 1) (q + 1)):=by
   show jax lt (if lt (p.getD n 0) (p.getD (n - 1) 0)=true then _ else _)=_;unfold at_;cases lt (p.getD n 0) (p.getD (n - 1) 0) <;> rfl
  rw[e];have one:∀(p:Array Nat),Eqs lt p (n + 1) 0:=fun p k hk hk2=>by
   have:k=n:=by omega
   subst this;exact⟨O.refl _,O.refl _⟩
  cases hc:lt (at_ p n) (at_ p (n - 1))with
  |true=>
   rw[if_pos rfl];by_cases hq0:q > 0
   ·rw[if_pos hq0];have hd:=h.revEq O (by omega) hq he
    have hlast:le lt (at_ (kas_rev p (n - (q + 1)) n) n) (at_ (kas_rev p (n - (q + 1)) n) (n - 1)):=by
     rw[jcc (by omega),jcc (by omega),if_neg (by omega),if_pos ⟨by omega,by omega⟩]
     exact O.trans _ _ _ (O.asym _ _ hc) (he (n - (q + 1) + n - 1 - (n - 1)) (by omega) (by omega)).2
    obtain⟨p',n',q',a1,a2,a3,a4,a5,a6,a7⟩:=jel O f (kas_rev p (n - (q + 1)) n) (n + 1) 0 (by omega) (by omega) (by rw[jej];omega) (hd.succ O h1 hlast) (one _)
    exact⟨p',n',q',a1,a2.trans jaZ,by omega,by omega,a5,a6,a7⟩
   ·rw[if_neg hq0];obtain⟨p',n',q',a1,a2,a3,a4,a5,a6,a7⟩:=jel O f p (n + 1) 0 (by omega) (by omega) (by omega) (h.succ O h1 (O.asym _ _ hc)) (one _)
    exact⟨p',n',q',a1,a2,by omega,by omega,a5,a6,a7⟩
  |false=>
   rw[if_neg (by decide)]
   cases hd:lt (at_ p (n - 1)) (at_ p n)with
   |true=>rw[if_pos rfl];exact⟨p,n,q,rfl,Array.Perm.refl _,jvq _,by omega,hq,h,he⟩
   |false=>
    rw[if_neg (by decide)]
    have he':Eqs lt p (n + 1) (q + 1):=fun k hk hk2=>by
     rw[Nat.add_sub_cancel];by_cases hkn:k=n
     ·subst hkn;exact⟨O.refl _,O.refl _⟩
     ·obtain⟨b1,b2⟩:=he k (by omega) (by omega)
      exact⟨O.trans _ _ _ b1 hc,O.trans _ _ _ hd b2⟩
    obtain⟨p',n',q',a1,a2,a3,a4,a5,a6,a7⟩:=jel O f p (n + 1) (q + 1) (by omega) (by omega) (by omega) (h.succ O h1 hd) he'
    exact⟨p',n',q',a1,a2,by omega,by omega,a5,a6,a7⟩
theorem jjx (O:Ord lt){n nrem:Nat}(h1:1<=n)(hn:n<=nrem)(hp:nrem<=p.size)(h:Dn lt p n):∃m p',jax lt (kas_tail3 n nrem p)=(m,p')/\p'.Perm p/\1<=m/\m<=nrem/\Up lt p' m:=by
 have e:jax lt (kas_tail3 n nrem p)=(jax lt (kas_asc (kas_rev p 0 n) (nrem - n) n),kas_rev p 0 n):=by
  unfold kas_tail3;rw[jbo];rfl
 obtain⟨a1,a2,a3,_⟩:=jjw (p:=kas_rev p 0 n) O (nrem - n) n h1 (h.rev (by omega))
 exact⟨_,_,e,jaZ,by omega,by omega,a3⟩
theorem jc4 (O:Ord lt){n nrem:Nat}(h1:1<=n)(hn:n + 1<=nrem)(hp:nrem<=p.size)(h:Dn lt p (n + 1)):∃m p',jax lt (kas_descPart n nrem p)=(m,p')/\p'.Perm p/\1<=m/\m<=nrem/\Up lt p' m:=by
 obtain⟨p',n',q',a1,a2,a3,a4,a5,a6,a7⟩:=jel O (nrem - (n + 1)) p (n + 1) 0 (by omega) (by omega) (by omega) h (fun k hk hk2=>by
  have:k=n:=by omega
  subst this;exact⟨O.refl _,O.refl _⟩)
 have hsz:p'.size=p.size:=a2.size_eq;have e:jax lt (kas_descPart n nrem p)=jax lt (if q' > 0 then kas_tail3 n' nrem (kas_rev p' (n' - (q' + 1)) n')else kas_tail3 n' nrem p'):=by
  unfold kas_descPart;rw[jbo,a1]
 rw[e];by_cases hq:q' > 0
 ·rw[if_pos hq];obtain⟨m,p2,b1,b2,b3,b4,b5⟩:=jjx (p:=kas_rev p' (n' - (q' + 1)) n') O (by omega:1<=n') (by omega:n'<=nrem) (by rw[jej];omega) (a6.revEq O (by omega) a5 a7)
  exact⟨m,p2,b1,(b2.trans jaZ).trans a2,b3,b4,b5⟩
 ·rw[if_neg hq];obtain⟨m,p2,b1,b2,b3,b4,b5⟩:=jjx (p:=p') O (by omega:1<=n') (by omega:n'<=nrem) (by omega) a6
  exact⟨m,p2,b1,b2.trans a2,b3,b4,b5⟩
theorem jlV (O:Ord lt){nrem:Nat}(h1:1<=nrem)(hp:nrem<=p.size):∃m p',jax lt (kas_count nrem p)=(m,p')/\p'.Perm p/\1<=m/\m<=nrem/\Up lt p' m:=by
 have h01:Up lt p 1:=fun i j hij hj=>by
  have:i=j:=by omega
  subst this;exact O.refl _
 obtain⟨a1,a2,a3,a4⟩:=jjw (p:=p) O (nrem - 1) 1 (by omega) h01
 have e:jax lt (kas_count nrem p)=jax lt (if (jax lt (kas_asc p (nrem - 1) 1) == nrem)=true then .ret (jax lt (kas_asc p (nrem - 1) 1),p)else if jax lt (kas_asc p (nrem - 1) 1) > 1 then .ask (p.getD 0 0) (p.getD (jax lt (kas_asc p (nrem - 1) 1) - 1) 0) (fun c=>if c=true then .ret (jax lt (kas_asc p (nrem - 1) 1),p)else kas_descPart (jax lt (kas_asc p (nrem - 1) 1)) nrem (kas_rev p 0 (jax lt (kas_asc p (nrem - 1) 1))))else kas_descPart (jax lt (kas_asc p (nrem - 1) 1)) nrem p):=by
  unfold kas_count;rw[jbo]
 rw[e];generalize jax lt (kas_asc p (nrem - 1) 1)=n at a1 a2 a3 a4;by_cases hn:(n == nrem)=true
 ·rw[if_pos hn];exact⟨n,p,rfl,Array.Perm.refl _,by omega,by omega,a3⟩
 ·rw[if_neg hn];have hne:n≠nrem:=by simpa using hn
  have hlt:=a4 (by omega)
  by_cases hn1:n > 1
  ·rw[if_pos hn1];show ∃m p',jax lt (if lt (p.getD 0 0) (p.getD (n - 1) 0)=true then .ret (n,p)else kas_descPart n nrem (kas_rev p 0 n))=_/\_;cases hc:lt (p.getD 0 0) (p.getD (n - 1) 0)with
   |true=>rw[if_pos rfl];exact⟨n,p,rfl,Array.Perm.refl _,by omega,by omega,a3⟩
   |false=>
    rw[if_neg (by decide)]
    have hc':le lt (at_ p (n - 1)) (at_ p 0):=hc;have alike:∀i j,i < n->j < n->le lt (at_ p i) (at_ p j):=fun i j hi hj=>O.trans _ _ _ (a3 i (n - 1) (by omega) (by omega)) (O.trans _ _ _ hc' (a3 0 j (by omega) hj))
    have hd:Dn lt (kas_rev p 0 n) (n + 1):=by
     refine Dn.succ O (by omega) (fun i j hij hj=>?_) ?_
     ·rw[jcc (by omega),jcc (by omega),if_pos ⟨by omega,hj⟩,if_pos ⟨by omega,by omega⟩]
      exact alike _ _ (by omega) (by omega)
     ·rw[jcc (by omega),jcc (by omega),if_neg (by omega),if_pos ⟨by omega,by omega⟩]
      exact O.trans _ _ _ (O.asym _ _ hlt) (alike _ _ (by omega) (by omega))
    obtain⟨m,p',b1,b2,b3,b4,b5⟩:=jc4 O (by omega:1<=n) (by omega:n + 1<=nrem) (by rw[jej];omega) hd
    exact⟨m,p',b1,b2.trans jaZ,b3,b4,b5⟩
  ·rw[if_neg hn1];have hn':n=1:=by omega
   subst hn';have hd:Dn lt p 2:=Dn.succ O (by omega) (fun i j hij hj=>by
    have:i=j:=by omega
    subst this;exact O.refl _) (O.asym _ _ hlt)
   exact jc4 O (by omega) (by omega) hp hd
theorem joF (O:Ord lt){n:Nat}(h1:1<=n):(jax lt (kas_sort n)).Perm (List.toArray (List.range n))/\Up lt (jax lt (kas_sort n)) n:=by
 obtain⟨m,p',a1,a2,a3,a4,a5⟩:=jlV (p:=List.toArray (List.range n)) O h1 (by simp)
 have hsz:p'.size=n:=by rw[a2.size_eq];simp
 have e:jax lt (kas_sort n)=jax lt (if m < n then kas_bin (n - max m 1) p' (max m 1)else .ret p'):=by
  unfold kas_sort;rw[jbo,a1]
 rw[e];by_cases hm:m < n
 ·rw[if_pos hm];have hmax:max m 1=m:=by omega
  rw[hmax];obtain⟨b1,b2⟩:=jnG O (n - m) p' m (by omega) a5
  exact⟨b1.trans a2,by have h:=b2;rwa [show m + (n - m)=n by omega]at h⟩
 ·rw[if_neg hm];have:m=n:=by omega
  subst this;exact⟨a2,a5⟩
end
end KS
namespace KS
open PySem PySem.W PyProof.Rows
inductive AllA {α:Type} (N:Nat) (R:α->Prop):KasT α->Prop where
 |ret {a:α} (h:R a):AllA N R (.ret a)
 |ask {i j:Nat}{k:Bool->KasT α} (hi:i < N) (hj:j < N) (h:∀b,AllA N R (k b)):AllA N R (.ask i j k)
theorem AllA.bind {α β:Type}{N:Nat}{R:α->Prop}{R':β->Prop}{f:α->KasT β}{t:KasT α}(h:AllA N R t)(hf:∀a,R a->AllA N R' (f a)):AllA N R' (t.bind f):=by
 induction h with
 |ret h=>exact hf _ h
 |ask hi hj _ ih=>exact .ask hi hj ih
noncomputable def LtN (N:Nat)(p:Array Nat):Prop:=0 < N/\∀x∈p,x < N
theorem LtN.get {N:Nat}{p:Array Nat}(h:LtN N p)(i:Nat):p.getD i 0 < N:=by
 by_cases hi:i < p.size
 ·simp only[Array.getD,hi,dite_true];exact h.2 _ (Array.getElem_mem hi)
 ·simp only[Array.getD,hi,dite_false];exact h.1
theorem LtN.perm {N:Nat}{p q:Array Nat}(h:LtN N p)(e:q.Perm p):LtN N q:=⟨h.1,fun x hx=>h.2 x (e.mem_iff.mp hx)⟩
theorem joG {N:Nat}{p:Array Nat}(h:LtN N p):∀(f x:Nat),AllA N (fun _=>True) (kas_asc p f x)
 |0,x=>by rw[kas_asc.eq_1];exact .ret trivial
 |f + 1,x=>by
  rw[kas_asc.eq_2];exact .ask (h.get _) (h.get _) fun b=>by
   cases b with
   |true=>exact .ret trivial
   |false=>exact joG h f (x + 1)
theorem jgn {N:Nat}{p:Array Nat}(h:LtN N p)(k:Nat):∀(f x y:Nat),AllA N (fun _=>True) (kas_place p k f x y)
 |0,x,y=>by rw[kas_place.eq_1];exact .ret trivial
 |f + 1,x,y=>by
  rw[kas_place.eq_2];split
  ·exact .ret trivial
  ·exact .ask (h.get _) (h.get _) fun b=>by
    cases b with
    |true=>exact jgn h k f _ _
    |false=>exact jgn h k f _ _
theorem jhm {N:Nat}:∀(f:Nat) (p:Array Nat) (x y:Nat),LtN N p->AllA N (fun r=>LtN N r.1) (kas_desc f p x y)
 |0,p,x,y,h=>by rw[kas_desc.eq_1];exact .ret h
 |f + 1,p,x,y,h=>by
  rw[kas_desc.eq_2];refine .ask (h.get _) (h.get _) fun b=>?_;cases b with
  |true=>
   rw[if_pos rfl];split
   ·exact jhm f _ _ _ (h.perm jaZ)
   ·exact jhm f _ _ _ h
  |false=>
   rw[if_neg (by simp)]
   refine .ask (h.get _) (h.get _) fun d=>?_;cases d with
   |true=>exact .ret h
   |false=>exact jhm f _ _ _ h
theorem jnH {N:Nat}{p:Array Nat}(h:LtN N p)(n nrem:Nat):AllA N (fun r=>LtN N r.2) (kas_tail3 n nrem p):=(joG (h.perm jaZ) _ _).bind fun m _=>.ret (h.perm jaZ)
theorem jdN {N:Nat}{p:Array Nat}(h:LtN N p)(n nrem:Nat):AllA N (fun r=>LtN N r.2) (kas_descPart n nrem p):=(jhm _ _ _ _ h).bind fun r hr=>by
 split
 ·exact jnH (hr.perm jaZ) _ _
 ·exact jnH hr _ _
theorem joH {N:Nat}{p:Array Nat}(h:LtN N p)(nrem:Nat):AllA N (fun r=>LtN N r.2) (kas_count nrem p):=(joG h _ _).bind fun n _=>by
 split
 ·exact .ret h
 ·split
  ·refine .ask (h.get _) (h.get _) fun b=>?_;cases b with
   |true=>exact .ret h
   |false=>exact jdN (h.perm jaZ) _ _
  ·exact jdN h _ _
theorem jra {N:Nat}:∀(f:Nat) (p:Array Nat) (k:Nat),LtN N p->AllA N (fun _=>True) (kas_bin f p k)
 |0,p,k,h=>by rw[kas_bin.eq_1];exact .ret trivial
 |f + 1,p,k,h=>by
  rw[kas_bin.eq_2];exact(jgn h _ _ _ _).bind fun l _=>jra f _ _ (h.perm (bubble_perm _ _ _))
theorem jrb {n:Nat}(h1:1<=n):AllA n (fun _=>True) (kas_sort n):=by
 have h0:LtN n (List.range n).toArray:=⟨h1,fun x hx=>by simpa using hx⟩
 refine(joH h0 n).bind fun r hr=>?_;split
 ·exact jra _ _ _ hr
 ·exact .ret trivial
theorem joI {α:Type}{lt:Nat->Nat->Bool}{N:Nat}{cmp:Nat->Nat->(Bool->Shared->Prop)->Shared->Prop}{s:Shared}{Q:α->Shared->Prop}(h:∀i j (C:Bool->Shared->Prop),i < N->j < N->C (lt i j) s->cmp i j C s){t:KasT α}(a:AllA N (fun _=>True) t)(q:Q (jax lt t) s):t.kasWp cmp Q s:=by
 induction a with
 |ret _=>exact q
 |ask hi hj _ ih=>exact h _ _ _ hi hj (ih _ q)
end KS
namespace HS
open PySem
noncomputable def g:Nat->Nat->Nat
 |0,a=>a
 |n + 1,a=>5 * g n a + 1
theorem jrc (n m a:Nat):g (n + m) a=g n (g m a):=by
 induction n with
 |zero=>simp[g]
 |succ n ih=>rw[Nat.succ_add,g,ih,g]
theorem jsS (n a:Nat):g n a=5 ^ n * a + g n 0:=by
 induction n with
 |zero=>simp[g]
 |succ n ih=>
  rw[g,ih,g,Nat.pow_succ,Nat.mul_add,Nat.add_assoc];congr 1;rw[Nat.mul_comm (5 ^ n) 5,Nat.mul_assoc]
theorem jrd (n:Nat):4 * g n 0 + 1=5 ^ n:=by
 induction n with
 |zero=>rfl
 |succ n ih=>rw[g,Nat.pow_succ,<-ih];omega
theorem jlW (k:Nat):∃v,5 ^ 2 ^ k=1 + 2 ^ (k + 2) * (2 * v + 1):=by
 induction k with
 |zero=>exact⟨0,rfl⟩
 |succ k ih=>
  obtain⟨v,e⟩:=ih;refine⟨v + 2 ^ k * (2 * v + 1) * (2 * v + 1),?_⟩;rw[Nat.pow_succ,Nat.pow_mul,e];have h1:2 ^ (k + 2)=4 * 2 ^ k:=by rw[Nat.pow_add];omega
  have h2:2 ^ (k + 1 + 2)=8 * 2 ^ k:=by rw[show k + 1 + 2=k + 3 by omega,Nat.pow_add];omega
  rw[h1,h2];generalize 2 ^ k=p;grind
theorem jsT (k a:Nat):∃c,g (2 ^ k) a=a + 2 ^ k + 2 ^ (k + 1) * c:=by
 obtain⟨v,e⟩:=jlW k;have f:=jrd (2 ^ k);have h1:2 ^ (k + 2)=4 * 2 ^ k:=by rw[Nat.pow_add];omega
 have h2:2 ^ (k + 1)=2 * 2 ^ k:=by rw[Nat.pow_add];omega
 rw[e,h1]at f;have f0:g (2 ^ k) 0=2 ^ k * (2 * v + 1):=by
  have:4 * g (2 ^ k) 0=4 * (2 ^ k * (2 * v + 1)):=by rw[<-Nat.mul_assoc];omega
  omega
 rw[jsS,e,f0,h1,h2];generalize 2 ^ k=p;exact⟨2 * (2 * v + 1) * a + v,by grind⟩
theorem jre {m a b:Nat}(h:a % m=b % m):∀n,g n a % m=g n b % m
 |0=>h
 |n + 1=>by
  rw[g,g,Nat.add_mod,Nat.mul_mod,jre h n,<-Nat.mul_mod,<-Nat.add_mod]
theorem jsU (k:Nat):∀a x,x < 2 ^ k->∃n,n < 2 ^ k/\g n a % 2 ^ k=x:=by
 induction k with
 |zero=>intro a x h;exact⟨0,by omega,by simp[g,Nat.mod_one];omega⟩
 |succ k ih=>
  intro a x h;have hp:2 ^ (k + 1)=2 * 2 ^ k:=by rw[Nat.pow_succ];omega
  obtain⟨n,hn,e⟩:=ih a (x % 2 ^ k) (Nat.mod_lt _ (Nat.two_pow_pos k));have hq:g n a % 2 ^ (k + 1) % 2 ^ k=g n a % 2 ^ k:=Nat.mod_mod_of_dvd _ ⟨2,by omega⟩
  have hlt:g n a % 2 ^ (k + 1) < 2 ^ (k + 1):=Nat.mod_lt _ (Nat.two_pow_pos _);by_cases hx:g n a % 2 ^ (k + 1)=x
  ·exact⟨n,by omega,hx⟩
  ·refine⟨2 ^ k + n,by omega,?_⟩
   obtain⟨c,ec⟩:=jsT k (g n a);rw[jrc,ec,Nat.add_mul_mod_self_left,Nat.add_mod];generalize hy:g n a % 2 ^ (k + 1)=y at *;have h3:2 ^ k % 2 ^ (k + 1)=2 ^ k:=Nat.mod_eq_of_lt (by have:=Nat.two_pow_pos k;omega)
   rw[h3,hp];rw[hp]at h hlt;have hpos:=Nat.two_pow_pos k;generalize 2 ^ k=p at *;have d1:=Nat.div_add_mod y p;have d2:=Nat.div_add_mod x p;have l1:y / p < 2:=(Nat.div_lt_iff_lt_mul hpos).mpr hlt;have l2:x / p < 2:=(Nat.div_lt_iff_lt_mul hpos).mpr h;have hm:y % p=x % p:=by rw[hq,e]
   clear ec h3 hy e hq;have m1:=Nat.mod_lt y hpos;have m2:=Nat.mod_lt x hpos;have c1:y / p=0\/y / p=1:=by generalize y / p=z at l1;omega
   have c2:x / p=0\/x / p=1:=by generalize x / p=z at l2;omega
   rcases c1 with c1 | c1 <;> rcases c2 with c2 | c2 <;> rw[c1]at d1 <;> rw[c2]at d2
   ·omega
   ·rw[Nat.mod_eq_of_lt (by omega)];omega
   ·have:y + p=x + 2 * p:=by omega
    rw[this,Nat.add_mod_right,Nat.mod_eq_of_lt (by omega)]
   ·omega
noncomputable abbrev lp (mask i p:Nat):Nat×Nat:=SetTable.leap mask i p
noncomputable def run (mask i:Nat):List Nat:=(List.range (SetTable.runEnd mask i + 1 - i)).map (i + ·)
noncomputable def pth (mask:Nat):Nat->Nat->Nat->List Nat
 |0,_,_=>[]
 |N + 1,i,p=>run mask i++pth mask N (lp mask i p).1 (lp mask i p).2
theorem jc5 (mask i:Nat):i<=SetTable.runEnd mask i:=by unfold SetTable.runEnd;split <;> omega
theorem jjy {mask i:Nat}(h:i<=mask):SetTable.runEnd mask i<=mask:=by unfold SetTable.runEnd;split <;> omega
theorem jlX (mask i:Nat):SetTable.runEnd mask i<=i + 9:=by unfold SetTable.runEnd;split <;> omega
theorem jlY (mask i:Nat):i∈run mask i:=by
 have:=jc5 mask i;exact List.mem_map.mpr ⟨0,List.mem_range.mpr (by omega),rfl⟩
theorem jrf {mask i j:Nat}(h:i<=mask)(hj:j∈run mask i):j<=mask:=by
 obtain⟨a,ha,rfl⟩:=List.mem_map.mp hj;have:=List.mem_range.mp ha;have:=jjy h;omega
theorem jrg (mask i p:Nat):(lp mask i p).1<=mask:=by
 show (i * 5 + 1 + p / 32) % (mask + 1)<=mask;exact Nat.le_of_lt_succ (Nat.mod_lt (i * 5 + 1 + p / 32) (Nat.succ_pos mask))
theorem jnI {mask:Nat}:∀{N i p j:Nat},i<=mask->j∈pth mask N i p->j<=mask
 |0,_,_,_,_,h=>by cases h
 |N + 1,i,p,j,hi,h=>by
  rcases List.mem_append.mp h with h | h
  ·exact jrf hi h
  ·exact jnI (jrg mask i p) h
theorem joJ (mask i:Nat):(run mask i).length<=10:=by
 have:=jlX mask i;simp only[run,juT,List.length_range];omega
theorem jjz (mask:Nat):∀(N i p:Nat),(pth mask N i p).length<=10 * N
 |0,_,_=>by simp[pth]
 |N + 1,i,p=>by
  have h1:=joJ mask i;have h2:=jjz mask N (lp mask i p).1 (lp mask i p).2;rw[pth,juY];omega
noncomputable def it (mask:Nat):Nat->Nat×Nat->Nat×Nat
 |0,s=>s
 |n + 1,s=>it mask n (lp mask s.1 s.2)
theorem jnJ (mask:Nat):∀{N n i p:Nat},n < N->(it mask n (i,p)).1∈pth mask N i p
 |0,_,_,_,h=>by omega
 |N + 1,0,i,p,_=>ju7 _ (jlY mask i)
 |N + 1,n + 1,i,p,h=>juV _ (jnJ mask (n:=n) (by omega))
theorem jnK (mask:Nat):∀(n m:Nat) (s:Nat×Nat),it mask (n + m) s=it mask m (it mask n s)
 |0,m,s=>by rw[Nat.zero_add];rfl
 |n + 1,m,s=>by rw[Nat.succ_add];exact jnK mask n m _
theorem jtV (mask:Nat):∀(n:Nat) (s:Nat×Nat),(it mask n s).2=s.2 / 32 ^ n
 |0,s=>by simp[it]
 |n + 1,s=>by
  show (it mask n (lp mask s.1 s.2)).2=_;rw[jtV mask n];show s.2 / 32 / 32 ^ n=_;rw[Nat.div_div_eq_div_mul,Nat.pow_succ,Nat.mul_comm]
theorem jjA (mask:Nat):∀(n i:Nat),i<=mask->(it mask n (i,0)).1=g n i % (mask + 1)
 |0,i,h=>by simp only[it,g];exact(Nat.mod_eq_of_lt (Nat.lt_succ_of_le h)).symm
 |n + 1,i,h=>by
  show (it mask n (lp mask i 0)).1=_;have e:lp mask i 0=((5 * i + 1) % (mask + 1),0):=by simp[lp,SetTable.leap,Nat.mul_comm]
  rw[e,jjA mask n _ (Nat.le_of_lt_succ (Nat.mod_lt (5 * i + 1) (Nat.succ_pos mask)))];have:g (n + 1) i=g n (5 * i + 1):=jrc n 1 i;rw[this];exact jre (Nat.mod_mod _ _) n
theorem jrh (mask:Nat):∀(n:Nat) (s:Nat×Nat),s.1<=mask->(it mask n s).1<=mask
 |0,s,h=>h
 |n + 1,s,h=>jrh mask n _ (jrg mask s.1 s.2)
theorem jjB {mask k i p:Nat}(hk:mask + 1=2 ^ k)(hi:i<=mask)(hp:p < 2 ^ 64):∀x,x<=mask->x∈pth mask (mask + 15) i p:=by
 intro x hx;have z:(it mask 13 (i,p)).2=0:=by
  rw[jtV];exact Nat.div_eq_of_lt (Nat.lt_trans hp (by decide))
 obtain⟨n,hn,e⟩:=jsU k (it mask 13 (i,p)).1 x (by omega)
 have h13:=jrh mask 13 (i,p) hi;have:(it mask (13 + n) (i,p)).1=x:=by
  rw[jnK];have:it mask 13 (i,p)=((it mask 13 (i,p)).1,0):=Prod.ext rfl z;rw[this,jjA mask n _ h13,hk];exact e
 rw[<-this];exact jnJ mask (by omega)
theorem jbO {occ:Nat->Bool}:∀{l:List Nat},(∃x∈l,occ x=false)->∃pre j post,l=pre++j::post/\occ j=false/\∀q∈pre,occ q=true
 |[],h=>by obtain⟨x,hx,_⟩:=h;cases hx
 |a::l,h=>by
  cases ha:occ a with
  |false=>exact⟨[],a,l,rfl,ha,fun q hq=>by cases hq⟩
  |true=>
   obtain⟨x,hx,ex⟩:=h;rcases List.mem_cons.mp hx with rfl | hx
   ·rw[ha]at ex;cases ex
   ·obtain⟨pre,j,post,e,hj,hp⟩:=jbO ⟨x,hx,ex⟩;exact⟨a::pre,j,post,by rw[e];rfl,hj,fun q hq=>(List.mem_cons.mp hq).elim (fun z=>z ▸ ha) (hp q)⟩
theorem jdO {f:Nat->Bool}:∀{pre:List Nat}{j:Nat}{post:List Nat},f j=true->(∀q∈pre,f q=false)->(pre++j::post).find? f=some j
 |[],j,post,h,_=>by simp[h]
 |a::pre,j,post,h,hp=>by
  rw[List.cons_append,List.find?_cons,hp a juM];exact jdO h fun q hq=>hp q (juL _ hq)
theorem jjC (mask:Nat)(owner:Array (Option Nat)):∀(N i p:Nat),SetTable.layClean.free mask owner N i p=(pth mask N i p).find? fun j=>(owner.getD j (some 0)).isNone
 |0,i,p=>by rw[SetTable.layClean.free.eq_1];rfl
 |N + 1,i,p=>by
  rw[SetTable.layClean.free.eq_2,pth,List.find?_append,run,List.find?_map];cases e:List.find? (fun k=>(owner.getD (i + k) (some 0)).isNone) (List.range (SetTable.runEnd mask i + 1 - i))with
  |some k=>
   have e':List.find? ((fun j=>(owner.getD j (some 0)).isNone) ∘ fun x=>i + x) (List.range (SetTable.runEnd mask i + 1 - i))=some k:=e;rw[e'];rfl
  |none=>
   have e':List.find? ((fun j=>(owner.getD j (some 0)).isNone) ∘ fun x=>i + x) (List.range (SetTable.runEnd mask i + 1 - i))=none:=e;rw[e'];exact jjC mask owner N _ _
end HS
namespace HS
open PySem
noncomputable def lst (mask:Nat)(p:SetTable.Probe)(N:Nat):List Nat:=(List.range (p.more + 1)).map (p.j + ·)++pth mask N (lp mask p.i p.perturb).1 (lp mask p.i p.perturb).2
theorem jjD (t:SetTable)(h:Int)(N:Nat):lst t.mask (t.probeStart h) N=pth t.mask (N + 1) (SetTable.bits h % (t.mask + 1)) (SetTable.bits h):=by
 have:=jc5 t.mask (SetTable.bits h % (t.mask + 1));show (List.range (SetTable.runEnd t.mask (SetTable.bits h % (t.mask + 1)) - SetTable.bits h % (t.mask + 1) + 1)).map _++_=run _ _++_;unfold run;rw[Nat.sub_add_comm this];rfl
theorem jhn (t:SetTable)(p:SetTable.Probe)(N:Nat):(lst t.mask p N=[p.j]/\N=0)\/∃N',lst t.mask p N=p.j::lst t.mask (t.advance p) N':=by
 by_cases hm:p.more > 0
 ·refine .inr ⟨N,?_⟩;have e:t.advance p={ j:=p.j + 1,more:=p.more - 1,i:=p.i,perturb:=p.perturb,dummy:=p.dummy }:=by unfold SetTable.advance;rw[if_pos hm]
  rw[e];simp only[lst];rw[show p.more - 1 + 1=p.more by omega,List.range_succ_eq_map,juR,List.map_map,List.cons_append]
  congr 2
  apply List.map_congr_left;intro a _;show p.j + (a + 1)=p.j + 1 + a;omega
 ·have h0:p.more=0:=by omega
  have e:t.advance p={ j:=(lp t.mask p.i p.perturb).1,more:=SetTable.runEnd t.mask (lp t.mask p.i p.perturb).1 - (lp t.mask p.i p.perturb).1,i:=(lp t.mask p.i p.perturb).1,perturb:=(lp t.mask p.i p.perturb).2,dummy:=p.dummy }:=by unfold SetTable.advance;rw[if_neg hm]
  cases N with
  |zero=>left;simp[lst,h0,pth]
  |succ N=>
   refine .inr ⟨N,?_⟩;have:=jc5 t.mask (lp t.mask p.i p.perturb).1;rw[e];simp only[lst,h0];rw[pth];unfold run;rw[Nat.sub_add_comm this];rfl
theorem jfn (t:SetTable)(p:SetTable.Probe):(t.advance p).dummy=p.dummy:=by
 unfold SetTable.advance;split <;> rfl
theorem jem {mask:Nat}{p:SetTable.Probe}{N j:Nat}{r:List Nat}(h:lst mask p N=j::r):p.j=j:=by
 unfold lst at h;rw[List.range_succ_eq_map,juR,List.cons_append]at h;exact(List.cons.inj h).1
theorem jgo {t:SetTable}{hashAt:Nat->Int}{h:Int}{j:Nat}{post:List Nat}:∀{pre:List Nat}{p:SetTable.Probe}{N fuel:Nat},lst t.mask p N=pre++j::post->p.dummy=none->(∀q∈pre,∃i,t.slot q=.live i/\(hashAt i == h)=false) ->
  ∃p' N',lst t.mask p' N'=j::post/\p'.dummy=none/\SetTable.probe.go t hashAt h (fuel + pre.length) p=SetTable.probe.go t hashAt h fuel p'
 |[],p,N,fuel,e,hd,_=>⟨p,N,e,hd,rfl⟩
 |q::pre,p,N,fuel,e,hd,hq=>by
  have hj:=jem e;obtain⟨i,hs,hh⟩:=hq q juM;rcases jhn t p N with ⟨z,_⟩ | ⟨N',z⟩
  ·rw[z]at e;have:=congrArg List.length e;simp at this
  ·have e2:lst t.mask (t.advance p) N'=pre++j::post:=by
    rw[z]at e;exact(List.cons.inj e).2
   obtain⟨p',N'',h1,h2,h3⟩:=jgo (fuel:=fuel) e2 ((jfn t p).trans hd) fun q' hq'=>hq q' (juL _ hq');refine⟨p',N'',h1,h2,?_⟩;rw[<-h3,juU,<-Nat.add_assoc,SetTable.probe.go.eq_2,hj,hs];simp only[hh];rfl
noncomputable def Asc (xs:List Nat):Prop:=xs.Pairwise (· < ·)
theorem Asc.get {xs:List Nat}(h:Asc xs){a b:Nat}(hab:a < b)(hb:b < xs.length):xs[a] < xs[b]:=List.pairwise_iff_getElem.mp h a b (by omega) hb hab
structure Blw (xs:List Nat)(j r:Nat):Prop where
 le:r<=xs.length
 lo:∀a (h:a < xs.length),a < r->xs[a] < j
 hi:∀a (h:a < xs.length),r<=a->j<=xs[a]
theorem jen {xs:Array Nat}{j:Nat}(asc:Asc xs.toList):∀(fuel lo hi:Nat),lo<=hi->hi<=xs.size->hi - lo<=fuel->(∀a (h:a < xs.toList.length),a < lo->xs.toList[a] < j)->(∀a (h:a < xs.toList.length),hi<=a->j<=xs.toList[a])->Blw xs.toList j (SetTable.below.go xs j fuel lo hi)
 |0,lo,hi,h1,h2,h3,l,u=>by
  rw[SetTable.below.go.eq_1];exact⟨by simp;omega,l,fun a h z=>u a h (by omega)⟩
 |fuel + 1,lo,hi,h1,h2,h3,l,u=>by
  rw[SetTable.below.go.eq_2];by_cases hlt:lo < hi
  ·rw[if_pos hlt];have hm:(lo + hi) / 2 < xs.size:=by omega
   have hm':(lo + hi) / 2 < xs.toList.length:=by simpa using hm
   have eg:xs.getD ((lo + hi) / 2) j=xs.toList[(lo + hi) / 2]:=by simp[Array.getD,hm]
   simp only[eg];by_cases hc:xs.toList[(lo + hi) / 2] < j
   ·rw[if_pos hc];refine jen asc fuel _ hi (by omega) h2 (by omega) (fun a h z=>?_) u
    rcases Nat.lt_or_ge a ((lo + hi) / 2)with q | q
    ·exact Nat.lt_trans (asc.get q hm') hc
    ·have:a=(lo + hi) / 2:=by omega
     subst this;exact hc
   ·rw[if_neg hc];refine jen asc fuel lo _ (by omega) (by omega) (by omega) l fun a h z=>?_
    rcases Nat.lt_or_ge ((lo + hi) / 2) a with q | q
    ·have:=asc.get q h;omega
    ·have:a=(lo + hi) / 2:=by omega
     subst this;omega
  ·rw[if_neg hlt];exact⟨by simp;omega,l,fun a h z=>u a h (by omega)⟩
theorem jeo {xs:Array Nat}(asc:Asc xs.toList)(j:Nat):Blw xs.toList j (SetTable.below xs j):=
 jen asc _ 0 _ (Nat.zero_le _) (jvq _) (by omega) (fun a _ z=>absurd z (Nat.not_lt_zero a)) fun a h z=>by simp at h;omega
theorem joK {xs:List Nat}{j r i:Nat}(b:Blw xs j r)(asc:Asc xs)(hi:xs[i]?=some j):r=i:=by
 obtain⟨h,e⟩:=List.getElem?_eq_some_iff.mp hi;rcases Nat.lt_trichotomy r i with z | z | z
 ·have h2:=asc.get z h;have h3:=b.hi r (by omega) (jvq _)
  omega
 ·exact z
 ·have:=b.lo i h z;omega
theorem jfo {t:SetTable}(asc:Asc t.place.toList){i j:Nat}(h:t.place.toList[i]?=some j):t.slot j=.live i:=by
 unfold SetTable.slot;have e:=joK (jeo asc j) asc h;simp only[e];rw[if_pos];simpa using h
theorem jid {t:SetTable}(hd:t.dummies=#[])(asc:Asc t.place.toList){j:Nat}(h:j ∉ t.place.toList):t.slot j=.empty:=by
 unfold SetTable.slot;simp only;rw[if_neg,if_neg]
 ·rw[hd];simp[SetTable.has]
 ·intro z;refine h ?_;have z:=beq_iff_eq.mp z;rw[<-Array.getElem?_toList]at z;exact juW z
noncomputable def jep (mask:Nat)(h:Int):List Nat:=pth mask (mask + 15) (SetTable.bits h % (mask + 1)) (SetTable.bits h)
noncomputable def Leads (mask:Nat)(O:Nat->Prop)(h:Int)(j:Nat):Prop:=∃pre post,jep mask h=pre++j::post/\∀q∈pre,O q
structure TabOk (mask:Nat)(place:List Nat)(hs:List Int):Prop where
 pow:∃k,mask + 1=2 ^ k
 asc:Asc place
 top:∀j∈place,j<=mask
 len:place.length=hs.length
 way:∀(i j:Nat) (h:Int),place[i]?=some j->hs[i]?=some h->Leads mask (·∈place) h j
theorem joL (h:Int):SetTable.bits h < 2 ^ 64:=by
 unfold SetTable.bits;omega
theorem jjE {mask k:Nat}(hk:mask + 1=2 ^ k)(h:Int){x:Nat}(hx:x<=mask):x∈jep mask h:=
 jjB hk (Nat.le_of_lt_succ (Nat.mod_lt _ (Nat.succ_pos mask))) (joL h) x hx
theorem jjF (mask:Nat)(h:Int){x:Nat}(hx:x∈jep mask h):x<=mask:=jnI (Nat.le_of_lt_succ (Nat.mod_lt _ (Nat.succ_pos mask))) hx
theorem joM (mask:Nat)(h:Int):(jep mask h).length<=10 * (mask + 15):=jjz _ _ _ _
theorem jlZ {n:Nat}{l:List Nat}(hl:l.length < n):∃x,x < n/\x ∉ l:=by
 induction n generalizing l with
 |zero=>omega
 |succ n ih=>
  by_cases hn:n∈l
  ·obtain⟨x,h1,h2⟩:=ih (l:=l.erase n) (by rw[List.length_erase_of_mem hn];have:=List.length_pos_of_mem hn;omega)
   refine⟨x,by omega,fun z=>h2 ?_⟩
   exact(List.mem_erase_of_ne (by omega)).mpr z
  ·exact⟨n,by omega,hn⟩
theorem TabOk.free {mask:Nat}{place:List Nat}{hs:List Int}(T:TabOk mask place hs)(hf:place.length<=mask)(h:Int):∃pre j post,jep mask h=pre++j::post/\j ∉ place/\∀q∈pre,q∈place:=by
 obtain⟨k,hk⟩:=T.pow;obtain⟨x,h1,h2⟩:=jlZ (n:=mask + 1) (l:=place) (by omega)
 obtain⟨pre,j,post,e,hj,hp⟩:=jbO (occ:=fun q=>decide (q∈place)) (l:=jep mask h) ⟨x,jjE hk h (by omega),decide_eq_false h2⟩
 exact⟨pre,j,post,e,of_decide_eq_false hj,fun q hq=>of_decide_eq_true (hp q hq)⟩
theorem Leads.mono {mask:Nat}{O O':Nat->Prop}{h:Int}{j:Nat}(l:Leads mask O h j)(k:∀q,O q->O' q):Leads mask O' h j:=
 let ⟨pre,post,e,hp⟩:=l;⟨pre,post,e,fun q hq=>k q (hp q hq)⟩
theorem joN {place:List Nat}{j r:Nat}(b:Blw place j r)(asc:Asc place)(hj:j ∉ place):Asc (place.take r++j::place.drop r):=by
 unfold Asc;rw[List.pairwise_append];refine⟨List.Pairwise.sublist (List.take_sublist _ _) asc,List.pairwise_cons.mpr ⟨fun x hx=>?_,List.Pairwise.sublist (List.drop_sublist _ _) asc⟩,fun x hx y hy=>?_⟩
 ·obtain⟨i,hi,e⟩:=List.getElem_of_mem hx;rw[List.length_drop]at hi;rw[List.getElem_drop]at e;have:=b.hi (r + i) (by omega) (by omega)
  rw[e]at this;have:j≠x:=fun z=>hj (z ▸ List.mem_of_mem_drop hx);omega
 ·obtain⟨i,hi,e⟩:=List.getElem_of_mem hx;rw[List.length_take]at hi;rw[List.getElem_take]at e;have hxj:x < j:=by rw[<-e];exact b.lo i (by omega) (by omega)
  rcases List.mem_cons.mp hy with rfl | hy
  ·exact hxj
  ·obtain⟨i',hi',e'⟩:=List.getElem_of_mem hy;rw[List.length_drop]at hi';rw[List.getElem_drop]at e';have:=b.hi (r + i') (by omega) (by omega)
   rw[e']at this;omega
theorem jjG {α:Type}{xs:List α}{r:Nat}{x:α}(hr:r<=xs.length)(i:Nat):(xs.take r++x::xs.drop r)[i]?=if i < r then xs[i]? else if i=r then some x else xs[i - 1]?:=by
 have hl:(xs.take r).length=r:=by rw[List.length_take];omega
 by_cases h1:i < r
 ·rw[if_pos h1,ju1 (by omega),List.getElem?_take,if_pos h1]
 ·rw[if_neg h1,juX (by omega),hl]
  by_cases h2:i=r
  ·subst h2;simp
  ·rw[if_neg h2];obtain⟨d,rfl⟩:∃d,i=r + d + 1:=⟨i - r - 1,by omega⟩
   rw[show r + d + 1 - r=d + 1 by omega,ju5,List.getElem?_drop]
   congr 1
theorem TabOk.put {mask:Nat}{place:List Nat}{hs:List Int}(T:TabOk mask place hs){r j:Nat}{h:Int}(b:Blw place j r)(hj:j ∉ place)(hm:j<=mask)(hl:Leads mask (·∈place) h j):TabOk mask (place.take r++j::place.drop r) (hs.take r++h::hs.drop r) where
 pow:=T.pow
 asc:=joN b T.asc hj
 top:=fun x hx=>by
  rcases List.mem_append.mp hx with hx | hx
  ·exact T.top x (List.mem_of_mem_take hx)
  ·rcases List.mem_cons.mp hx with rfl | hx
   ·exact hm
   ·exact T.top x (List.mem_of_mem_drop hx)
 len:=by simp[T.len]
 way:=fun i x y hx hy=>by
  have hmem:∀q,q∈place->q∈place.take r++j::place.drop r:=fun q hq=>by
   rw[<-List.take_append_drop r place]at hq;rcases List.mem_append.mp hq with hq | hq
   ·exact ju7 _ hq
   ·exact juV _ (juL _ hq)
  rw[jjG b.le]at hx;rw[jjG (by rw[<-T.len];exact b.le)]at hy
  by_cases h1:i < r
  ·rw[if_pos h1]at hx hy;exact(T.way i x y hx hy).mono hmem
  ·rw[if_neg h1]at hx hy;by_cases h2:i=r
   ·rw[if_pos h2]at hx hy;cases hx;cases hy;exact hl.mono hmem
   ·rw[if_neg h2]at hx hy;exact(T.way _ x y hx hy).mono hmem
end HS
namespace HS
open PySem
noncomputable abbrev taken (l:List (Option Nat))(q:Nat):Prop:=∃z,l[q]?=some (some z)
structure OwnOk (mask:Nat)(l:List (Option Nat))(hs:List Int):Prop where
 size:l.length=mask + 1
 perm:(l.filterMap id).Perm (List.range hs.length)
 way:∀j z,l[j]?=some (some z)->∃h,hs[z]?=some h/\Leads mask (taken l) h j
theorem jho:∀{l:List (Option Nat)},(l.filterMap id).length < l.length->∃x,x < l.length/\l[x]?=some none
 |[],h=>by simp at h
 |none::l,h=>⟨0,by simp,rfl⟩
 |some a::l,h=>by
  obtain⟨x,h1,h2⟩:=jho (l:=l) (by simpa using h)
  exact⟨x + 1,by simpa using h1,by simpa using h2⟩
theorem jgp:∀{l:List (Option Nat)}{j k:Nat},l[j]?=some none->((l.set j (some k)).filterMap id).Perm (k::l.filterMap id)
 |[],j,k,h=>by simp at h
 |x::l,0,k,h=>by
  have:x=none:=by simpa using h
  subst this;simp
 |none::l,j + 1,k,h=>by
  have:=jgp (l:=l) (j:=j) (k:=k) (by simpa using h)
  simpa using this
 |some a::l,j + 1,k,h=>by
  have:=jgp (l:=l) (j:=j) (k:=k) (by simpa using h)
  simp only[List.set_cons_succ,juZ,id];exact(List.Perm.cons a this).trans (List.Perm.swap k a _)
theorem jjH {l:List (Option Nat)}{j k:Nat}(hj:j < l.length)(q:Nat):(l.set j (some k))[q]?=if j=q then some (some k)else l[q]?:=by
 rw[juP];by_cases h:j=q
 ·rw[if_pos h,if_pos h,if_pos (h ▸ hj)]
 ·rw[if_neg h,if_neg h]
theorem OwnOk.step {mask:Nat}{owner:Array (Option Nat)}{hs:List Int}(O:OwnOk mask owner.toList hs)(hp:∃k,mask + 1=2 ^ k)(hl:hs.length<=mask)(h:Int) :
  ∃j,SetTable.layClean.free mask owner (SetTable.turns mask) (SetTable.bits h % (mask + 1)) (SetTable.bits h)=some j/\OwnOk mask (owner.setIfInBounds j (some hs.length)).toList (hs++[h]):=by
 obtain⟨kp,hkp⟩:=hp;have hlen:(owner.toList.filterMap id).length=hs.length:=by rw[O.perm.length_eq,List.length_range]
 obtain⟨x,hx,ex⟩:=jho (l:=owner.toList) (by rw[hlen,O.size];omega)
 have isn:∀q,q<=mask->((owner.getD q (some 0)).isNone=true↔owner.toList[q]?=some none):=fun q hq=>by
  have hq':q < owner.size:=by have:=O.size;simp at this;omega
  simp only[Array.getD,hq',dite_true];rw[Array.getElem?_toList,Array.getElem?_eq_getElem hq',Option.isNone_iff_eq_none];simp
 obtain⟨pre,j,post,e,hj,hpre⟩:=jbO (occ:=fun q=>!(owner.getD q (some 0)).isNone) (l:=jep mask h) ⟨x,jjE hkp h (by have:=O.size;omega),by
  simp only[Bool.not_eq_false'];exact(isn x (by have:=O.size;omega)).mpr ex⟩
 have hjm:j<=mask:=jjF mask h (by rw[e];simp)
 have hjn:owner.toList[j]?=some none:=(isn j hjm).mp (by simpa using hj)
 have hjl:j < owner.toList.length:=by have:=O.size;omega
 have hpt:∀q∈pre,taken owner.toList q:=fun q hq=>by
  have hqm:q<=mask:=jjF mask h (by rw[e];exact ju7 _ hq)
  have hq':q < owner.toList.length:=by have:=O.size;omega
  have:=hpre q hq;cases hv:owner.toList[q] with
  |none=>
   have h1:=(isn q hqm).mpr (by rw[juK hq',hv])
   have h2:(!(owner.getD q (some 0)).isNone)=true:=this;rw[h1]at h2;cases h2
  |some z=>exact⟨z,by rw[juK hq',hv]⟩
 refine⟨j,?_,?_⟩
 ·rw[jjC];show (jep mask h).find? _=_;rw[e];refine jdO (by simpa using hj) fun q hq=>?_
  have:=hpre q hq;simpa using this
 ·have es:(owner.setIfInBounds j (some hs.length)).toList=owner.toList.set j (some hs.length):=by simp
  rw[es];have mono:∀q,taken owner.toList q->taken (owner.toList.set j (some hs.length)) q:=fun q ⟨z,hz⟩=>by
   refine⟨z,?_⟩;rw[jjH hjl,if_neg]
   ·exact hz
   ·intro w;rw[<-w,hjn]at hz;cases hz
  refine⟨by rw[ju8];exact O.size,?_,fun q z hz=>?_⟩
  ·rw[juY,List.length_singleton,List.range_succ];exact(jgp hjn).trans ((List.Perm.cons _ O.perm).trans (List.perm_append_singleton _ _).symm)
  ·rw[jjH hjl]at hz;by_cases hq:j=q
   ·rw[if_pos hq]at hz;cases hz;subst hq;exact⟨h,by simp,pre,post,e,fun q hq=>mono q (hpt q hq)⟩
   ·rw[if_neg hq]at hz;obtain⟨h',e1,e2⟩:=O.way q z hz;exact⟨h',by rw[ju1 (List.getElem?_eq_some_iff.mp e1).1];exact e1,e2.mono mono⟩
theorem jdP {mask:Nat}(hp:∃k,mask + 1=2 ^ k):∀(more hs:List Int) (owner:Array (Option Nat)),OwnOk mask owner.toList hs->hs.length + more.length<=mask + 1 ->
  ∃owner',more.foldl (fun (acc:Option (Array (Option Nat)×Nat)) h=>do
    let __x <-acc
    match __x with
     |(owner,k)=>do
      let j <-SetTable.layClean.free mask owner (SetTable.turns mask) (SetTable.bits h % (mask + 1)) (SetTable.bits h)
      pure (owner.setIfInBounds j (some k),k + 1)) (some (owner,hs.length))=some (owner',(hs++more).length)/\OwnOk mask owner'.toList (hs++more)
 |[],hs,owner,O,_=>⟨owner,by simp,by simpa using O⟩
 |h::more,hs,owner,O,hl=>by
  obtain⟨j,e,O'⟩:=O.step hp (by simp at hl;omega) h
  obtain⟨owner',e',O''⟩:=jdP hp more (hs++[h]) _ O' (by simp at hl ⊢;omega)
  refine⟨owner',?_,by simpa using O''⟩
  rw[List.foldl_cons];have:(do
    let __x <-(some (owner,hs.length):Option (Array (Option Nat)×Nat))
    match __x with
     |(owner,k)=>do
      let j <-SetTable.layClean.free mask owner (SetTable.turns mask) (SetTable.bits h % (mask + 1)) (SetTable.bits h)
      pure (owner.setIfInBounds j (some k),k + 1))=some (owner.setIfInBounds j (some hs.length),(hs++[h]).length):=by
   show (do
      let j <-SetTable.layClean.free mask owner (SetTable.turns mask) (SetTable.bits h % (mask + 1)) (SetTable.bits h)
      pure (owner.setIfInBounds j (some hs.length),hs.length + 1))=_
   rw[e];simp
  rw[this,e'];simp
theorem jl0 {mask:Nat}(hp:∃k,mask + 1=2 ^ k)(hs:List Int)(hl:hs.length<=mask + 1):∃owner,SetTable.layClean mask hs.toArray=some owner/\OwnOk mask owner.toList hs:=by
 have O0:OwnOk mask (Array.replicate (mask + 1) (none:Option Nat)).toList []:=by
  refine⟨by simp,?_,fun j z hz=>?_⟩
  ·have:(Array.replicate (mask + 1) (none:Option Nat)).toList.filterMap id=[]:=by
    rw[List.filterMap_eq_nil_iff];intro a ha;simp at ha;simp[ha]
   rw[this];exact List.Perm.refl _
  ·simp[List.getElem?_replicate]at hz
 obtain⟨owner,e,O⟩:=jdP hp hs [] _ O0 (by simpa using hl)
 refine⟨owner,?_,by simpa using O⟩
 unfold SetTable.layClean;rw[<-Array.foldl_toList];show Option.map _ (hs.foldl _ (some (Array.replicate (mask + 1) none,([]:List Int).length)))=_;rw[e];rfl
theorem jeq {α β:Type}{f g:α->Option β}:∀{l:List α},(∀x∈l,f x=g x)->l.filterMap f=l.filterMap g
 |[],_=>rfl
 |x::l,h=>by rw[juZ,juZ,h x juM,jeq fun y hy=>h y (juL _ hy)]
theorem jl1 (l:List (Option Nat)):∀(a:Nat),((List.range' a l.length).filterMap fun j=>(l.getD (j - a) none).map fun x=>(j,x)).map (·.2)=l.filterMap id:=by
 induction l with
 |nil=>intro a;rfl
 |cons x l ih=>
  intro a;rw[juU,List.range'_succ,juZ];have e:(List.range' (a + 1) l.length).filterMap (fun j=>((x::l).getD (j - a) none).map fun y=>(j,y))=(List.range' (a + 1) l.length).filterMap (fun j=>(l.getD (j - (a + 1)) none).map fun y=>(j,y)):=by
   apply jeq;intro j hj;have:=(List.mem_range'_1.mp hj).1;rw[show j - a=(j - (a + 1)) + 1 by omega,List.getD_cons_succ]
  rw[e,Nat.sub_self,List.getD_cons_zero];cases x with
  |none=>simpa using ih (a + 1)
  |some y=>simpa using ih (a + 1)
theorem jl2 (n:Nat):List.range n=List.range' 0 n:=List.range_eq_range'
theorem jhp {l:List (Option Nat)}{j z:Nat}(h:(j,z)∈(List.range l.length).filterMap fun j=>(l.getD j none).map fun x=>(j,x)):l[j]?=some (some z):=by
 obtain⟨a,ha,e⟩:=List.mem_filterMap.mp h;obtain⟨y,e1,e2⟩:=Option.map_eq_some_iff.mp e;cases e2;rw[juS]at e1;cases q:l[j]? with
 |none=>rw[q]at e1;cases e1
 |some v=>rw[q]at e1;simp at e1;rw[e1]
theorem jl3 {l:List (Option Nat)}{j z:Nat}(h:l[j]?=some (some z)):(j,z)∈(List.range l.length).filterMap fun j=>(l.getD j none).map fun x=>(j,x):=by
 refine List.mem_filterMap.mpr ⟨j,List.mem_range.mpr (List.getElem?_eq_some_iff.mp h).1,?_⟩;rw[juS,h];rfl
theorem jl4 (l:List (Option Nat)):Asc (((List.range l.length).filterMap fun j=>(l.getD j none).map fun x=>(j,x)).map (·.1)):=by
 have:(((List.range l.length).filterMap fun j=>(l.getD j none).map fun x=>(j,x)).map (·.1)).Sublist (List.range l.length):=by
  rw[List.map_filterMap];have:(List.range l.length).filterMap (fun j=>Option.map (fun x=>x.1) ((l.getD j none).map fun x=>(j,x)))=(List.range l.length).filter (fun j=>(l.getD j none).isSome):=by
   rw[<-List.filterMap_eq_filter];apply jeq;intro j _;cases e:l.getD j none <;> simp only[Option.guard,Option.map_none,Option.map_some,e] <;> rfl
  rw[this];exact List.filter_sublist
 exact List.Pairwise.sublist this List.pairwise_lt_range
theorem joO {mask finger moves:Nat}{led plain:Bool}(hp:∃k,mask + 1=2 ^ k){α:Type}(es:List (Int×α))(hl:es.length<=mask + 1) :
  ∃(place order:List Nat),SetTable.laid mask finger moves led plain (es.map (·.1)).toArray=some ({ mask:=mask,place:=place.toArray,dummies:=#[],finger:=finger,led:=led,moves:=moves,plain:=plain },order.toArray) /\
   (order.filterMap (es[·]?)).Perm es/\TabOk mask place ((order.filterMap (es[·]?)).map (·.1)):=by
 obtain⟨owner,e,O⟩:=jl0 hp (es.map (·.1)) (by simpa using hl)
 have hsz:owner.toList.length=mask + 1:=O.size;let live:=(List.range owner.toList.length).filterMap fun j=>(owner.toList.getD j none).map fun x=>(j,x);have hord:live.map (·.2)=owner.toList.filterMap id:=by
  have:=jl1 owner.toList 0;rw[<-jl2]at this;simpa[live] using this
 have hperm:(live.map (·.2)).Perm (List.range es.length):=by
  rw[hord];simpa using O.perm
 have hlt:∀z∈live.map (·.2),z < es.length:=fun z hz=>List.mem_range.mp (hperm.mem_iff.mp hz);have hget:∀i:Nat,((live.map (·.2)).filterMap (es[·]?))[i]?=(live[i]?).bind fun p=>es[p.2]?:=by
  have gen:∀(l:List (Nat×Nat)),(∀z∈l.map (·.2),z < es.length)->∀i:Nat,((l.map (·.2)).filterMap (es[·]?))[i]?=(l[i]?).bind fun p=>es[p.2]?:=by
   intro l;induction l with
   |nil=>intro _ i;simp
   |cons p l ih=>
    intro h i;have hp:=h p.2 (by simp)
    rw[juR,juZ,juK hp];cases i with
    |zero=>simp[juK hp]
    |succ i=>simpa using ih (fun z hz=>h z (juL _ hz)) i
  exact gen live hlt
 refine⟨live.map (·.1),live.map (·.2),?_,?_,?_⟩
 ·unfold SetTable.laid;rw[e];have ed:∀j,owner.getD j none=owner.toList.getD j none:=fun j=>by simp[Array.getD_eq_getD_getElem?,juS]
  simp only[Option.bind_eq_bind,Option.bind_some,ed];simp only[live,hsz];rfl
 ·have h1:=hperm.filterMap (es[·]?);have h2:(List.range es.length).filterMap (es[·]?)=es:=by
   apply List.ext_getElem?;intro i;have:(List.range es.length).filterMap (es[·]?)=es:=by
    clear hget hlt hperm hord live hsz O e owner hl h1;induction es with
    |nil=>rfl
    |cons x es ih=>
     rw[juU,List.range_succ_eq_map,juZ,List.filterMap_map];simp only[ju4];congr 1
   rw[this]
  rw[h2]at h1;exact h1
 ·refine⟨hp,jl4 _,fun j hj=>?_,?_,fun i j h hi hh=>?_⟩
  ·obtain⟨⟨j',z⟩,hm,rfl⟩:=List.mem_map.mp hj;have:=(List.getElem?_eq_some_iff.mp (jhp hm)).1;show j'<=mask;omega
  ·rw[juT,juT];have:∀(l:List Nat),(∀z∈l,z < es.length)->(l.filterMap (es[·]?)).length=l.length:=by
    intro l;induction l with
    |nil=>intro _;rfl
    |cons a l ih=>
     intro h;rw[juZ,juK (h a juM)];simp[ih fun z hz=>h z (juL _ hz)]
   rw[this _ hlt,juT]
  ·rw[juQ]at hi hh;rw[hget]at hh;obtain⟨p,e1,e2⟩:=Option.map_eq_some_iff.mp hi;rw[e1]at hh;obtain⟨v,e3,e4⟩:=Option.map_eq_some_iff.mp hh;subst e2;have hown:=jhp (show (p.1,p.2)∈live from juW e1);obtain⟨h',e5,lead⟩:=O.way p.1 p.2 hown;have:h'=h:=by
    rw[juQ]at e5;have e3:es[p.2]?=some v:=e3;rw[e3]at e5;cases e5;exact e4
   subst this;exact lead.mono fun q ⟨z,hz⟩=>List.mem_map.mpr ⟨(q,z),jl3 hz,rfl⟩
end HS
namespace HS
open PySem PySem.Spec PyProof.Rows L2
noncomputable def tkz (prog:Program)(w:World)(Z:List Int->Addr->Prop):HeapKind prog w (List Int) where
 is:=fun h k a=>(tupleKind (intKind prog w)).is h k a/\Z k a
 hash:=(tupleKind (intKind prog w)).hash
 draws:=(tupleKind (intKind prog w)).draws
 room:=(tupleKind (intKind prog w)).room
 inj:=fun h1 h2=>(tupleKind (intKind prog w)).inj h1.1 h2.1
 keeps:=fun h1 h2 h3 h4=>⟨(tupleKind (intKind prog w)).keeps h1.1 h2 h3 h4,h1.2⟩
 pyHash:=fun h1 h2 q=>(tupleKind (intKind prog w)).pyHash h1 h2.1 q
 eqBool:=fun h1 h2 h3 q=>(tupleKind (intKind prog w)).eqBool h1 h2.1 h3.1 q
 quiet:=fun h1 q=>(tupleKind (intKind prog w)).quiet h1.1 q
section
variable {prog:Program}{w:World}{Z:List Int->Addr->Prop}{A:Around}{E:Value->Shared->Prop}{s:Shared}
theorem joP {mask:Nat}(h:∃k,mask + 1=2 ^ k)(h1:1<=mask):(mask % 2 == 0)=false:=by
 obtain⟨k,hk⟩:=h;cases k with
 |zero=>simp at hk;omega
 |succ k=>
  have:mask % 2=1:=by rw[Nat.pow_succ]at hk;omega
  simp[this]
noncomputable def El (prog:Program)(w:World)(Z:List Int->Addr->Prop)(h:Heap)(k:List Int)(e:Int×Value):Prop:=∃b,e=((tkz prog w Z).hash k,.ref b)/\(tkz prog w Z).is h k b
theorem joQ {b:Addr}{k:List Int}(hb:(tkz prog w Z).is s.heap k b)(hcs:∀(k':List Int) (b':Addr),(tkz prog w Z).is s.heap k' b'->∀{Q:Bool->Shared->Prop}{E:Value->Shared->Prop},Q false s->wpAny (model prog w) A (ofAClassStatement 8 (.ref b')) Q E s)
  (l:List Value) (hl:∀y∈l,∃k' b',y=.ref b'/\(tkz prog w Z).is s.heap k' b') {Q:Bool->Shared->Prop} (q:Q false s):wpAny (model prog w) A (searchCouldBeSeen (.ref b) l) Q E s:=by
 unfold searchCouldBeSeen;refine jvc (wpAny_forIn_list _ (fun (jdw:List Value) (bb:Option Bool×Unit) s'=>bb=(none,())/\s'=s/\∀y∈jdw,∃k' b',y=.ref b'/\(tkz prog w Z).is s.heap k' b') _ (fun y jdw bb s' hI=>?_) (fun bb s' hI=>?_) l (none,()) ⟨rfl,rfl,hl⟩)
 ·obtain⟨rfl,rfl,hy⟩:=hI;obtain⟨k',b',rfl,hb'⟩:=hy y juM;have hrest:∀y∈jdw,∃k' b',y=.ref b'/\(tkz prog w Z).is s'.heap k' b':=fun y h=>hy y (juL _ h);simp only;by_cases hv:((b == b') || carriedByValue (Value.ref b) && carriedByValue (Value.ref b'))=true
  ·rw[if_pos hv];exact jvd ⟨rfl,rfl,hrest⟩
  ·rw[if_neg hv];refine jvc ((tkz prog w Z).quiet hb ?_);refine jve rfl ?_;refine jvc ((tkz prog w Z).quiet hb' ?_);refine jve rfl ?_;refine jvc (hcs k b hb ?_);refine jve rfl ?_;refine jvc (hcs k' b' hb' ?_);refine jve rfl ?_;exact jvd ⟨rfl,rfl,hrest⟩
 ·obtain⟨rfl,rfl,_⟩:=hI;exact jvd q
noncomputable def cnd (t:SetTable)(es:Array (Int×Value))(h:Int)(q:Nat):Bool:=match t.slot q with
 |.live i=>(((es[i]?).map (·.1)).getD 0) == h
 |_=>false
theorem jtW {a b:Addr}{o:Obj}{es:Array (Int×Value)}{ep:Nat}{t:SetTable}{k:List Int}{j:Nat}{post:List Nat}{Q:SetFound->Shared->Prop}(hr:A.units < cLine)
  (hg:s.heap.get? a=some o) (hd:o.data=.set es ep t) (hf:t.fits es.size=true) (hpw:∃k,t.mask + 1=2 ^ k) (hm1:1<=t.mask) (hb:(tkz prog w Z).is s.heap k b)
  (hcs:∀(k':List Int) (b':Addr),(tkz prog w Z).is s.heap k' b'->∀{Q:Bool->Shared->Prop}{E:Value->Shared->Prop},Q false s->wpAny (model prog w) A (ofAClassStatement 8 (.ref b')) Q E s)
  (hel:∀e∈es.toList,∃k',El prog w Z s.heap k' e)
  (fin:(t.slot j=.empty/\Q (.free j false) s)\/∃i b',t.slot j=.live i/\es[i]?=some ((tkz prog w Z).hash k,.ref b')/\(tkz prog w Z).is s.heap k b'/\Q (.there none) s) :
  ∀(n:Nat) (pre:List Nat) (po:Option SetTable.Probe) (N fuel:Nat),pre.length < n->lst t.mask (po.getD (t.probeStart ((tkz prog w Z).hash k))) N=pre++j::post->(po.getD (t.probeStart ((tkz prog w Z).hash k))).dummy=none->pre.length < fuel->pre.length + 1<=10 * SetTable.turns t.mask ->
   (∀q∈pre,∃i k' b',t.slot q=.live i/\es[i]?=some ((tkz prog w Z).hash k',.ref b')/\(tkz prog w Z).is s.heap k' b'/\k'≠k) ->
   wpAny (model prog w) A (setSearchFrom a (.ref b) ((tkz prog w Z).hash k) true fuel po) Q E s:=by
 intro n;induction n with
 |zero=>intro pre po N fuel hn;omega
 |succ n ih=>
  intro pre po N fuel hn hl hdm hfu hlen hpre;obtain⟨fuel,rfl⟩:∃f,fuel=f + 1:=⟨fuel - 1,by omega⟩
  rw[setSearchFrom.eq_2];refine jvc (jvk hg hd hf ?_);refine jve (by rw[show t.gaveWay=(t.mask % 2 == 0)from rfl,joP hpw hm1];rfl) ?_
  have hA:∀{i:Nat}{k':List Int}{b':Addr},es[i]?=some ((tkz prog w Z).hash k',.ref b')->(fun i=>((es[i]?).map (·.1)).getD 0) i=(tkz prog w Z).hash k':=fun {i k' b'} e=>by simp only[e];rfl
  have PR:∃met,t.probe (fun i=>((es[i]?).map (·.1)).getD 0) ((tkz prog w Z).hash k) (po.getD (t.probeStart ((tkz prog w Z).hash k)))=some met/\((met=.empty j none/\Q (.free j false) s) \/
    ∃qc ic next k' b',met=.candidate qc ic next/\t.slot qc=.live ic/\es[ic]?=some ((tkz prog w Z).hash k',.ref b')/\(tkz prog w Z).is s.heap k' b'/\((k'=k/\Q (.there none) s)\/(k'≠k/\wpAny (model prog w) A (setSearchFrom a (.ref b) ((tkz prog w Z).hash k) true fuel (some next)) Q E s))):=by
   by_cases hc:∃q∈pre,(cnd t es ((tkz prog w Z).hash k) q)=true
   ·
    obtain⟨pre1,qc,pre2,e,hqc,hp1⟩:=jbO (occ:=fun q=>!(cnd t es ((tkz prog w Z).hash k) q)) (l:=pre) (let ⟨q,hq,e⟩:=hc;⟨q,hq,by rw[e];rfl⟩)
    subst e;obtain⟨ic,k',b',hs,he,hi,hne⟩:=hpre qc (by simp)
    simp only[cnd,hs]at hqc;have hh:((((es[ic]?).map (·.1)).getD 0) == (tkz prog w Z).hash k)=true:=by simpa using hqc
    rw[jva,List.cons_append]at hl;have hl10:pre1.length + 1<=10 * SetTable.turns t.mask:=by simp at hlen;omega
    obtain⟨p',N',h1,h2,h3⟩:=jgo (t:=t) (hashAt:=fun i=>((es[i]?).map (·.1)).getD 0) (h:=(tkz prog w Z).hash k) (fuel:=10 * SetTable.turns t.mask - pre1.length - 1 + 1) hl hdm (fun q hq=>by
     obtain⟨i,k'',b'',hs',he',_⟩:=hpre q (by simp[hq])
     refine⟨i,hs',?_⟩;have:=hp1 q hq;simp only[cnd,hs']at this;simpa using this)
    have hj:=jem h1;refine⟨.candidate qc ic (t.advance p'),?_,.inr ⟨qc,ic,t.advance p',k',b',rfl,hs,he,hi,.inr ⟨hne,?_⟩⟩⟩
    ·unfold SetTable.probe;rw[show 10 * SetTable.turns t.mask=10 * SetTable.turns t.mask - pre1.length - 1 + 1 + pre1.length by omega,h3,SetTable.probe.go.eq_2,hj,hs]
     simp only[hh,if_true]
    ·rcases jhn t p' N' with ⟨z,_⟩ | ⟨N'',z⟩
     ·rw[z]at h1;have:=congrArg List.length h1;simp at this
     ·have e2:lst t.mask (t.advance p') N''=pre2++j::post:=by
       rw[z]at h1;exact(List.cons.inj h1).2
      refine ih pre2 (some (t.advance p')) N'' fuel (by simp at hn;omega) e2 ((jfn t p').trans h2) (by simp at hfu;omega) (by simp at hlen;omega) fun q hq=>hpre q (by simp[hq])
   ·have hno:∀q∈pre,(cnd t es ((tkz prog w Z).hash k) q)=false:=fun q hq=>by
     cases e:(cnd t es ((tkz prog w Z).hash k) q)with
     |false=>rfl
     |true=>exact absurd ⟨q,hq,e⟩ hc
    obtain⟨p',N',h1,h2,h3⟩:=jgo (t:=t) (hashAt:=fun i=>((es[i]?).map (·.1)).getD 0) (h:=(tkz prog w Z).hash k) (fuel:=10 * SetTable.turns t.mask - pre.length - 1 + 1) hl hdm (fun q hq=>by
     obtain⟨i,k'',b'',hs',he',_⟩:=hpre q hq;refine⟨i,hs',?_⟩;have:=hno q hq;simp only[cnd,hs']at this;exact this)
    have hj:=jem h1;rcases fin with ⟨hs,hq⟩ | ⟨ic,b',hs,he,hi,hq⟩
    ·refine⟨.empty j none,?_,.inl ⟨rfl,hq⟩⟩;unfold SetTable.probe;rw[show 10 * SetTable.turns t.mask=10 * SetTable.turns t.mask - pre.length - 1 + 1 + pre.length by omega,h3,SetTable.probe.go.eq_2,hj,hs,h2]
    ·refine⟨.candidate j ic (t.advance p'),?_,.inr ⟨j,ic,t.advance p',k,b',rfl,hs,he,hi,.inl ⟨rfl,hq⟩⟩⟩;have hh:((((es[ic]?).map (·.1)).getD 0) == (tkz prog w Z).hash k)=true:=by rw[he];simp
     unfold SetTable.probe;rw[show 10 * SetTable.turns t.mask=10 * SetTable.turns t.mask - pre.length - 1 + 1 + pre.length by omega,h3,SetTable.probe.go.eq_2,hj,hs]
     simp only[hh,if_true]
  obtain⟨met,hp,hmet⟩:=PR;generalize hX:t.probe _ _ _=X;have hX2:X=some met:=hX.symm.trans hp;subst hX2;rcases hmet with ⟨rfl,hq⟩ | ⟨qc,ic,next,k',b',rfl,hs,he,hi,hq⟩
  ·exact jvd hq
  ·have seen:∀(m:Sem SetFound),wpAny (model prog w) A m Q E s->wpAny (model prog w) A (if (!t.led)=true then do
       let __do_lift <-searchCouldBeSeen (Value.ref b) (List.map (fun x=>x.snd) (Array.filter (fun x=>x.fst == (tkz prog w Z).hash k) es).toList)
       if __do_lift=true then do
         let __r <-unsupported "set:the-search-would-show-the-table"
         (fun (_:PUnit)=>m) __r
        else m
      else m) Q E s:=fun m hm=>by
    by_cases hled:(!t.led)=true
    ·rw[if_pos hled];refine jvc (joQ hb hcs _ (fun y hy=>?_) (jve rfl hm));obtain⟨e,he,rfl⟩:=List.mem_map.mp hy;have:=(Array.mem_filter.mp (Array.mem_toList_iff.mp he)).1;obtain⟨k'',b'',rfl,hb''⟩:=hel e (Array.mem_toList_iff.mpr this);exact⟨k'',b'',rfl,hb''⟩
    ·rw[if_neg hled];exact hm
   refine seen _ ?_;simp only[he];refine jvc (jvh ((tkz prog w Z).eqBool hr hi hb ?_));refine jvc (jvk hg hd hf ?_);rcases hq with ⟨rfl,hq⟩ | ⟨hne,hq⟩
   ·refine wpAny_ite_true (by simp) ?_
    exact jvd hq
   ·refine jve (by simp[hne]) ?_
    have hsm:t.sameMemory t.moves t.mask=some true:=by unfold SetTable.sameMemory;simp
    simp only[hsm,if_true,hs,he];refine jvc ?_;have:isSame (Value.ref b') (Value.ref b')=pure true:=by unfold isSame;simp
    rw[this];refine jvd (jvc (jvd ?_));simp only[if_true];refine jve (by simp[hne]) ?_
    exact hq
end
end HS
namespace HS
open PySem PySem.Spec PyProof.Rows L2
noncomputable def MaskOk (m:Nat):Prop:=m=7\/m=31\/m=127\/m=511\/m=2047\/m=8191
theorem MaskOk.pow {m:Nat}(h:MaskOk m):∃k,m + 1=2 ^ k:=by
 rcases h with rfl | rfl | rfl | rfl | rfl | rfl
 ·exact⟨3,rfl⟩
 ·exact⟨5,rfl⟩
 ·exact⟨7,rfl⟩
 ·exact⟨9,rfl⟩
 ·exact⟨11,rfl⟩
 ·exact⟨13,rfl⟩
theorem MaskOk.rng {m:Nat}(h:MaskOk m):7<=m/\m<=8191:=by rcases h with rfl | rfl | rfl | rfl | rfl | rfl <;> omega
theorem MaskOk.grow {m n:Nat}(h:MaskOk m)(h1:n * 5 < m * 3)(h2:(n + 1) * 5>=m * 3)(h3:n < 4000):MaskOk (SetTable.sizeAbove (SetTable.grown (n + 1)) - 1)/\(n + 1) * 5 < (SetTable.sizeAbove (SetTable.grown (n + 1)) - 1) * 3/\SetTable.sizeAbove (SetTable.grown (n + 1))<=8192:=by
 have e:∀c,n + 1=c->MaskOk (SetTable.sizeAbove (SetTable.grown c) - 1)/\c * 5 < (SetTable.sizeAbove (SetTable.grown c) - 1) * 3/\SetTable.sizeAbove (SetTable.grown c)<=8192->MaskOk (SetTable.sizeAbove (SetTable.grown (n + 1)) - 1)/\(n + 1) * 5 < (SetTable.sizeAbove (SetTable.grown (n + 1)) - 1) * 3/\SetTable.sizeAbove (SetTable.grown (n + 1))<=8192:=fun c hc z=>by rw[hc];exact z
 rcases h with rfl | rfl | rfl | rfl | rfl | rfl
 ·exact e 5 (by omega) ⟨.inr (.inl rfl),by decide,by decide⟩
 ·exact e 19 (by omega) ⟨.inr (.inr (.inl rfl)),by decide,by decide⟩
 ·exact e 77 (by omega) ⟨.inr (.inr (.inr (.inl rfl))),by decide,by decide⟩
 ·exact e 307 (by omega) ⟨.inr (.inr (.inr (.inr (.inl rfl)))),by decide,by decide⟩
 ·exact e 1229 (by omega) ⟨.inr (.inr (.inr (.inr (.inr rfl)))),by decide,by decide⟩
 ·omega
structure Tbl (t:SetTable)(es:List (Int×Value)):Prop where
 nd:t.dummies=#[]
 pl:t.plain=true
 mo:MaskOk t.mask
 ok:TabOk t.mask t.place.toList (es.map (·.1))
 sm:es.length * 5 < t.mask * 3
theorem Tbl.fits {t:SetTable}{es:Array (Int×Value)}(T:Tbl t es.toList):t.fits es.size=true:=by
 have h1:=T.ok.len;have h2:=T.sm;have h3:=T.mo.rng;simp at h1 h2;unfold SetTable.fits SetTable.fill;rw[T.nd,h1];simp;omega
inductive SetH (prog:Program) (w:World) (Z:List Int->Addr->Prop) (h:Heap) (a:Addr) (ks:List (List Int)):Prop
 |mk (o:_) (es:_) (ep:_) (t:_):(h.get? a=some o)->(o.ExactSet)->(o.data=.set es ep t)->(Tbl t es.toList)->(Paired (El prog w Z h) ks es.toList)->(ks.Nodup)->(t.led=!(w.params.followText "set-order"))->SetH prog w Z h a ks
theorem jfp {j:Nat}{post:List Nat}:∀(pre:List Nat),∃pre' post',pre++j::post=pre'++j::post'/\j ∉ pre'/\∀q∈pre',q∈pre
 |[]=>⟨[],post,rfl,by simp,fun _ h=>h⟩
 |q::pre=>by
  by_cases h:q=j
  ·subst h;exact⟨[],pre++q::post,rfl,by simp,fun _ z=>by cases z⟩
  ·obtain⟨pre',post',e,h1,h2⟩:=jfp pre;exact⟨q::pre',post',by rw[List.cons_append,e];rfl,fun z=>(List.mem_cons.mp z).elim (fun z=>h z.symm) h1,fun x hx=>(List.mem_cons.mp hx).elim (fun z=>by rw[z];simp) fun z=>juL _ (h2 x z)⟩
section
variable {prog:Program}{w:World}{Z:List Int->Addr->Prop}{A:Around}{E:Value->Shared->Prop}{s:Shared}
theorem jaK {α β:Type}{F:α->β->Prop}:∀{l₁:List α}{l₂:List β}{i:Nat}{b:β},Paired F l₁ l₂->l₂[i]?=some b->∃a,l₁[i]?=some a/\F a b
 |_,_,i,b,.nil,h=>by simp at h
 |_,_,0,b,.cons h _,e=>by simp at e;subst e;exact⟨_,rfl,h⟩
 |_,_,i + 1,b,.cons _ h,e=>by
  obtain⟨a,e1,e2⟩:=jaK h (by simpa using e)
  exact⟨a,by simpa using e1,e2⟩
theorem jc6 {α β:Type}{F:α->β->Prop}:∀{l₁:List α}{l₂:List β}{i:Nat}{a:α},Paired F l₁ l₂->l₁[i]?=some a->∃b,l₂[i]?=some b/\F a b
 |_,_,i,b,.nil,h=>by simp at h
 |_,_,0,b,.cons h _,e=>by simp at e;subst e;exact⟨_,rfl,h⟩
 |_,_,i + 1,b,.cons _ h,e=>by
  obtain⟨a,e1,e2⟩:=jc6 h (by simpa using e)
  exact⟨a,by simpa using e1,e2⟩
theorem jl5 {a b:Addr}{o:Obj}{es:Array (Int×Value)}{ep:Nat}{t:SetTable}{k:List Int}{ks:List (List Int)}{Q:SetFound->Shared->Prop}(hr:A.units < cLine)
  (hg:s.heap.get? a=some o) (hd:o.data=.set es ep t) (T:Tbl t es.toList) (hP:Paired (El prog w Z s.heap) ks es.toList) (hn:ks.Nodup) (hb:(tkz prog w Z).is s.heap k b)
  (hcs:∀(k':List Int) (b':Addr),(tkz prog w Z).is s.heap k' b'->∀{Q:Bool->Shared->Prop}{E:Value->Shared->Prop},Q false s->wpAny (model prog w) A (ofAClassStatement 8 (.ref b')) Q E s)
  (there:k∈ks->Q (.there none) s) (free:k ∉ ks->∀j,j<=t.mask->j ∉ t.place.toList->Leads t.mask (·∈t.place.toList) ((tkz prog w Z).hash k) j->Q (.free j false) s) :
  wpAny (model prog w) A (setSearch a (.ref b) ((tkz prog w Z).hash k) true) Q E s:=by
 obtain⟨hm7,hm8⟩:=T.mo.rng;have hlen:t.place.toList.length=es.toList.length:=by have:=T.ok.len;simpa using this
 have hel:∀e∈es.toList,∃k',El prog w Z s.heap k' e:=fun e he=>by
  obtain⟨i,hi,rfl⟩:=List.getElem_of_mem he;obtain⟨k',_,h⟩:=jaK hP (juK hi);exact⟨k',h⟩
 have at_:∀q,q∈t.place.toList->∃i k' b',t.place.toList[i]?=some q/\ks[i]?=some k'/\t.slot q=.live i/\es[i]?=some ((tkz prog w Z).hash k',.ref b')/\(tkz prog w Z).is s.heap k' b':=fun q hq=>by
  obtain⟨i,hi,e⟩:=List.getElem_of_mem hq;have hi':i < es.toList.length:=by omega
  obtain⟨k',e1,b',e2,e3⟩:=jaK hP (juK hi');refine⟨i,k',b',by rw[juK hi,e],e1,jfo T.ok.asc (by rw[juK hi,e]),?_,e3⟩
  rw[<-Array.getElem?_toList,juK hi',e2]
 have hstart:lst t.mask ((none:Option SetTable.Probe).getD (t.probeStart ((tkz prog w Z).hash k))) (t.mask + 14)=jep t.mask ((tkz prog w Z).hash k):=jjD t _ _;have hwl:=joM t.mask ((tkz prog w Z).hash k);unfold setSearch;by_cases hk:k∈ks
 ·obtain⟨i,hi,e⟩:=List.getElem_of_mem hk;obtain⟨e',he1,b',rfl,hb'⟩:=jc6 hP (by rw[juK hi,e])
  have hi':i < t.place.toList.length:=by rw[hlen];exact(List.getElem?_eq_some_iff.mp he1).1
  obtain⟨pre0,post0,ew,hp0⟩:=T.ok.way i t.place.toList[i] ((tkz prog w Z).hash k) (juK hi') (by rw[juQ,he1];rfl)
  obtain⟨pre,post,ew2,hnj,hsub⟩:=jfp (j:=t.place.toList[i]) (post:=post0) pre0;rw[ew2]at ew;have hpl:pre.length + 1<=10 * (t.mask + 15):=by rw[ew]at hwl;simp at hwl;omega
  refine jtW hr hg hd T.fits T.mo.pow (by omega) hb hcs hel (.inr ⟨i,b',jfo T.ok.asc (juK hi'),by rw[<-Array.getElem?_toList];exact he1,hb',there hk⟩) (pre.length + 1) pre none (t.mask + 14) 100000 (Nat.lt_succ_self _) (hstart.trans ew) rfl (by omega) hpl fun q hq=>?_
  obtain⟨i',k',b'',h1,h2,h3,h4,h5⟩:=at_ q (hp0 q (hsub q hq));refine⟨i',k',b'',h3,h4,h5,fun z=>?_⟩;subst z;have:i'=i:=by
   obtain⟨hi2,e2⟩:=List.getElem?_eq_some_iff.mp h2;exact(List.getElem_inj hn).mp (e2.trans e.symm)
  subst this;rw[juK hi']at h1;cases h1;exact hnj hq
 ·obtain⟨pre,j,post,ew,hj,hp⟩:=T.ok.free (by have:=T.sm;omega) ((tkz prog w Z).hash k)
  have hpl:pre.length + 1<=10 * (t.mask + 15):=by rw[ew]at hwl;simp at hwl;omega
  refine jtW hr hg hd T.fits T.mo.pow (by omega) hb hcs hel (.inl ⟨jid T.nd T.ok.asc hj,free hk j (jjF _ _ (by rw[ew];simp)) hj ⟨pre,post,ew,hp⟩⟩) (pre.length + 1) pre none (t.mask + 14) 100000 (Nat.lt_succ_self _) (hstart.trans ew) rfl (by omega) hpl fun q hq=>?_
  obtain⟨i',k',b'',h1,h2,h3,h4,h5⟩:=at_ q (hp q hq);exact⟨i',k',b'',h3,h4,h5,fun z=>hk (z ▸ juW h2)⟩
end
end HS
namespace HS
open PySem PySem.Spec PyProof.Rows L2
section
variable {prog:Program}{w:World}{Z:List Int->Addr->Prop}{A:Around}{E:Value->Shared->Prop}{s:Shared}
theorem jjI {h h':Heap}{k:List Int}{b:Addr}(hb:(tkz prog w Z).is h k b)(e:∀o,h.get? b=some o->h'.get? b=some o):(tkz prog w Z).is h' k b:=by
 obtain⟨⟨o,items,n,h1,h2⟩,z⟩:=hb;exact⟨⟨o,items,n,e o h1,h2⟩,z⟩
theorem jri {h:Heap}{k:List Int}{a b:Addr}{o:Obj}{es:Array (Int×Value)}{ep:Nat}{t:SetTable}(hb:(tkz prog w Z).is h k b)(hg:h.get? a=some o)(hd:o.data=.set es ep t):b≠a:=by
 obtain⟨⟨o',items,n,h1,_,h3,_⟩,_⟩:=hb;intro z;subst z;rw[hg]at h1;cases h1;rw[hd]at h3;cases h3
theorem jjJ {h h':Heap}{a:Addr}(ne:∀k b,(tkz prog w Z).is h k b->b≠a)(sb:∀b,b≠a->h'.get? b=h.get? b):∀{ks:List (List Int)}{es:List (Int×Value)},Paired (El prog w Z h) ks es->Paired (El prog w Z h') ks es:=fun p=>
 Paired.mapP p fun k e ⟨b,h1,h2⟩=>⟨b,h1,jjI h2 fun o z=>(sb b (ne k b h2)).trans z⟩
theorem jdQ {α β:Type}{F:α->β->Prop}{a:α}{b:β}(hab:F a b):∀{l₁:List α}{l₂:List β} (r:Nat),Paired F l₁ l₂->Paired F (l₁.take r++a::l₁.drop r) (l₂.take r++b::l₂.drop r)
 |_,_,0,p=>by simpa using Paired.cons hab p
 |_,_,r + 1,.nil=>by simpa using Paired.cons hab Paired.nil
 |_,_,r + 1,.cons h p=>by simpa using Paired.cons h (jdQ hab r p)
theorem jjK {α:Type}{l:List α}{r:Nat}{x y:α}:y∈l.take r++x::l.drop r↔y=x\/y∈l:=by
 rw[List.mem_append,juN];constructor
 ·rintro (h | h | h)
  ·exact .inr (List.mem_of_mem_take h)
  ·exact .inl h
  ·exact .inr (List.mem_of_mem_drop h)
 ·rintro (h | h)
  ·exact .inr (.inl h)
  ·rw[<-List.take_append_drop r l,List.mem_append]at h;exact h.elim .inl fun z=>.inr (.inr z)
theorem jfq {α:Type}{l:List α}{r:Nat}{x:α}(hn:l.Nodup)(hx:x ∉ l):(l.take r++x::l.drop r).Nodup:=by
 have h1:(x::l).Nodup:=List.nodup_cons.mpr ⟨hx,hn⟩;have:(l.take r++x::l.drop r).Perm (x::l):=by
  have:=List.perm_middle (a:=x) (l₁:=l.take r) (l₂:=l.drop r);rwa [List.take_append_drop]at this
 exact this.nodup_iff.mpr h1
theorem jgq {α:Type}{l:List α}{r:Nat}{x:α}:(l.take r++x::l.drop r).length=l.length + 1:=by
 rw[juY,juU,List.length_take,List.length_drop];omega
theorem joR {α β:Type}{f:α->β}{l:List α}{r:Nat}{x:α}:(l.take r++x::l.drop r).map f=(l.map f).take r++f x::(l.map f).drop r:=by simp
theorem jc7 {α β:Type}{F:α->β->Prop}{l₂ l₂':List β}(h:l₂'.Perm l₂):∀{l₁:List α},Paired F l₁ l₂->∃l₁',l₁'.Perm l₁/\Paired F l₁' l₂':=by
 induction h with
 |nil=>intro l₁ p;cases p;exact⟨[],.refl _,.nil⟩
 |cons x _ ih=>
  intro l₁ p;cases p with
  |cons h p=>
   obtain⟨l,h1,h2⟩:=ih p;exact⟨_::l,h1.cons _,.cons h h2⟩
 |swap x y l=>
  intro l₁ p;cases p with
  |cons h p=>
   cases p with
   |cons h' p=>exact⟨_::_::_,.swap _ _ _,.cons h' (.cons h p)⟩
 |trans _ _ ih1 ih2=>
  intro l₁ p;obtain⟨l,h1,h2⟩:=ih2 p;obtain⟨l',h3,h4⟩:=ih1 h2;exact⟨l',h3.trans h1,h4⟩
theorem jjL {a b:Addr}{k:List Int}{ks:List (List Int)}{Q:Bool->Shared->Prop}(hr:A.units < cLine)(hS:SetH prog w Z s.heap a ks)(hb:(tkz prog w Z).is s.heap k b)(hl:ks.length < 4000)
  (hcs:∀(s':Shared) (k':List Int) (b':Addr),(tkz prog w Z).is s'.heap k' b'->∀{Q:Bool->Shared->Prop}{E:Value->Shared->Prop},Q false s'->wpAny (model prog w) A (ofAClassStatement 8 (.ref b')) Q E s')
  (hbv:∀(s':Shared),(tkz prog w Z).is s'.heap k b->∀{Q:Bool->Shared->Prop}{E:Value->Shared->Prop},Q true s'->wpAny (model prog w) A (hashByValue 8 (.ref b)) Q E s')
  (q:∀(r:Bool) (h':Heap) (tk:Nat) (ks':List (List Int)),s.toks<=tk->Heap.SameBut a s.heap h'->SetH prog w Z h' a ks'->(∀y,y∈ks'↔y=k\/y∈ks)->ks'.length<=ks.length + 1->Q r { s with heap:=h',toks:=tk }) :
  wpAny (model prog w) A (setAdd a (.ref b)) Q E s:=by
 obtain⟨o,es,ep,t,hg,hx,hd,T,hP,hn,hled⟩:=hS;have hne:∀k b,(tkz prog w Z).is s.heap k b->b≠a:=fun k b h=>jri h hg hd;unfold setAdd;refine jvh (jvc ((tkz prog w Z).pyHash hr hb ?_));generalize hs':({ heap:=s.heap,gens:=s.gens,drawn:=s.drawn,toks:=s.toks + (tkz prog w Z).draws k,os:=s.os }:Shared)=s';have hs'h:s'.heap=s.heap:=by rw[<-hs']
 unfold setAddHashed;refine jvh ?_;rw[show (100000:Nat)=99999 + 1 from rfl,setAddHashedIn.eq_2];have hg':s'.heap.get? a=some o:=by rw[hs'h];exact hg
 refine jvc (jvk hg' hd T.fits ?_);refine jve (by simp[byScan,Value.scannable]) ?_
 have hP':Paired (El prog w Z s'.heap) ks es.toList:=by rw[hs'h];exact hP
 have hb':(tkz prog w Z).is s'.heap k b:=by rw[hs'h];exact hb
 refine jvc (jl5 hr hg' hd T hP' hn hb' (hcs s') (fun hk=>?_) fun hk j hj1 hj2 hlead=>?_)
 ·refine jvd ?_;have:=q false s.heap (s.toks + (tkz prog w Z).draws k) ks (Nat.le_add_right _ _) ⟨rfl,fun _ _=>rfl⟩ ⟨o,es,ep,t,hg,hx,hd,T,hP,hn,hled⟩ (fun y=>⟨fun h=>.inr h,fun h=>h.elim (fun z=>z ▸ hk) id⟩) (Nat.le_succ _);rw[hs']at this;exact this
 ·refine jvc (jvk hg' hd T.fits ?_);have hsm:=T.sm;have hml:=T.mo.rng;have hpl:t.plain=true:=T.pl;have hasd:SetTable.has t.dummies j=false:=by rw[T.nd];simp[SetTable.has]
  simp only[SetTable.put,hasd,hpl,jvw,if_false,if_true];refine jvc (hbv s' hb' ?_);simp only[if_true];obtain⟨es1,hes1⟩:∃x,x=SetTable.insertAt es (SetTable.below t.place j) ((tkz prog w Z).hash k,Value.ref b):=⟨_,rfl⟩;obtain⟨t1,ht1⟩:∃x:SetTable,x={ mask:=t.mask,place:=SetTable.insertAt t.place (SetTable.below t.place j) j,dummies:=t.dummies,finger:=t.finger,led:=t.led,moves:=t.moves,plain:=true }:=⟨_,rfl⟩;rw[<-hes1,<-ht1];have el1:es1.toList=es.toList.take (SetTable.below t.place j)++((tkz prog w Z).hash k,Value.ref b)::es.toList.drop (SetTable.below t.place j):=by rw[hes1];exact SetTable.toList_insertAt _ _ _
  have pl1:t1.place.toList=t.place.toList.take (SetTable.below t.place j)++j::t.place.toList.drop (SetTable.below t.place j):=by rw[ht1];exact SetTable.toList_insertAt _ _ _
  have sz1:es1.size=es.size + 1:=by
   have h1:=congrArg List.length el1;rw[jgq]at h1;simpa using h1
  have hkl:ks.length=es.size:=by have:=Paired.length hP;simpa using this
  have ok1:TabOk t1.mask t1.place.toList (es1.toList.map (·.1)):=by
   rw[pl1,el1,joR,show t1.mask=t.mask by rw[ht1]]
   exact T.ok.put (jeo T.ok.asc j) hj2 hj1 hlead
  have f1:t1.fits es1.size=true:=by
   have h1:=ok1.len;unfold SetTable.fits SetTable.fill;rw[show t1.dummies=#[] by rw[ht1];exact T.nd,show t1.mask=t.mask by rw[ht1]]
   simp at h1 hsm ⊢;omega
  have P1:Paired (El prog w Z s'.heap) (ks.take (SetTable.below t.place j)++k::ks.drop (SetTable.below t.place j)) es1.toList:=by
   rw[el1];exact jdQ ⟨b,rfl,hb'⟩ _ hP'
  have hsl:es1.size<=sizeLine:=by rw[sz1,sizeLine_eq];omega
  refine jvc (wpAny_storeSet_of hg' hd ?_ hsl);have e1:=jvo (Obj.putSet es1 t1) hg' (by obtain⟨c,dd,da,sl⟩:=o;cases hd;rfl)
  have ob1:Obj.putSet es1 t1 o={ o with data:=.set es1 (ep + 1) t1 }:=by obtain⟨c,dd,da,sl⟩:=o;cases hd;rfl
  rw[ob1]at e1;have oth:∀c,c≠a->(s'.heap.update a (Obj.putSet es1 t1)).get? c=s'.heap.get? c:=fun c hc=>jvp _ _ (Ne.symm hc);have hne':∀k b,(tkz prog w Z).is s'.heap k b->b≠a:=fun k b h=>jri h hg' hd;by_cases hfull:(!false && t1.tooFull)=true
  ·rw[if_pos hfull];have hfl:t1.tooFull=true:=by simpa using hfull
   have hz1:t1.place.toList.length=es1.toList.length:=by have:=ok1.len;simpa using this
   have htf:(es.size + 1) * 5>=t.mask * 3:=by
    unfold SetTable.tooFull SetTable.fill at hfl;rw[show t1.dummies=#[] by rw[ht1];exact T.nd,show t1.mask=t.mask by rw[ht1]]at hfl
    simp at hfl hz1;omega
   obtain⟨g1,g2,g3⟩:=T.mo.grow (n:=es.size) (by simpa using hsm) htf (by omega)
   obtain⟨place,order,hla,hpe,htb⟩:=joO (finger:=t1.finger) (moves:=t1.movedTo (SetTable.sizeAbove (SetTable.grown (es.size + 1)) - 1)) (led:=t1.led) (plain:=t1.plain) g1.pow es1.toList (by
    have:es1.toList.length=es.size + 1:=by simpa using sz1
    rw[this];omega)
   obtain⟨es2,hes2⟩:∃x:Array (Int×Value),x=Array.filterMap (fun x=>es1[x]?) order.toArray:=⟨_,rfl⟩;have el2:es2.toList=order.filterMap (es1.toList[·]?):=by rw[hes2];simp
   have sz2:es2.size=es1.size:=by
    have:=hpe.length_eq;rw[<-el2]at this;simpa using this
   obtain⟨t2,ht2⟩:∃x:SetTable,x={ mask:=SetTable.sizeAbove (SetTable.grown (es.size + 1)) - 1,place:=place.toArray,dummies:=#[],finger:=t1.finger,led:=t1.led,moves:=t1.movedTo (SetTable.sizeAbove (SetTable.grown (es.size + 1)) - 1),plain:=t1.plain }:=⟨_,rfl⟩;refine jvc ?_;unfold setRelay;refine jvc (jvk e1 rfl f1 ?_);refine jve (decide_eq_false (by rw[sizeLine_eq];omega)) ?_
   have hrel:t1.relaid (Array.map (fun x=>x.fst) es1) (SetTable.grown (es.size + 1))=some (t2,order.toArray):=by
    rw[ht2,<-hla];unfold SetTable.relaid;congr 1;apply Array.ext';simp
   refine jvc (jvf (a:=(es2,t2)) ?_ ?_)
   ·rw[hrel];show (if ((Array.filterMap (fun x=>es1[x]?) order.toArray).size != es1.size)=true then _ else pure (Array.filterMap (fun x=>es1[x]?) order.toArray,t2))=_;rw[if_neg (by rw[<-hes2,sz2];simp),hes2]
   ·refine wpAny_storeSet_of e1 rfl ?_ (by rw[sz2];exact hsl)
    obtain⟨ks2,hk1,hk2⟩:=jc7 (show es2.toList.Perm es1.toList by rw[el2];exact hpe) P1
    refine jvd ?_;have e2:=jvo (Obj.putSet es2 t2) e1 rfl;have oth2:∀c,c≠a->((s'.heap.update a (Obj.putSet es1 t1)).update a (Obj.putSet es2 t2)).get? c=s'.heap.get? c:=fun c hc=>(jvp _ _ (Ne.symm hc)).trans (oth c hc);have:=q true ((s'.heap.update a (Obj.putSet es1 t1)).update a (Obj.putSet es2 t2)) s'.toks ks2 (by rw[<-hs'];exact Nat.le_add_right _ _) ⟨by rw[Heap.size_update,Heap.size_update,hs'h],fun c hc=>by rw[oth2 c hc,hs'h]⟩
     ⟨_,es2,ep + 2,t2,e2,hx,rfl,⟨by rw[ht2],by rw[ht2,ht1],by rw[ht2];exact g1,?_,?_⟩,jjJ hne' oth2 hk2,hk1.nodup_iff.mpr (jfq hn hk),by rw[ht2,ht1];exact hled⟩ (fun y=>by rw[hk1.mem_iff];exact jjK) (by rw[hk1.length_eq,jgq];omega)
    ·rw[<-hs']at this ⊢;exact this
    ·rw[ht2,el2];exact htb
    ·rw[ht2];have:es2.toList.length=es.size + 1:=by simp[sz2,sz1]
     rw[this];exact g2
  ·rw[if_neg hfull];refine jvd ?_;have:=q true (s'.heap.update a (Obj.putSet es1 t1)) s'.toks (ks.take (SetTable.below t.place j)++k::ks.drop (SetTable.below t.place j)) (by rw[<-hs'];exact Nat.le_add_right _ _) ⟨by rw[Heap.size_update,hs'h],fun c hc=>by rw[oth c hc,hs'h]⟩
    ⟨_,es1,ep + 1,t1,e1,hx,rfl,⟨by rw[ht1];exact T.nd,by rw[ht1],by rw[ht1];exact T.mo,ok1,?_⟩,jjJ hne' oth P1,jfq hn hk,by rw[ht1];exact hled⟩ (fun y=>jjK) (by rw[jgq];omega)
   ·rw[<-hs']at this ⊢;exact this
   ·have h1:=ok1.len;simp only[Bool.not_false,Bool.true_and,SetTable.tooFull,SetTable.fill,decide_eq_true_eq,ge_iff_le,Nat.not_le]at hfull;rw[show t1.dummies=#[] by rw[ht1];exact T.nd]at hfull
    simp at h1 hfull ⊢;omega
end
end HS
namespace HS
open PySem PySem.Spec PyProof.Rows L2
theorem joS:typeLookup (Value.type "tuple") (Str.ofString "__hash__")=pure (some (Value.builtin "tuple.__hash__")):=by rfl
section
variable {prog:Program}{w:World}{Z:List Int->Addr->Prop}{A:Around}{E:Value->Shared->Prop}{s:Shared}
theorem items_int {ks:List Int}{vs:List Value}(h:PySem.ItemsAre (intKind prog w) ks vs):∀v∈vs,∃i t,v=Value.int i t:=by
 induction h with
 |nil=>intro v hv;cases hv
 |cons hk _ ih=>
  intro v hv;rcases List.mem_cons.mp hv with rfl | hv
  ·rename_i k _ _ _;have hk:Value.isInt k v=true:=hk;cases v <;> simp[Value.isInt]at hk
   exact⟨_,_,rfl⟩
  ·exact ih v hv
theorem jdR {α:Type}{f:α->Option Bool×Unit->Sem (ForInStep (Option Bool×Unit))}{xs:Array α}{Q:Option Bool×Unit->Shared->Prop}(hf:∀x∈xs.toList,∀{Q:ForInStep (Option Bool×Unit)->Shared->Prop},Q (.yield (none,())) s->wpAny (model prog w) A (f x (none,())) Q E s)(q:Q (none,()) s) :
  wpAny (model prog w) A (forIn xs (none,()) f) Q E s:=by
 rw[<-Array.forIn_toList];refine wpAny_forIn_list f (fun (jdw:List α) bb s'=>bb=(none,())/\s'=s/\∀x∈jdw,x∈xs.toList) Q (fun x jdw bb s' hI=>?_) (fun bb s' hI=>?_) xs.toList (none,()) ⟨rfl,rfl,fun _ h=>h⟩
 ·obtain⟨rfl,rfl,h⟩:=hI;exact hf x (h x juM) ⟨rfl,rfl,fun y hy=>h y (juL _ hy)⟩
 ·obtain⟨rfl,rfl,_⟩:=hI;exact q
theorem jrj {k:List Int}{b:Addr}(hb:(tkz prog w Z).is s.heap k b){Q:Bool->Shared->Prop}(q:Q true s):wpAny (model prog w) A (hashByValue 8 (.ref b)) Q E s:=by
 obtain⟨⟨o,items,n,h1,h2,h3,h4⟩,_⟩:=hb;rw[show (8:Nat)=7 + 1 from rfl,hashByValue.eq_12];refine jvc (wpAny_specialOf (T:="tuple") ⟨o,h1,h2⟩ joS ?_);refine jvc (wpAny_seqItems h1 h3 ?_);refine jvc (jdR (fun v hv Q q=>?_) ?_)
 ·obtain⟨i,t,rfl⟩:=items_int h4 v hv;rw[hashByValue.eq_3];refine jvc (jvd ?_);exact jve rfl (jvd q)
 ·exact jvd q
theorem jrk {k:List Int}{b:Addr}(hb:(tkz prog w Z).is s.heap k b){Q:Bool->Shared->Prop}(q:Q false s):wpAny (model prog w) A (ofAClassStatement 8 (.ref b)) Q E s:=by
 obtain⟨⟨o,items,n,h1,h2,h3,h4⟩,_⟩:=hb;rw[show (8:Nat)=7 + 1 from rfl,ofAClassStatement.eq_2];refine jvc (wpAny_typeOf (T:="tuple") ⟨o,h1,h2⟩ ?_);refine wpAny_ite_true rfl ?_;refine jvc (jvd ?_);refine jve rfl ?_;refine jvc (wpAny_seqItems h1 h3 ?_);refine jvc (jdR (fun v hv Q q=>?_) ?_)
 ·obtain⟨i,t,rfl⟩:=items_int h4 v hv;rw[ofAClassStatement.eq_3 _ _ (fun a z=>by cases z)]
  refine jvc (jvd ?_);exact jve rfl (jvd q)
 ·exact jvd q
theorem jcd {Q:Bool->Shared->Prop}(q:Q (w.params.followText "set-order") s):wpAny (model prog w) A setsByText Q E s:=by
 unfold setsByText;intro Γ p hΓ;exact q
theorem jfr (a:Value){Q₁:Value->Shared->Prop}(h:Q₁ (Value.ref s.heap.objs.size) { s with heap:=s.heap.push { cls:=Value.type "set",data:=Data.set #[] 0 (SetTable.fresh 0 0 (!(w.params.followText "set-order"))) } }) :
  codeAny (model prog w) A (Code.call (Value.builtin "set.__new__") { pos:=[Value.type "set",a] }) (wants Q₁ E) s:=by
 refine codeAny_of_tree ?_;refine jvc (jvf (F.newCall_set_1 a) (jvd ⟨plainId_quiet F.plain_set_new _,codeAny_builtin F.entry_set_new ?_⟩));rw[Around.under_plainId F.plain_set_new];unfold Builtin.«set.__new__»;refine jvc ?_;unfold Builtin.Frozenset.newClass;refine jvc (jvd (jve rfl ?_));refine jvc (jvf sub_set_self (jve rfl ?_));refine jvd (jvc ?_);unfold newSet;refine jvc (jcd ?_);refine jvg (jvd ?_) (by show (0:Nat)<=_;exact Nat.zero_le _)
 exact h
theorem jer {x:Value}{Q:Value->Shared->Prop}(h:∀led,led=(!(w.params.followText "set-order"))->wpAny (model prog w) A.in1.in1 (Builtin.«set.__init__» { pos:=[.ref s.heap.objs.size,x] })
   (fun fin s'=>fin=Fin.done (Flow.ret Value.none)/\Q (.ref s.heap.objs.size) s') E { s with heap:=s.heap.push { cls:=Value.type "set",data:=Data.set #[] 0 (SetTable.fresh 0 0 led) } }) :
  wpAny (model prog w) A (call (Value.type "set") [x]) Q E s:=by
 obtain⟨c,tl,hmro⟩:=F.called_set.mro;refine wpAny_call (codeAny_of_tree ?_);refine jvd ⟨Code.quiet_builtin _ (by decide +kernel),codeAny_builtin F.entry_type_call ?_⟩
 rw[Around.under_plain (weight_type_call_type "set" [x] []) rfl];unfold Builtin.«type.__call__»;refine jve rfl ?_;refine jve rfl ?_;refine jvc (jvf (F.typeCall_set_1 x) ?_);refine jvc (jvf hmro (jve rfl ?_));refine jvc (jvf F.called_set.made ?_);refine jvc (jvd ?_);refine jvc (jvh (wpAny_call (codeAny_mono (jfr (E:=E) (Q₁:=fun obj s₁=>∃led,obj=Value.ref s.heap.objs.size/\s₁={ s with heap:=s.heap.push { cls:=Value.type "set",data:=Data.set #[] 0 (SetTable.fresh 0 0 led) } }/\led=(!(w.params.followText "set-order"))) x ⟨_,rfl,rfl,rfl⟩) fun r s₁ hr=>?_)))
 have hr':match r with
   |Except.ok (Flow.ret v)=>∃led,v=Value.ref s.heap.objs.size/\s₁={ s with heap:=s.heap.push { cls:=Value.type "set",data:=Data.set #[] 0 (SetTable.fresh 0 0 led) } }/\led=(!(w.params.followText "set-order"))
   |Except.ok _=>False
   |Except.error e=>E e s₁:=by
  rcases r with e | fl
  ·exact hr
  ·cases fl <;> exact hr
 rcases r with e | fl
 ·exact hr'
 ·cases fl with
  |ret v=>
   obtain⟨led,rfl,rfl,hled⟩:=hr';have hT:({ s with heap:=s.heap.push { cls:=Value.type "set",data:=Data.set #[] 0 (SetTable.fresh 0 0 led) } }:Shared).TypeIs (Value.ref s.heap.objs.size) "set":=⟨_,jvn s.heap rfl,rfl⟩
   refine jvc (wpAny_isInstance hT F.called_set.sub (jve rfl ?_));refine jvc (jvh ?_);unfold callSpecial?;refine jvc (wpAny_specialOf hT F.called_set.init.lookup ?_);refine jvh (jvc (jvf (F.called_set.init.bind (Value.ref s.heap.objs.size)) ?_));refine jvc (wpAny_call (codeAny_call_builtin F.called_set.init.plain F.entry_set_init (check_set_init_1 hT ?_)));refine jvj (h led hled) (fun fin s' hf=>?_) (fun e s' z=>z);obtain⟨rfl,hq⟩:=hf;refine jvd ?_;exact jve rfl (jvd hq)
  |_=>exact hr'
theorem jl6 {h0:Heap}{I S:Addr}{fp wr:List Addr}{n:Nat}{P:Nat->Value->Prop}{St:Nat->Heap->Prop}{R:Result->Shared->Prop}(hu:A.in1.units < cLine)(W:Walks prog w A.in1 I fp wr n P St)(hSf:S ∉ fp)(hwr:∀b∈wr,h0.objs.size<=b)(hS0:h0.objs.size<=S)
  (hwt:∀i h b,St i h->b∈wr->∃o,h.get? b=some o/\o.cls≠.type "tuple") (val:Nat->List Int)
  (hP:∀i v,P i v->∃b,v=.ref b/\(tkz prog w Z).is h0 (val i) b) (hn:n < 4000):∀(k i:Nat) (s:Shared) (ks:List (List Int)),n - i=k->i<=n->St i s.heap->SubH h0 s.heap->SetH prog w Z s.heap S ks->(∀y,y∈ks↔∃j,j < i/\y=val j)->ks.length<=i ->
   (∀(s':Shared) (ks':List (List Int)),(∀b o,b≠S->b ∉ wr->s.heap.get? b=some o->s'.heap.get? b=some o)->s'.gens=s.gens->s'.os=s.os->SetH prog w Z s'.heap S ks'->(∀y,y∈ks'↔∃j,j < n/\y=val j)->ks'.length<=n->R (Except.ok (Flow.ret Value.none)) s') ->
   codeAny (model prog w) A (Code.builtin "set.update.loop" { pos:=[Value.ref S,Value.ref I] }) R s:=by
 have hSw:S ∉ wr:=fun z=>hSf (W.sub S z);have keepS:∀{i:Nat}{h h':Heap}{ks:List (List Int)},St i h->(∀b o,b ∉ wr->h.get? b=some o->h'.get? b=some o)->SetH prog w Z h S ks->SetH prog w Z h' S ks:=fun {i h h' ks} hst hk' hset=>by
  obtain⟨o,es,ep,t,hg,hx,hd,T,hPd,hnd,hled⟩:=hset;refine⟨o,es,ep,t,hk' S o hSw hg,hx,hd,T,?_,hnd,hled⟩;refine Paired.mapP hPd fun k e ⟨b,h1,h2⟩=>⟨b,h1,jjI h2 fun o z=>hk' b o (fun zz=>?_) z⟩;obtain⟨o',e1,e2⟩:=hwt i h b hst zz;obtain⟨⟨o2,items,m,h3,h4,_⟩,_⟩:=h2;rw[e1]at h3;cases h3;exact e2 h4
 have hP0:∀{h:Heap},SubH h0 h->∀{k:List Int}{b:Addr},(tkz prog w Z).is h0 k b->(tkz prog w Z).is h k b:=fun {h} hs {k b} hb=>jjI hb fun o e=>hs b o e;intro k;induction k with
 |zero=>
  intro i s ks hk hi hst hsub hset hmem hlen hR;have:i=n:=by omega
  subst this;refine codeAny_builtin PyProof.Rows.F.entry_set_update_loop ?_;rw[Around.under_plainId PyProof.Rows.F.plain_set_update_loop];unfold Builtin.«set.update.loop»;refine jvc (W.done s _ _ hst fun h' tk hk'=>?_);refine jvd ?_;exact hR _ ks (fun b o hb hw e=>hk' b o hw e) rfl rfl (keepS hst hk' hset) hmem hlen
 |succ k ih=>
  intro i s ks hk hi hst hsub hset hmem hlen hR;refine codeAny_builtin PyProof.Rows.F.entry_set_update_loop ?_;rw[Around.under_plainId PyProof.Rows.F.plain_set_update_loop];unfold Builtin.«set.update.loop»;refine jvc (W.item i s _ _ (by omega) hst fun v h' tk hp hst' hk'=>?_)
  obtain⟨b,rfl,hb⟩:=hP i v hp;have hsub':SubH h0 h':=fun c o e=>hk' c o (fun z=>absurd (jvm e) (Nat.not_lt.mpr (hwr c z))) (hsub c o e);refine jvc (jvh (jjL (s:={ s with heap:=h',toks:=tk }) hu (keepS hst hk' hset) (hP0 hsub' hb) (by omega) (fun s' k' b' hb' Q E q=>jrk hb' q) (fun s' hb' Q E q=>jrj hb' q) fun r h2 tk2 ks' htk sb hset2 hmem2 hlen2=>?_))
  refine jvd ⟨plainId_quiet PyProof.Rows.F.plain_set_update_loop _,?_⟩;have hst2:St (i + 1) h2:=W.frame (i + 1) h' h2 hst' fun c hc o e=>(sb.2 c (fun z=>hSf (z ▸ hc))).trans e;have hsub2:SubH h0 h2:=fun c o e=>(sb.2 c (jvs (jvr (jvm e) hS0))).trans (hsub' c o e);refine ih (i + 1) { s with heap:=h2,toks:=tk2 } ks' (by omega) (by omega) hst2 hsub2 hset2 (fun y=>?_) (by omega) fun s' ks'' g1 g2 g3 g4 g5 g6=>hR s' ks'' (fun c o hc hw e=>g1 c o hc hw ((sb.2 c hc).trans (hk' c o hw e))) g2 g3 g4 g5 g6
  rw[hmem2,hmem];constructor
  ·rintro (rfl | ⟨j,h1,rfl⟩)
   ·exact⟨i,by omega,rfl⟩
   ·exact⟨j,by omega,rfl⟩
  ·rintro⟨j,h1,rfl⟩;by_cases hj:j=i
   ·left;rw[hj]
   ·exact .inr ⟨j,by omega,rfl⟩
theorem jjM {h:Heap}{a:Addr}{led:Bool}(hled:led=(!(w.params.followText "set-order")))(e:h.get? a=some { cls:=Value.type "set",data:=Data.set #[] 0 (SetTable.fresh 0 0 led) }):SetH prog w Z h a []:=
 ⟨_,#[],0,_,e,⟨rfl,rfl,rfl⟩,rfl,⟨rfl,rfl,.inl rfl,⟨⟨3,rfl⟩,List.Pairwise.nil,fun j hj=>(by cases hj),rfl,fun i j h z=>(by simp[SetTable.fresh]at z)⟩,(by simp[SetTable.fresh])⟩,.nil,List.nodup_nil,hled⟩
theorem jjN {T:String}(h:T="list"\/T="tuple"):isSubtype (Value.type T) (Value.type "set")=pure false/\isSubtype (Value.type T) (Value.type "frozenset")=pure false:=by
 rcases h with rfl | rfl
 ·exact⟨by rfl,by rfl⟩
 ·exact⟨by rfl,by rfl⟩
theorem jc8 {x:Addr}{T:String}{o:Obj}{items:Array Value}{m:Nat}{vals:List (List Int)}{Q:Value->Shared->Prop}(hh:A.in1.in1.handled=none)(hu:A.in1.in1.in1.units < cLine)(hT:T="list"\/T="tuple")(hg:s.heap.get? x=some o)(hc:o.cls=Value.type T)(hd:o.data=.seq items m)
  (hl:items.size < 4000) (hv:Paired (fun k v=>∃b,v=Value.ref b/\(tkz prog w Z).is s.heap k b) vals items.toList)
  (q:∀(s':Shared) (ks:List (List Int)),SubH s.heap s'.heap->s'.gens=s.gens->s'.os=s.os->SetH prog w Z s'.heap s.heap.objs.size ks->(∀y,y∈ks↔y∈vals)->ks.length<=vals.length->Q (.ref s.heap.objs.size) s') :
  wpAny (model prog w) A (call (Value.type "set") [.ref x]) Q E s:=by
 refine jer fun led hled=>?_;have hS:=jvn s.heap (o:={ cls:=Value.type "set",data:=Data.set #[] 0 (SetTable.fresh 0 0 led) }) rfl;have hx1:(s.heap.push { cls:=Value.type "set",data:=Data.set #[] 0 (SetTable.fresh 0 0 led) }).get? x=some o:=jvl _ hg;have hTx:({ s with heap:=s.heap.push { cls:=Value.type "set",data:=Data.set #[] 0 (SetTable.fresh 0 0 led) } }:Shared).TypeIs (Value.ref x) T:=⟨o,hx1,hc⟩
 have hTS:({ s with heap:=s.heap.push { cls:=Value.type "set",data:=Data.set #[] 0 (SetTable.fresh 0 0 led) } }:Shared).TypeIs (Value.ref s.heap.objs.size) "set":=⟨_,hS,rfl⟩
 unfold Builtin.«set.__init__»;refine jvc (wpAny_ite_true rfl (jvd ?_));refine jvc ?_;unfold typeNameOfCut;refine jvc ?_;unfold shownTypeOf;refine jvc (wpAny_typeOf hTS (jve rfl (jvd ?_)));refine jvd ?_;refine jvc ?_;unfold checkCount;refine jve rfl (jve rfl (jve rfl (jvd ?_)));refine jvc (jvd ?_);refine jvc ?_;unfold setUsed;refine jvc (jvk hS rfl rfl (jvd ?_));refine jve rfl ?_;refine jvc ?_;unfold Builtin.Frozenset.updateFrom Builtin.Frozenset.isAnySet;refine jvc ?_;unfold orM;refine jvc (wpAny_isInstance hTx (jjN hT).1 ?_);refine wpAny_isInstance hTx (jjN hT).2 ?_;refine jve rfl ?_;refine jvc (wpAny_typeOf hTx (jve (by rcases hT with rfl | rfl <;> rfl) ?_))
 refine jvc ?_;have hxl:x < s.heap.objs.size:=jvm hg;have hsz:items.size=vals.length:=by have:=Paired.length hv;simp at this;omega
 have fin:∀(I:Addr) (fp wr:List Addr) (St:Nat->Heap->Prop) (h2:Heap),Walks prog w A.in1.in1.in1 I fp wr items.size (fun i v=>items[i]?=some v) St->St 0 h2->SubH (s.heap.push { cls:=Value.type "set",data:=Data.set #[] 0 (SetTable.fresh 0 0 led) }) h2->s.heap.objs.size ∉ fp->(∀b∈wr,s.heap.objs.size<=b) ->
   (∀i h b,St i h->b∈wr->∃o,h.get? b=some o/\o.cls≠.type "tuple") ->
   wpAny (model prog w) A.in1.in1 (do
    let _ <-runValue (Code.builtin "set.update.loop" { pos:=[Value.ref s.heap.objs.size,Value.ref I] })
    pure ()) (fun a s'=>wpAny (model prog w) A.in1.in1 ((fun __r=>ret Value.none) a) (fun fin s'=>fin=Fin.done (Flow.ret Value.none)/\Q (Value.ref s.heap.objs.size) s') E s') E { s with heap:=h2 }:=fun I fp wr St h2 W hst hsub hSf hwr hwt=>by
  refine jvc (wpAny_runValue ?_);refine jl6 (Z:=Z) (h0:=s.heap) hu W hSf hwr (jvq _) hwt (fun i=>vals.getD i []) (fun i v hi=>?_) hl items.size 0 { s with heap:=h2 } [] rfl (Nat.zero_le _) hst (fun b o e=>hsub b o (jvl _ e)) (jjM hled (hsub _ _ hS)) (fun y=>by simp) (jvq _) fun s' ks' g1 g2 g3 g4 g5 g6=>?_
  ·have hi:items.toList[i]?=some v:=by simpa using hi
   obtain⟨k,e1,b,e2,e3⟩:=jaK hv hi;exact⟨b,e2,by rw[juS,e1];exact e3⟩
  ·refine jvd (jvd ⟨rfl,q s' ks' (fun b o e=>g1 b o (jvs (jvm e)) (fun z=>absurd (jvm e) (Nat.not_lt.mpr (hwr b z))) (hsub b o (jvl _ e))) g2 g3 g4 (fun y=>?_) (by omega)⟩)
   rw[g5,hsz];constructor
   ·rintro⟨j,hj,rfl⟩;rw[juS,juK hj];exact List.getElem_mem hj
   ·intro hy;obtain⟨j,hj,e⟩:=List.getElem_of_mem hy;exact⟨j,hj,by rw[juS,juK hj,<-e];rfl⟩
 have psz:(s.heap.push { cls:=Value.type "set",data:=Data.set #[] 0 (SetTable.fresh 0 0 led) }).objs.size=s.heap.objs.size + 1:=Heap.size_push _ _;rcases hT with rfl | rfl
 ·have hL:(s.heap.push { cls:=Value.type "set",data:=Data.set #[] 0 (SetTable.fresh 0 0 led) }).IsList x items:=⟨o,hx1,hc,m,hd⟩;refine wpAny_pyIter_list hL ?_;have W:=Walks.list (prog:=prog) (w:=w) (A:=A.in1.in1.in1) hh (s.heap.push { cls:=Value.type "set",data:=Data.set #[] 0 (SetTable.fresh 0 0 led) }).objs.size x (by rw[psz];exact jvs (Nat.lt_succ_of_lt hxl)) items
  refine fin _ _ _ _ _ W ⟨⟨_,jvn _ rfl,rfl,rfl⟩,hL.push _⟩ (SubH.push _) (fun z=>?_) (fun b hb=>?_) fun i h b hst hb=>?_
  ·rcases List.mem_cons.mp z with z | z
   ·rw[psz]at z;exact absurd z (jvs (Nat.lt_succ_self _))
   ·have:s.heap.objs.size=x:=by simpa using z
    exact absurd this (Nat.ne_of_gt hxl)
  ·have hb:=List.mem_singleton.mp hb;rw[hb,psz];exact Nat.le_succ _
  ·have hb:=List.mem_singleton.mp hb;subst hb;obtain⟨⟨o',e1,e2,_⟩,_⟩:=hst;exact⟨o',e1,by rw[e2];decide⟩
 ·have hL:(s.heap.push { cls:=Value.type "set",data:=Data.set #[] 0 (SetTable.fresh 0 0 led) }).IsTuple x items:=⟨o,hx1,hc,m,hd⟩;refine wpAny_pyIter_tuple hL ?_;have W:=Walks.tuple (prog:=prog) (w:=w) (A:=A.in1.in1.in1) hh (s.heap.push { cls:=Value.type "set",data:=Data.set #[] 0 (SetTable.fresh 0 0 led) }).objs.size x (by rw[psz];exact jvs (Nat.lt_succ_of_lt hxl)) items
  refine fin _ _ _ _ _ W ⟨⟨_,jvn _ rfl,rfl,rfl⟩,⟨o,jvl _ hx1,hc,m,hd⟩⟩ (SubH.push _) (fun z=>?_) (fun b hb=>?_) fun i h b hst hb=>?_
  ·rcases List.mem_cons.mp z with z | z
   ·rw[psz]at z;exact absurd z (jvs (Nat.lt_succ_self _))
   ·have:s.heap.objs.size=x:=by simpa using z
    exact absurd this (Nat.ne_of_gt hxl)
  ·have hb:=List.mem_singleton.mp hb;rw[hb,psz];exact Nat.le_succ _
  ·have hb:=List.mem_singleton.mp hb;subst hb;obtain⟨⟨o',e1,e2,_⟩,_⟩:=hst;exact⟨o',e1,by rw[e2];decide⟩
end
end HS
namespace HS
open PySem PySem.Spec PyProof.Rows L2
theorem jfs:entryFor table "set.__iter__"=some Builtin.«frozenset.__iter__»:=entryFor_alias (id':="frozenset.__iter__") (by rfl) (by rfl) (by decide +kernel) (by rfl)
theorem jcO:entryFor table "set_iterator.__next__"=some Builtin.«set_iterator.__next__»:=entryFor_of_tree (by rfl)
theorem jft:entryFor table "set_iterator.__iter__"=some Builtin.«dict_keyiterator.__iter__»:=entryFor_alias (id':="dict_keyiterator.__iter__") (by rfl) (by rfl) (by decide +kernel) (by rfl)
theorem jc9 (a:Value):argsOk "set_iterator.__next__" { pos:=[a] }:=by kernel_rfl
theorem jgr (a:Value):argsOk "set_iterator.__iter__" { pos:=[a] }:=by kernel_rfl
theorem s_slot_next:Slot "set_iterator" (Str.ofString "__next__") "set_iterator.__next__":=Slot.of (owner:="set_iterator") (n:="__next__") (by rfl) (by decide +kernel) (by decide +kernel) (by decide +kernel) (.inl (by decide +kernel)) (by rfl) (by decide +kernel)
theorem jda:Slot "set_iterator" (Str.ofString "__iter__") "set_iterator.__iter__":=Slot.of (owner:="set_iterator") (n:="__iter__") (by rfl) (by decide +kernel) (by decide +kernel) (by decide +kernel) (.inl (by decide +kernel)) (by rfl) (by decide +kernel)
theorem jdS {α:Type}:∀{l:List α}{i:Nat} (h:i < l.length),(l[i]::l.eraseIdx i).Perm l
 |x::r,0,_=>.refl _
 |x::r,i + 1,h=>by
  have:=jdS (l:=r) (i:=i) (by simpa using h)
  simp only[List.getElem_cons_succ,List.eraseIdx_cons_succ];exact(List.Perm.swap x _ _).trans (this.cons x)
theorem jjO {α:Type}(next:Nat->Nat):∀(fuel a:Nat) (l:List α) (acc:Array α),l.length<=fuel->(pickOrder.go next fuel a l acc).toList.Perm (acc.toList++l)
 |0,a,l,acc,h=>by
  have:l=[]:=List.eq_nil_of_length_eq_zero (by omega)
  subst this;rw[pickOrder.go.eq_1,ju9]
 |fuel + 1,a,l,acc,h=>by
  rw[pickOrder.go.eq_2];cases l with
  |nil=>simp
  |cons x r=>
   have hlt:next a % (x::r).length < (x::r).length:=Nat.mod_lt _ (by simp)
   rw[juK hlt];have ih:=jjO next fuel (a + 1) ((x::r).eraseIdx (next a % (x::r).length)) (acc.push (x::r)[next a % (x::r).length]) (by
    rw[List.length_eraseIdx_of_lt hlt];simp at h ⊢;omega)
   refine ih.trans ?_;rw[Array.toList_push,jva];refine List.Perm.append_left _ ?_;exact jdS hlt
theorem jfu {α:Type}(next:Nat->Nat)(xs:Array α):(pickOrder next xs).toList.Perm xs.toList:=by
 have:=jjO next xs.size 0 xs.toList #[] (by simp)
 rw[List.nil_append]at this;exact this
end HS
namespace HS
open PySem PySem.Spec PyProof.Rows L2
section
variable {prog:Program}{w:World}{Z:List Int->Addr->Prop}{A:Around}{E:Value->Shared->Prop}{s:Shared}
noncomputable def jbW (w:World)(a:Addr)(ep:Nat)(es:Array (Int×Value)):List Value:=
 if w.params.followText "set-order" then (pickOrder (w.params.setOrder a ep) es).toList.map (·.2)else es.toList.map (·.2)
theorem jdb (a:Addr)(ep:Nat)(es:Array (Int×Value)):(jbW w a ep es).length=es.size:=by
 unfold jbW;split
 ·rw[juT,(jfu _ _).length_eq];simp
 ·simp
noncomputable def jaC (w:World)(t:SetTable)(i:Nat):Nat:=if w.params.followText "set-order" then 0 else if i=0 then 0 else t.place.getD (i - 1) 0 + 1
noncomputable def SIt (w:World)(h:Heap)(I a:Addr)(t:SetTable)(i n ep:Nat):Prop:=∃o,h.get? I=some o/\o.cls=.type "set_iterator"/\o.data=.fields #[rawInt (jaC w t i),rawInt i,.ref a,rawInt n,rawInt ep]
theorem jie {t:SetTable}(asc:Asc t.place.toList)(hb:w.params.followText "set-order"=false){i:Nat}(hi:i<=t.place.size):SetTable.below t.place (jaC w t i)=i:=by
 have B:=jeo asc (jaC w t i);unfold jaC at B ⊢;rw[hb]at B ⊢;simp only[jvw,if_false]at B ⊢;by_cases h0:i=0
 ·subst h0;rw[if_pos rfl]at B ⊢;rcases Nat.eq_zero_or_pos (SetTable.below t.place 0)with z | z
  ·exact z
  ·have:=B.lo 0 (by have:=B.le;omega) z
   omega
 ·rw[if_neg h0]at B ⊢;have hlt:i - 1 < t.place.toList.length:=by simp;omega
  have eg:t.place.getD (i - 1) 0=t.place.toList[i - 1]:=by
   have:i - 1 < t.place.size:=by omega
   simp[Array.getD,this]
  rw[eg]at B ⊢;generalize SetTable.below t.place (t.place.toList[i - 1] + 1)=r at B;rcases Nat.lt_trichotomy r i with z | z | z
  ·have h1:=B.hi (i - 1) hlt (by omega)
   omega
  ·exact z
  ·have hil:i < t.place.toList.length:=by have:=B.le;omega
   have h1:=B.lo i hil z;have h2:=asc.get (show i - 1 < i by omega) hil
   omega
theorem jdT {a:Addr}{o:Obj}{es:Array (Int×Value)}{ep:Nat}{t:SetTable}{i:Nat}{Q:Option (Value×Nat)->Shared->Prop}(hg:s.heap.get? a=some o)(hd:o.data=.set es ep t)(T:Tbl t es.toList)(hled:t.led=!(w.params.followText "set-order"))(hi:i<=es.size)
  (q:Q ((jbW w a ep es)[i]?.map fun v=>(v,jaC w t (i + 1))) s):wpAny (model prog w) A (setNext a (jaC w t i) i ep) Q E s:=by
 have hpl:t.place.size=es.size:=by have:=T.ok.len;simpa using this
 unfold setNext;refine jvc (jvk hg hd T.fits ?_);refine jvc (jcd ?_);cases hb:w.params.followText "set-order" with
 |true=>
  refine wpAny_ite_true rfl ?_;refine jve (by simp) ?_
  refine jvc ?_;unfold setWalk;refine jvc (jvk hg hd T.fits ?_);refine jvc (jcd ?_);rw[hb];refine wpAny_ite_true rfl ?_;refine jvc (wpAny_askSetting (jvd (jvd ?_)));have:(jbW w a ep es)[i]?.map (fun v=>(v,jaC w t (i + 1)))=Option.map (fun e=>(e.snd,jaC w t i)) (pickOrder (w.params.setOrder a ep) es)[i]?:=by
   unfold jbW jaC;rw[hb];simp only[if_true];rw[juQ,Option.map_map,Array.getElem?_toList];rfl
  rw[this]at q;exact q
 |false=>
  refine jve rfl ?_;refine jve (by show decide ((!t.plain && decide (es.size > 1))=true)=false;rw[T.pl];rfl) ?_
  refine jvc ?_;refine jve (by rw[hled,hb];rfl) ?_
  refine jvd (jvd ?_);have hbl:=jie (w:=w) T.ok.asc hb (i:=i) (by omega)
  rw[hbl];have:(jbW w a ep es)[i]?.map (fun v=>(v,jaC w t (i + 1)))=(match es[i]?,t.place[i]? with
        |some (fst,x),some j=>some (x,j + 1)
        |x,x_1=>none):=by
   unfold jbW jaC;rw[hb];simp only[jvw,if_false,Nat.succ_ne_zero,Nat.add_sub_cancel];rw[juQ,Array.getElem?_toList];by_cases hlt:i < es.size
   ·have hlt2:i < t.place.size:=by omega
    rw[Array.getElem?_eq_getElem hlt,Array.getElem?_eq_getElem hlt2];simp[Array.getD,hlt2]
   ·rw[Array.getElem?_eq_none (by omega)]
    simp
  rw[this]at q;exact q
theorem jif {I a:Addr}{o:Obj}{es:Array (Int×Value)}{ep:Nat}{t:SetTable}{i:Nat}{v:Value}{Q:Option Value->Shared->Prop}(hit:SIt w s.heap I a t i es.size ep)(hg:s.heap.get? a=some o)(hd:o.data=.set es ep t)(T:Tbl t es.toList)(hled:t.led=!(w.params.followText "set-order"))
  (hv:(jbW w a ep es)[i]?=some v) (go:∀h',SIt w h' I a t (i + 1) es.size ep->Heap.SameBut I s.heap h'->Q (some v) { s with heap:=h' }):wpAny (model prog w) A (pyNext (.ref I)) Q E s:=by
 obtain⟨ob,e1,e2,e3⟩:=hit;have ty:s.TypeIs (.ref I) "set_iterator":=⟨ob,e1,e2⟩;have hi:i < es.size:=by rw[<-jdb (w:=w) a ep es];exact(List.getElem?_eq_some_iff.mp hv).1
 unfold pyNext;refine jvc (wpAny_attempt (wpAny_callSpecial?_slot (name:=Str.ofString "__next__") ty s_slot_next (wpAny_call_entry s_slot_next ty jcO ?_ (jc9 _))));unfold Builtin.«set_iterator.__next__»;refine jvc (jvd ?_);refine jvc ?_;unfold fieldsOf;refine jvc (wpAny_load e1 ?_);rw[e3];refine jvd ?_;refine jvc ?_;unfold setEntries;refine jvc (jvk hg hd T.fits (jvd ?_));refine jve (by simp) ?_
 refine jvc ?_;simp only[Int.toNat_natCast];refine jdT hg hd T hled (by omega) ?_
 rw[hv];refine jvc (wpAny_setField e1 e3 (by simp) ?_)
 have u1:=jvo (Obj.mapFields fun x_1=>x_1.setIfInBounds 0 (rawInt (jaC w t (i + 1)))) e1 (by obtain⟨c,d,da,sl⟩:=ob;cases e3;rfl)
 have f1:(Obj.mapFields (fun x_1=>x_1.setIfInBounds 0 (rawInt (jaC w t (i + 1)))) ob).data=.fields #[rawInt (jaC w t (i + 1)),rawInt i,.ref a,rawInt es.size,rawInt ep]:=by obtain⟨c,d,da,sl⟩:=ob;cases e3;rfl
 have c1:(Obj.mapFields (fun x_1=>x_1.setIfInBounds 0 (rawInt (jaC w t (i + 1)))) ob).cls=.type "set_iterator":=by obtain⟨c,d,da,sl⟩:=ob;cases e3;exact e2
 generalize Obj.mapFields (fun x_1=>x_1.setIfInBounds 0 (rawInt (jaC w t (i + 1)))) ob=ob1 at u1 f1 c1;refine jvc (wpAny_setField u1 f1 (by simp) ?_)
 have u2:=jvo (Obj.mapFields fun x_1=>x_1.setIfInBounds 1 (rawInt ((i:Int) + 1))) u1 (by obtain⟨c,d,da,sl⟩:=ob1;cases f1;rfl)
 have f2:(Obj.mapFields (fun x_1=>x_1.setIfInBounds 1 (rawInt ((i:Int) + 1))) ob1).data=.fields #[rawInt (jaC w t (i + 1)),rawInt ((i:Int) + 1),.ref a,rawInt es.size,rawInt ep]:=by obtain⟨c,d,da,sl⟩:=ob1;cases f1;rfl
 have c2:(Obj.mapFields (fun x_1=>x_1.setIfInBounds 1 (rawInt ((i:Int) + 1))) ob1).cls=.type "set_iterator":=by obtain⟨c,d,da,sl⟩:=ob1;cases f1;exact c1
 refine jvd ⟨_,rfl,?_⟩;refine jvd ?_;refine go _ ⟨_,u2,c2,f2⟩ ⟨?_,fun b hb=>?_⟩
 ·rw[Heap.size_update,Heap.size_update]
 ·exact(jvp _ _ (Ne.symm hb)).trans (jvp _ _ (Ne.symm hb))
theorem jig {I a:Addr}{o:Obj}{es:Array (Int×Value)}{ep:Nat}{t:SetTable}{Q:Option Value->Shared->Prop}(hh:A.handled=none)(hit:SIt w s.heap I a t es.size es.size ep)(hg:s.heap.get? a=some o)(hd:o.data=.set es ep t)(T:Tbl t es.toList)(hled:t.led=!(w.params.followText "set-order"))
  (go:∀h',Heap.ExtBut I s.heap h'->Q none { s with heap:=h' }):wpAny (model prog w) A (pyNext (.ref I)) Q E s:=by
 obtain⟨ob,e1,e2,e3⟩:=hit;have ty:s.TypeIs (.ref I) "set_iterator":=⟨ob,e1,e2⟩;have fin:∀(h':Heap) (e:Addr),Heap.ExtBut I s.heap h'->(∃o,h'.get? e=some o/\o.cls=.type "StopIteration")->wpAny (model prog w) A (do
   let d <-isInstance (.ref e) (.type "StopIteration")
   if d=true then pure none else throw (.ref e)) Q E { s with heap:=h' }:=fun h' e hk ⟨o,ho,hc⟩=>jvc (wpAny_isInstance (T:="StopIteration") (b:=true) ⟨o,ho,hc⟩ isSubtype_stop (jvd (go _ hk)))
 have hv:(jbW w a ep es)[es.size]?=none:=ju0 (by rw[jdb];exact jvq _)
 unfold pyNext;refine jvc (wpAny_attempt (wpAny_callSpecial?_slot (name:=Str.ofString "__next__") ty s_slot_next (wpAny_call_entry s_slot_next ty jcO ?_ (jc9 _))));unfold Builtin.«set_iterator.__next__»;refine jvc (jvd ?_);refine jvc ?_;unfold fieldsOf;refine jvc (wpAny_load e1 ?_);rw[e3];refine jvd ?_;refine jvc ?_;unfold setEntries;refine jvc (jvk hg hd T.fits (jvd ?_));refine jve (by simp) ?_
 refine jvc ?_;simp only[Int.toNat_natCast];refine jdT hg hd T hled (jvq _) ?_;rw[hv];refine jvc (wpAny_setField e1 e3 (by simp) (show wpAny (model prog w) _ (newExc (.type "StopIteration") [] >>= _) _ _ _ from jvc ?_))
 simp only[newTuple,newExc];refine jvc (jvg (jvc (m:=firstArgMember _ _) (jvf (a:=Value.none) (by first | rfl | (simp only[firstArgMember];rfl)) (jvg ?_ (by size_fits)))) (by size_fits))
 simp only[raiseNew];refine jvc (wpAny_handled (by
  first | rw[show A.in1.handled=none from hh] | rw[hh]
  exact jvc (jvd (wpAny_throw (fin _ _ (((Heap.SameBut.update ..).extBut.push _).push _) ⟨_,jvn _ rfl,rfl⟩)))))
theorem jjP {I a:Addr}{o:Obj}{es:Array (Int×Value)}{ep:Nat}{t:SetTable}(hh:A.handled=none)(ne:a≠I)(hd:o.data=.set es ep t)(T:Tbl t es.toList)(hled:t.led=!(w.params.followText "set-order")) :
  Walks prog w A I [I,a] [I] es.size (fun i v=>(jbW w a ep es)[i]?=some v) (fun i h=>i<=es.size/\SIt w h I a t i es.size ep/\h.get? a=some o) where
 sub:=fun b hb=>by have:=List.mem_singleton.mp hb;subst this;simp
 frame:=fun i h h' z k=>by
  obtain⟨h1,⟨ob,e1,e2⟩,h3⟩:=z;exact⟨h1,⟨ob,k I (by simp) ob e1,e2⟩,k a (by simp) o h3⟩
 item:=fun i s Q E hi z q=>by
  obtain⟨h1,h2,h3⟩:=z;have hlt:i < (jbW w a ep es).length:=by rw[jdb];exact hi
  refine jif h2 h3 hd T hled (juK hlt) fun h' g1 g2=>?_;exact q _ h' s.toks (juK hlt) ⟨hi,g1,(g2.2 a ne).trans h3⟩ fun b o hb e=>(g2.2 b (by simpa using hb)).trans e
 done:=fun s Q E z q=>jig hh z.2.1 z.2.2 hd T hled fun h' g=>q h' s.toks fun b o hb e=>g b o (by simpa using hb) e
 self:=fun i s Q E z q=>by
  obtain⟨h1,⟨ob,e1,e2,e3⟩,h3⟩:=z;have ty:s.TypeIs (.ref I) "set_iterator":=⟨ob,e1,e2⟩;exact wpAny_pyIter_slot ty jda (wpAny_call_entry jda ty jft (jvd ⟨.ref I,rfl,"set_iterator",_,ty,s_slot_next.lookup,q⟩) (jgr _))
theorem jgs {a:Addr}{o:Obj}{es:Array (Int×Value)}{ep:Nat}{t:SetTable}{Q:Value->Shared->Prop}(hg:s.heap.get? a=some o)(hx:o.ExactSet)(hd:o.data=.set es ep t)(T:Tbl t es.toList)
  (q:∀ob:Obj,ob.cls=.type "set_iterator"->ob.data=.fields #[rawInt (jaC w t 0),rawInt ((0:Nat):Int),.ref a,rawInt es.size,rawInt ep]->ob.isFreed=false->Q (.ref s.heap.objs.size) { s with heap:=s.heap.push ob }):wpAny (model prog w) A (pyIter (.ref a)) Q E s:=by
 have ty:s.TypeIs (.ref a) "set":=⟨o,hg,hx.1⟩;have hdr:(!t.plain && decide (es.size > 1))=false:=by rw[T.pl];rfl
 refine wpAny_pyIter_slot ty F.slot_set_iter (wpAny_call_entry F.slot_set_iter ty jfs ?_ (F.args_set_iter_1 _));unfold Builtin.«frozenset.__iter__»;refine jvc (jvc (jvd (jvd ?_)));refine jvc ?_;unfold Builtin.Frozenset.sizeOf setEntries;refine jvc (jvc (jvk hg hd T.fits (jvd (jvd ?_))));refine jvc ?_;unfold setDrawn;refine jvc (jvk hg hd T.fits ?_);refine jvc (jcd (jvd ?_));refine jve (by
  show decide ((!w.params.followText "set-order" && (!t.plain && decide (es.size > 1)))=true)=false;rw[hdr,Bool.and_false];rfl) ?_
 refine jvc (jvd ?_);refine jvc (wpAny_setEpoch_of hg hd T.fits ?_);refine jvc (jvg (jvd ⟨_,rfl,"set_iterator",_,⟨_,jvn _ rfl,rfl⟩,s_slot_next.lookup,q _ rfl ?_ rfl⟩) (by size_fits))
 unfold jaC;simp
end
end HS
namespace HS
open PySem PySem.Spec PyProof.Rows L2
theorem joT:typeLookup (Value.type "set") (Str.ofString "__len__")=pure (some (Value.builtin "set.__len__")):=by rfl
theorem jl7:isSubtype (Value.type "set") (Value.type "set")=pure true:=by rfl
section
variable {prog:Program}{w:World}{Z:List Int->Addr->Prop}{A:Around}{E:Value->Shared->Prop}{s:Shared}
theorem joU {a:Addr}{o:Obj}{es:Array (Int×Value)}{ep:Nat}{t:SetTable}(hh:A.handled=none)(hg:s.heap.get? a=some o)(hx:o.ExactSet)(hd:o.data=.set es ep t)(T:Tbl t es.toList)(hled:t.led=!(w.params.followText "set-order")) :
  Itb prog w A (.ref a) "set" s.heap es.size (fun i v=>(jbW w a ep es)[i]?=some v) [] where
 nl:=by decide
 nt:=by decide
 ty:=fun s' k=>⟨o,k _ _ hg,hx.1⟩
 ref:=fun b z=>by cases z;exact jvm hg
 iter:=fun s' S Q E k h1 h2 q=>by
  have hal:a < s'.heap.objs.size:=jvm (k _ _ hg);refine jgs (k _ _ hg) hx hd T fun ob c1 c2 c3=>?_;refine q s'.heap.objs.size _ _ _ (s'.heap.push ob) s'.toks s'.drawn (jvq _) (SubH.push _) (jjP hh (jvs hal) hd T hled) ⟨Nat.zero_le _,⟨ob,jvn _ c3,c1,c2⟩,jvl _ (k _ _ hg)⟩ (fun z=>?_) fun b hb=>?_
  ·rcases List.mem_cons.mp z with z | z
   ·rw[z]at h2;exact absurd h2 (jvu _)
   ·have:S=a:=by simpa using z
    rw[this]at h1;exact absurd (jvm hg) (Nat.not_lt.mpr h1)
  ·have hb:=List.mem_singleton.mp hb;rw[hb];exact .inr (jvq _)
 hint:=fun s' Q E k q=>by
  have ty:s'.TypeIs (.ref a) "set":=⟨o,k _ _ hg,hx.1⟩;unfold Builtin.List.listLengthHint;refine jvc (wpAny_specialOf ty joT ?_);refine jvc (wpAny_isInstance ty jl7 ?_);refine jve rfl ?_;refine wpAny_ite_true rfl ?_;refine jvc (wpAny_typeOf ty ?_);exact jvd (q false s'.toks (jvq _))
end
end HS
namespace HS
open PySem PySem.Spec PyProof.Rows L2
noncomputable def lx:List Int->List Int->Bool
 |[],[]=>false
 |[],_::_=>true
 |_::_,[]=>false
 |x::xs,y::ys=>if x=y then lx xs ys else decide (x < y)
theorem jgt:∀{a b:List Int},lx a b=true->lx b a=false
 |[],[],h=>by simp[lx]at h
 |[],_::_,_=>rfl
 |_::_,[],h=>by simp[lx]at h
 |x::xs,y::ys,h=>by
  simp only[lx]at h ⊢;by_cases e:x=y
  ·rw[if_pos e]at h;rw[if_pos e.symm];exact jgt h
  ·rw[if_neg e]at h;rw[if_neg (Ne.symm e)];simp at h ⊢;omega
theorem jjQ:∀{a b:List Int},lx a b=false->lx b a=false->a=b
 |[],[],_,_=>rfl
 |[],_::_,h,_=>by simp[lx]at h
 |_::_,[],_,h=>by simp[lx]at h
 |x::xs,y::ys,h,h'=>by
  simp only[lx]at h h';by_cases e:x=y
  ·rw[if_pos e]at h;rw[if_pos e.symm]at h';rw[e,jjQ h h']
  ·rw[if_neg e]at h;rw[if_neg (Ne.symm e)]at h';simp at h h';omega
theorem jes:∀{a b c:List Int},lx b a=false->lx c b=false->lx c a=false
 |[],_,[],_,_=>rfl
 |[],_,_::_,_,_=>rfl
 |_::_,[],_,h,_=>by simp[lx]at h
 |x::xs,y::ys,[],_,h'=>by simp[lx]at h'
 |x::xs,y::ys,z::zs,h,h'=>by
  simp only[lx]at h h' ⊢;by_cases e:y=x
  ·rw[if_pos e]at h;subst e;by_cases e2:z=y
   ·rw[if_pos e2]at h' ⊢;exact jes h h'
   ·rw[if_neg e2]at h' ⊢;exact h'
  ·rw[if_neg e]at h;by_cases e2:z=y
   ·rw[if_pos e2]at h';subst e2;rw[if_neg e];exact h
   ·rw[if_neg e2]at h';simp at h h';rw[if_neg (by omega)];simp;omega
section
variable {prog:Program}{w:World}{Z:List Int->Addr->Prop}{A:Around}{E:Value->Shared->Prop}{s:Shared}
theorem jl8 {fin:Bool}{Q:Bool->Shared->Prop}:∀{xs ys:List Int}{us vs:List Value} (i:Nat),PySem.ItemsAre (intKind prog w) xs us->PySem.ItemsAre (intKind prog w) ys vs->fin=decide (xs.length < ys.length)->Q (lx xs ys) s->W.KatLex prog w A true fin Q (us.zip vs) i s:=by
 intro xs ys us vs i hx;induction hx generalizing ys vs i with
 |nil=>
  intro hy hf q;cases hy with
  |nil=>exact W.kat_nil (by rw[hf];exact q)
  |cons _ _=>exact W.kat_nil (by rw[hf];exact q)
 |@cons x u xs us hu pu ih=>
  intro hy hf q;cases hy with
  |nil=>exact W.kat_nil (by rw[hf];exact q)
  |@cons y v ys vs hv pv=>
  have hu:Value.isInt x u=true:=hu;have hv:Value.isInt y v=true:=hv;obtain⟨t,rfl⟩:∃t,u=.int x t:=by cases u <;> simp[Value.isInt]at hu;rw[hu];exact⟨_,rfl⟩
  obtain⟨t',rfl⟩:∃t,v=.int y t:=by cases v <;> simp[Value.isInt]at hv;rw[hv];exact⟨_,rfl⟩
  rw[List.zip_cons_cons];refine W.kat_cons (wpAny_eqBool_int ?_);by_cases e:x=y
  ·have:(x == y)=true:=by simpa using e
   rw[this];refine W.kat_yes (ih (i + 1) pv (by rw[hf];simp) ?_)
   simp only[lx,if_pos e]at q;exact q
  ·have:(x == y)=false:=by simpa using e
   rw[this];simp only[lx,if_neg e]at q;refine W.kat_no ?_;by_cases hi:i=0
   ·subst hi;exact oneLt_int q
   ·have:(true && i == 0)=false:=by simp[hi]
    rw[this];exact W.kat_one _ _ (lt_int q)
noncomputable def jfv (h:Heap)(L D:Addr):List (Addr×Obj):=(List.range h.objs.size).filterMap fun b=>if b=L\/b=D then none else (h.get? b).map fun o=>(b,o)
theorem rest_mem {h:Heap}{L D:Addr}{p:Addr×Obj}:p∈jfv h L D↔h.get? p.1=some p.2/\p.1≠L/\p.1≠D:=by
 unfold jfv;rw[List.mem_filterMap];constructor
 ·rintro⟨b,hb,e⟩;split at e
  ·cases e
  ·rename_i hn;obtain⟨o,e1,rfl⟩:=Option.map_eq_some_iff.mp e;exact⟨e1,fun z=>hn (.inl z),fun z=>hn (.inr z)⟩
 ·rintro⟨e,h1,h2⟩;refine⟨p.1,List.mem_range.mpr (jvm e),?_⟩;rw[if_neg (fun z=>z.elim h1 h2),e];rfl
noncomputable def h0:Heap:={ objs:=#[] }
theorem jgu (b:Addr):h0.get? b=none:=by
 cases e:h0.get? b with
 |none=>rfl
 |some o=>exact absurd (jvm e) (Nat.not_lt_zero _)
theorem jrl {b:Bool}{x y:Addr}{kx ky:List Int}{Q:Bool->Shared->Prop}(hx:(tkz prog w Z).is s.heap kx x)(hy:(tkz prog w Z).is s.heap ky y)(q:Q (lx kx ky) s):wpAny (model prog w) A (keyLt' (tuples' true) (.ref x) (.ref y)) Q E s:=by
 obtain⟨⟨ox,ix,nx,h1,h2,h3,h4⟩,_⟩:=hx;obtain⟨⟨oy,iy,ny,g1,g2,g3,g4⟩,_⟩:=hy;refine W.kat_lt h1 h3 g1 g3 (jl8 0 h4 g4 ?_ q);have l:∀{ks:List Int}{vs:List Value},PySem.ItemsAre (intKind prog w) ks vs->ks.length=vs.length:=fun {ks vs} h=>by
  induction h with
  |nil=>rfl
  |cons _ _ ih=>simp[ih]
 have:=l h4;have:=l g4;simp at *;rw[show ix.size=kx.length by omega,show iy.size=ky.length by omega]
theorem jl9 {h:Heap}:∀{kss:List (List Int)}{vs:List Value},Paired (fun k v=>∃b,v=Value.ref b/\(tkz prog w Z).is h k b) kss vs->(∀k∈kss,k≠[])->∃fs,W.KatTups h vs fs/\fs.length=vs.length/\∀f∈fs,∃i t,f=Value.int i t:=by
 intro kss vs p;induction p with
 |nil=>intro _;exact⟨[],by rw[W.KatTups.eq_1];trivial,rfl,fun _ h=>by cases h⟩
 |@cons k _ kss vs hd p ih=>
  intro hk;obtain⟨b,e,⟨o,items,n,h1,h2,h3,h4⟩,_⟩:=hd;obtain⟨fs,g1,g2,g3⟩:=ih fun k' hk'=>hk k' (juL _ hk');have hne:=hk k juM;cases k with
  |nil=>exact absurd rfl hne
  |cons a ks=>
   generalize hl:items.toList=l at h4;cases h4 with
   |cons hv hr=>
    rename_i v l;refine⟨v::fs,?_,by simp[g2],fun f hf=>?_⟩
    ·rw[W.KatTups.eq_2];exact⟨⟨b,o,items,n,e,h1,h2,h3,by rw[<-Array.getElem?_toList,hl];rfl⟩,g1⟩
    ·rcases List.mem_cons.mp hf with rfl | hf
     ·have hv:Value.isInt a f=true:=hv;cases f <;> simp[Value.isInt]at hv
      exact⟨_,_,rfl⟩
     ·exact g3 f hf
theorem jma {L D:Addr}{m:Str->Option Value}{vs:List Value}{n:Nat}{kss:List (List Int)}{P:PySem.Fin->Shared->Prop}(hL:s.heap.Ns L m)(hD:s.heap.get? D=some (seqObj "list" vs.toArray n))(hne:D≠L)(h2:2<=vs.length)(h64:vs.length < 64)
  (hK:Paired (fun k v=>∃b,v=Value.ref b/\(tkz prog w Z).is s.heap k b) kss vs) (hk0:∀k∈kss,k≠[])
  (q:∀(h':Heap) (c:Nat) (p:Array Nat),p.Perm (List.range vs.length).toArray->KS.Up (fun i j=>lx (kss.getD i []) (kss.getD j [])) p vs.length->h'.get? D=some (W.listOf (p.toList.map fun i=>vs.getD i Value.none).toArray c)->h'.Ns L m->(∀b o,b≠L->b≠D->s.heap.get? b=some o->h'.get? b=some o)->P (Fin.done (Flow.ret Value.none)) { s with heap:=h' }) :
  wpAny (model prog w) A (Builtin.«list.sort» { pos:=[.ref D] }) P E s:=by
 have hkl:kss.length=vs.length:=Paired.length hK;have nL:∀{b:Addr}{k:List Int},(tkz prog w Z).is s.heap k b->b≠L/\b≠D:=fun {b k} ⟨⟨o,items,nn,h1,h2,h3,_⟩,_⟩=>by
  refine⟨fun z=>?_,fun z=>?_⟩
  ·obtain⟨o',es,ep,e1,e2,_⟩:=hL;rw[z,e1]at h1;cases h1;rw[e2]at h3;cases h3
  ·rw[z,hD]at h1;cases h1;exact absurd h2 (by intro z;injection z with z;exact absurd z (by decide))
 refine W.kat_list_sort (h₀:=h0) (L:=L) (m:=m) (news:=jfv s.heap L D) (n:=n) ⟨hL,fun b o e=>(by rw[jgu]at e;cases e),Nat.zero_le _⟩ (fun p hp=>?_) hD hne (jgu D) (fun p hp=>(rest_mem.mp hp).2.2) h2 h64 fun e1 h' F' N'=>?_
 ·obtain⟨h1,h2,_⟩:=rest_mem.mp hp;exact⟨h1,h2,jgu _⟩
 ·have kept:∀b o,b≠L->b≠D->s.heap.get? b=some o->h'.get? b=some o:=fun b o hb1 hb2 e=>(N' (b,o) (juL _ (rest_mem.mpr ⟨e,hb1,hb2⟩))).1;have hK':Paired (fun k v=>∃b,v=Value.ref b/\(tkz prog w Z).is h' k b) kss vs:=Paired.mapP hK fun k v ⟨b,e,hb⟩=>⟨b,e,jjI hb fun o z=>kept b o (nL hb).1 (nL hb).2 z⟩;obtain⟨fs,hfs,hfl,hfi⟩:=jl9 hK' hk0;refine W.kat_kind (s:={ heap:=h',gens:=s.gens,drawn:=s.drawn,toks:=s.toks,os:=s.os }) (T:=.type "int") hfs (by omega) (fun v hv=>?_) (by decide) ?_
  ·obtain⟨i,t,rfl⟩:=hfi v hv;intro A' Q' E' s' _ qq;exact wpAny_typeOf (T:="int") rfl qq
  ·show W.KasT.kasWp (W.kas_ask prog w A (tuples' true) vs) _ _ _;have O:KS.Ord (fun i j=>lx (kss.getD i []) (kss.getD j [])):=⟨fun a b h=>jgt h,fun a b c h1 h2=>jes h1 h2⟩;obtain⟨sp,su⟩:=KS.joF O (n:=vs.length) (by omega)
   refine KS.joI (lt:=fun i j=>lx (kss.getD i []) (kss.getD j [])) (N:=vs.length) (fun i j C hi hj hC=>?_) (KS.jrb (by omega)) ?_
   ·obtain⟨ki,ei,b,e2,e3⟩:=jaK hK' (juK hi);obtain⟨kj,ej,b',e2',e3'⟩:=jaK hK' (juK hj);show wpAny _ _ (keyLt' (tuples' true) (vs.getD i Value.none) (vs.getD j Value.none)) _ _ _;rw[juS,juS,juK hi,juK hj,Option.getD_some,Option.getD_some,e2,e2'];refine jrl (b:=true) e3 e3' ?_;have:lx (kss.getD i []) (kss.getD j [])=lx ki kj:=by rw[juS,juS,ei,ej];rfl
    rw[<-this];exact hC
   ·refine⟨(D,seqObj "list" #[] e1)::jfv s.heap L D,fun o'=>(D,o')::jfv s.heap L D,F',N',.head fun p hp=>(rest_mem.mp hp).2.2,fun h2 c F2 N2=>?_⟩;refine q h2 c _ sp su (N2 (D,_) juM).1 F2.ns fun b o hb1 hb2 e=>(N2 (b,o) (juL _ (rest_mem.mpr ⟨e,hb1,hb2⟩))).1
theorem jgv {D:Addr}{vs:List Value}{n:Nat}{P:PySem.Fin->Shared->Prop}(hD:s.heap.get? D=some (seqObj "list" vs.toArray n))(h2:vs.length < 2)
  (q:∀(h':Heap) (c:Nat),h'.get? D=some (W.listOf vs.toArray c)->(∀b o,b≠D->s.heap.get? b=some o->h'.get? b=some o)->P (Fin.done (Flow.ret Value.none)) { s with heap:=h' }) :
  wpAny (model prog w) A (Builtin.«list.sort» { pos:=[.ref D] }) P E s:=by
 have hsl:vs.toArray.size<=sizeLine:=by rw[sizeLine_eq];simp;omega
 rw[list_sort_plain];refine jvc ?_;unfold Builtin.List.listItems;refine jvc (wpAny_seqItems hD rfl (jvd ?_));refine jvc (listUpdate_at hD rfl ?_ hsl (by simp))
 have u1:=jvo (Obj.mapSeq fun _=>(#[]:Array Value)) hD rfl;refine jvc (seqEpoch_at u1 rfl ?_);refine jvc (wpAny_newTuple ?_ (by simpa using hsl))
 refine jvc (wpAny_newList ?_ (by simp))
 refine jvh ?_;have hlt:vs.toArray.size < 2:=by simpa using h2
 rw[if_pos hlt];refine jvc (jvd ?_);have hrun:((if vs.toArray.size < 2 then pure ()else sortRuns').run (SortSt.mk' general' (vs.toArray.zip vs.toArray) #[] 7 none):Sem _)=pure ((),SortSt.mk' general' (vs.toArray.zip vs.toArray) #[] 7 none):=by
  rw[if_pos hlt];rfl
 refine jvc (jvf hrun ?_);have hs1:arrOf (SortSt.mk' general' (vs.toArray.zip vs.toArray) #[] 7 none)=vs.toArray.zip vs.toArray:=rfl;have hs2:failedOf (SortSt.mk' general' (vs.toArray.zip vs.toArray) #[] 7 none)=none:=rfl;have hsz:Array.map (fun x=>x.snd) (vs.toArray.zip vs.toArray)=vs.toArray:=by
  apply Array.ext';simp;clear hs1 hrun hlt u1 hsl q h2 hD;induction vs with
  |nil=>rfl
  |cons x r ih=>simp[ih]
 simp only[hs1,hs2,hsz];have u2:=jvl { cls:=Value.type "list",data:=Data.seq ([]:List Value).toArray } (jvl { cls:=Value.type "tuple",data:=Data.seq vs.toArray.toList.toArray } u1);refine jvc (seqEpoch_at u2 rfl ?_);refine jvc (listUpdate_at u2 rfl ?_ (by simp[sizeLine_eq]) (by simp at hsl ⊢;omega))
 have u3:=jvo (Obj.mapSeq fun _=>vs.toArray) u2 rfl;refine jve (by simp) (jvd ?_)
 refine q _ _ u3 fun b o hb e=>?_;exact(jvp _ _ (Ne.symm hb)).trans (jvl _ (jvl _ ((jvp _ _ (Ne.symm hb)).trans e)))
end
end HS
namespace HS
open PySem PySem.Spec PyProof.Rows L2
noncomputable def Rise (l:List (List Int)):Prop:=l.Pairwise fun a b=>lx b a=false
theorem jdc:∀{l l':List (List Int)},l.Perm l'->Rise l->Rise l'->l=l'
 |[],l',h,_,_=>(List.Perm.nil_eq h)
 |a::l,[],h,_,_=>by have:=h.length_eq;simp at this
 |a::l,b::l',h,h1,h2=>by
  have hab:a=b:=by
   have ha:a∈b::l':=h.mem_iff.mp juM;have hb:b∈a::l:=h.mem_iff.mpr juM;rcases List.mem_cons.mp ha with e | ha
   ·exact e
   ·rcases List.mem_cons.mp hb with e | hb
    ·exact e.symm
    ·exact jjQ ((List.pairwise_cons.mp h2).1 a ha) ((List.pairwise_cons.mp h1).1 b hb)
  subst hab;rw[jdc (List.Perm.cons_inv h) (List.pairwise_cons.mp h1).2 (List.pairwise_cons.mp h2).2]
theorem jih {α:Type}(d:α)(l:List α):(List.range l.length).map (fun i=>l.getD i d)=l:=by
 apply List.ext_getElem?;intro i;rw[juQ];by_cases h:i < l.length
 ·rw[List.getElem?_range h,juK h];simp[juS,juK h]
 ·rw[ju0 (by simp;omega),ju0 (by omega)]
  rfl
theorem joV {kss:List (List Int)}{p:Array Nat}{n:Nat}(hn:p.size=n)(h:KS.Up (fun i j=>lx (kss.getD i []) (kss.getD j [])) p n):Rise (p.toList.map fun i=>kss.getD i []):=by
 unfold Rise;rw[List.pairwise_iff_getElem];intro i j hi hj hij;rw[List.getElem_map,List.getElem_map];simp at hi hj;have:=h i j (Nat.le_of_lt hij) (by omega)
 unfold KS.le KS.at_ at this;simpa[Array.getD,hi,hj] using this
section
variable {prog:Program}{w:World}{Z:List Int->Addr->Prop}{A:Around}{E:Value->Shared->Prop}{s:Shared}
noncomputable abbrev Kys (prog:Program)(w:World)(Z:List Int->Addr->Prop)(h:Heap)(kss:List (List Int))(vs:List Value):Prop:=Paired (fun k v=>∃b,v=Value.ref b/\(tkz prog w Z).is h k b) kss vs
theorem jjR {h:Heap}{kss:List (List Int)}{vs:List Value}(K:Kys prog w Z h kss vs):∀{p:List Nat},(∀i∈p,i < vs.length)->Kys prog w Z h (p.map fun i=>kss.getD i []) (p.map fun i=>vs.getD i Value.none)
 |[],_=>.nil
 |i::p,hp=>by
  have hi:=hp i juM;obtain⟨k,e1,e2⟩:=jaK K (juK hi);refine .cons ?_ (jjR K fun j hj=>hp j (juL _ hj));simp only[juS,e1,juK hi,Option.getD_some];exact e2
theorem jdU {x:Value}{L:Addr}{m:Str->Option Value}{vs:List Value}{kss:List (List Int)}{Q:Value->Shared->Prop}(hL:s.heap.Ns L m)(hK:Kys prog w Z s.heap kss vs)(hk0:∀k∈kss,k≠[])(h64:vs.length < 64)
  (hcol:∀{Q':List Value->Shared->Prop},(∀s1:Shared,SubH s.heap s1.heap->s.heap.objs.size<=s1.heap.objs.size->s1.gens=s.gens->s1.os=s.os->Q' vs s1)->wpAny (model prog w) A.in1 (collect x) Q' E s)
  (q:∀(s':Shared) (D:Addr) (c:Nat) (kss':List (List Int)) (vs':List Value),s.heap.objs.size<=D->kss'.Perm kss->Rise kss'->Kys prog w Z s.heap kss' vs'->s'.heap.get? D=some (W.listOf vs'.toArray c)->s'.heap.Ns L m->(∀b o,b≠L->s.heap.get? b=some o->s'.heap.get? b=some o)->s'.gens=s.gens->s'.os=s.os->Q (.ref D) s') :
  wpAny (model prog w) A (call (Value.builtin "sorted") [x]) Q E s:=by
 have hsl:vs.length<=sizeLine:=by rw[sizeLine_eq];omega
 refine Calls.call_function_entry kind_sorted plain_sorted entry_sorted (args_sorted1 x) ?_;unfold Builtin.sorted;refine jvc (jvd ?_);refine jvc (hcol fun s1 k1 kz g1 o1=>?_);refine jvc (wpAny_newList ?_ hsl);have hD:=jvn s1.heap (o:=seqObj "list" vs.toArray 0) rfl;have hK1:Kys prog w Z (s1.heap.push (seqObj "list" vs.toArray 0)) kss vs:=Paired.mapP hK fun k v ⟨b,e,hb⟩=>⟨b,e,jjI hb fun o z=>jvl _ (k1 b o z)⟩;have hL1:(s1.heap.push (seqObj "list" vs.toArray 0)).Ns L m:=by
  obtain⟨o,es,ep,e1,e2⟩:=hL;exact⟨o,es,ep,jvl _ (k1 _ _ e1),e2⟩
 have hLD:s1.heap.objs.size≠L:=by
  obtain⟨o,es,ep,e1,e2⟩:=hL;exact Nat.ne_of_gt (jvm (k1 _ _ e1))
 have hkl:kss.length=vs.length:=Paired.length hK;refine jvc (jvh (wpAny_call_entry slot_list_sort ⟨_,hD,rfl⟩ entry_list_sort ?_ (args_list_sort _)));by_cases h2:2<=vs.length
 ·refine jma hL1 hD hLD h2 h64 hK1 hk0 fun h' c p hp hu e3 n3 k3=>⟨_,rfl,jvd ⟨_,rfl,?_⟩⟩;have hps:p.size=vs.length:=by have:=hp.toList.length_eq;simpa using this
  have hpl:p.toList.Perm (List.range vs.length):=by have:=hp.toList;simpa using this
  refine q { s1 with heap:=h' } s1.heap.objs.size c _ _ kz ?_ (joV hps hu) (jjR hK fun i hi=>List.mem_range.mp (hpl.mem_iff.mp hi)) e3 n3 (fun b o hb e=>?_) g1 o1
  ·have:=hpl.map fun i=>kss.getD i [];rwa [<-hkl,jih]at this
  ·exact k3 b o hb (jvs (jvr (jvm e) kz)) (jvl _ (k1 b o e))
 ·refine jgv hD (by omega) fun h' c e3 k3=>⟨_,rfl,jvd ⟨_,rfl,?_⟩⟩
  refine q { s1 with heap:=h' } s1.heap.objs.size c kss vs kz (.refl _) ?_ hK e3 ?_ (fun b o hb e=>?_) g1 o1
  ·match kss,hkl with
   |[],_=>exact List.Pairwise.nil
   |[a],_=>exact List.pairwise_singleton _ _
   |_::_::_,hkl=>simp at hkl;omega
  ·obtain⟨o,es,ep,e1,e2⟩:=hL1;exact⟨o,es,ep,k3 _ _ (Ne.symm hLD) e1,e2⟩
  ·exact k3 b o (jvs (jvr (jvm e) kz)) (jvl _ (k1 b o e))
end
end HS
namespace L2
open PySem PySem.Spec PyProof.Rows HS
section
variable {X:Cx}{pins:List (Addr×Obj)}{σ:St}{H:Hp}{s:Shared}
theorem Inv.keptL (I:Inv X pins σ H s){m:Str->Option Value}(hl:∀(i:Nat) (x:Str) (v:V),X.N[i]?=some x->σ[i]?=some (some v)->Vis X.env.scope x->∃u,RelV v u/\Look X.env s.heap m x u){s':Shared}(k:∀b o,b≠X.env.locals->s.heap.get? b=some o->s'.heap.get? b=some o)(hn:s'.heap.Ns X.env.locals m)(hg:s'.gens=s.gens)(ho:s'.os=s.os):Inv X pins σ H s':=by
 have ne0:∀c o,X.s₀.heap.get? c=some o->c≠X.env.locals:=fun c o e=>jvs (jvr (jvm e) I.ok.above);have neH:∀c u,H c=some u->c≠X.env.locals:=fun c u e z=>by rw[z,I.free]at e;cases e
 have neC:∀c v,s.heap.IsCell c v->c≠X.env.locals:=fun c v ⟨o,e1,e2⟩ z=>by
  obtain⟨m',⟨o',es,ep,h1,h2,_⟩,_⟩:=I.loc;rw[z,h1]at e1;cases e1;rw[h2]at e2;cases e2
 refine⟨I.ok,ho.trans I.os,by rw[hg];exact I.bare,⟨fun c o e n h1 h2=>k c o (ne0 c o e) (I.base.keep c o e n h1 h2),fun c o e n h1 h2=>?_,I.base.free,fun c o e h1=>?_,I.base.tups,I.base.frzs,I.base.tbls⟩,⟨m,hn,fun i x v h1 h2 h3=>?_⟩,fun x c e=>?_,I.free,I.freeC,fun p hp=>?_,fun a o e=>?_,I.len⟩
 ·obtain⟨sl,q⟩:=I.base.slot c o e n h1 h2;exact⟨sl,k c _ (ne0 c o e) q⟩
 ·obtain⟨o',q⟩:=I.base.there c o e h1;exact⟨o',k c _ (ne0 c o e) q⟩
 ·obtain⟨u,r,lk⟩:=hl i x v h1 h2 h3;exact⟨u,r,lk.imp id fun ⟨h4,c,h5,o,h6⟩=>⟨h4,c,h5,o,k _ _ (neC c _ ⟨o,h6⟩) h6.1,h6.2⟩⟩
 ·obtain⟨v,o,h6⟩:=I.cell x c e;exact⟨v,o,k _ _ (neC c _ ⟨o,h6⟩) h6.1,h6.2⟩
 ·obtain⟨h1,h2,h3,h4⟩:=I.pin p hp;exact⟨k _ _ h3 h1,h2,h3,h4⟩
 ·refine(I.hok a o e).stay (fun c u hc q=>k c u ?_ q) (fun c hc=>hc) fun c xs hc=>hc;rcases hc with rfl | hc
  ·exact neH _ _ e
  ·exact neH _ _ hc
theorem Inv.laidL (I:Inv X pins σ H s){m:Str->Option Value}(hl:∀(i:Nat) (x:Str) (v:V),X.N[i]?=some x->σ[i]?=some (some v)->Vis X.env.scope x->∃u,RelV v u/\Look X.env s.heap m x u){s':Shared}(k:∀b o,b≠X.env.locals->s.heap.get? b=some o->s'.heap.get? b=some o)(hn:s'.heap.Ns X.env.locals m)(hg:s'.gens=s.gens)(ho:s'.os=s.os)
  {a:Addr}{o:HO} (ha:s.heap.objs.size<=a) (new:ObjOk X.prog X.w (upd H a o) s'.heap a o):Inv X pins σ (upd H a o) s':=by
 obtain⟨n0,n1,n2,n3,n4⟩:=I.new ha;exact(I.keptL hl k hn hg ho).track n4 n0 n1 n2 n3 new
noncomputable def KysV (Z:List Int->Addr->Prop)(kss:List (List Int))(vs:List V):Prop:=Paired (fun k v=>∃b,v=V.ref b/\Z k b) kss vs
noncomputable def Zok (K:PySem.W.Frag)(H:Hp)(Z:List Int->Addr->Prop):Prop:=∀k b,Z k b->SqT K H b (k.map V.int)
theorem jjS {P:Program}{w:World}{k:List Int}{us:List Value}(h:Vals (k.map V.int) us):PySem.ItemsAre (intKind P w) k us:=by
 induction k generalizing us with
 |nil=>cases h;exact .nil
 |cons i k ih=>
  cases h with
  |cons h p=>
   obtain⟨t,rfl⟩:=h;exact .cons (by show Value.isInt i (.int i t)=true;simp[Value.isInt]) (ih p)
theorem Inv.tkey (I:Inv X pins σ H s){Z:List Int->Addr->Prop}(hZ:Zok X.K H Z){k:List Int}{b:Addr}(h:Z k b):(tkz X.prog X.w Z).is s.heap k b:=by
 obtain⟨its,r,⟨o,e1,e2,n,e3⟩,hz⟩:=I.tuple (hZ k b h);exact⟨⟨o,its.toArray,n,e1,e2,e3,jjS r⟩,h⟩
theorem Inv.kys (I:Inv X pins σ H s){Z:List Int->Addr->Prop}(hZ:Zok X.K H Z):∀{kss:List (List Int)}{vs:List V}{us:List Value},KysV Z kss vs->Vals vs us->Kys X.prog X.w Z s.heap kss us:=by
 intro kss vs us h;induction h generalizing us with
 |nil=>intro q;cases q;exact .nil
 |cons hd p ih=>
  intro q;cases q with
  |cons r q=>
   obtain⟨b,e,h⟩:=hd;subst e;cases r;exact .cons ⟨b,rfl,I.tkey hZ h⟩ (ih q)
theorem jhq {P:Program}{w:World}{Z:List Int->Addr->Prop}{h:Heap}:∀{kss:List (List Int)}{us:List Value},Kys P w Z h kss us->∃ws,KysV Z kss ws/\Vals ws us:=by
 intro kss us p;induction p with
 |nil=>exact⟨[],.nil,.nil⟩
 |cons hd p ih=>
  obtain⟨b,e,h⟩:=hd;obtain⟨ws,h1,h2⟩:=ih;subst e;exact⟨V.ref b::ws,.cons ⟨b,rfl,h.2⟩ h1,.cons rfl h2⟩
inductive rSrtL_I (X:Cx) (xs:List V) (H:Hp) (Q:VK):Prop
 |mk (p:_) (vs:_) (kss:_) (Z:_):(xs=[.ref p])->(SqL X.K H p vs)->(Zok X.K H Z)->(KysV Z kss vs)->((∀k∈kss,k≠[]))->(vs.length < 64)->(∀kss' ws,kss'.Perm kss->Rise kss'->KysV Z kss' ws->∀l,H l=none->Q (.ref l) (upd H l (.lst ws)))->rSrtL_I X xs H Q
noncomputable def jrm (X:Cx):List V->Hp->VK->Prop:=fun xs H Q=>rSrtL_I X xs H Q
theorem jfw:CallR X (.builtin "sorted") (jrm X):=by
 intro pins s σ H xs us Q I r h;obtain⟨p,vs,kss,Z,rfl,hq,hZ,hK,hk0,h64,q⟩:=h;obtain⟨u,rfl,rx⟩:=jcz r;cases rx;obtain⟨its,r',pl,hz⟩:=I.list hq;have hlen:=r'.length;obtain⟨m,hns,hl⟩:=id I.loc;have hKs:=I.kys hZ hK r';refine jdU (Z:=Z) hns hKs hk0 (by omega) (fun {Q'} q'=>?_) fun s' D c kss' vs' hD hp hr hK' e n' k' g o=>?_
 ·refine collect_list pl.isList (q' _ (fun b o e=>?_) ?_ rfl rfl) (by omega)
  ·have hlt:=jvm e;rw[jvp _ _ (Nat.ne_of_gt hlt)];exact jvl _ e
  ·rw[Heap.size_update,Heap.size_push];exact Nat.le_succ _
 ·obtain⟨ws,w1,w2⟩:=jhq hK';have hwl:ws.length<=sizeLine:=by
   have h1:=w2.length;have h2:=Paired.length hK';have h3:=hp.length_eq;have h4:=Paired.length hK;rw[h1,<-h2,h3,h4];exact hz
  exact⟨.ref D,_,I.laidL (o:=.lst ws) hl k' n' g o hD ⟨hwl,vs',c,w2,e⟩,rfl,q kss' ws hp hr w1 D (I.hok.fresh hD)⟩
noncomputable def jup (w:World)(P:Program)(Z:List Int->Addr->Prop)(h:Heap)(a:Addr)(ks:List (List Int)):Prop:=∃o es ep t,h.get? a=some o/\o.ExactSet/\o.data=.set es ep t/\Tbl t es.toList/\Paired (fun k (e:Int×Value)=>∃b,e=((tkz P w Z).hash k,.ref b)/\Z k b) ks es.toList/\ks.Nodup/\t.led=!(w.params.followText "set-order")
noncomputable def SetPhi (X:Cx)(Z:List Int->Addr->Prop)(S:Addr)(ks:List (List Int)):Heap->Prop:=fun h=>jup X.w X.prog Z h S ks/\X.s₀.heap.objs.size<=S
inductive rSetI_I (X:Cx) (xs:List V) (H:Hp) (Q:VK):Prop
 |mk (p:_) (vs:_) (kss:_) (Z:_):(xs=[.ref p])->((SqL X.K H p vs\/SqT X.K H p vs))->(Zok X.K H Z)->(KysV Z kss vs)->(vs.length < 4000)->(∀S ks,H S=none->(∀y,y∈ks↔y∈kss)->ks.Nodup->ks.length<=kss.length->Q (.ref S) (upd H S (.ext (SetPhi X Z S ks))))->rSetI_I X xs H Q
noncomputable def joW (X:Cx):List V->Hp->VK->Prop:=fun xs H Q=>rSetI_I X xs H Q
theorem jjT (hc:X.calm=true)(hu:X.A.units + 64 < cLine):CallR X (.type "set") (joW X):=by
 intro pins s σ H xs us Q I r h;obtain⟨p,vs,kss,Z,rfl,hq,hZ,hK,hn,q⟩:=h;obtain⟨u,rfl,rx⟩:=jcz r;cases rx;have fin:∀(s':Shared) (ks:List (List Int)),SubH s.heap s'.heap->s'.gens=s.gens->s'.os=s.os->SetH X.prog X.w Z s'.heap s.heap.objs.size ks->(∀y,y∈ks↔y∈kss)->ks.length<=kss.length->EP X pins σ Q (.ref s.heap.objs.size) s':=fun s' ks k1 g1 o1 hS hm hl=>by
  obtain⟨o,es,ep,t,hg,hx,hd,T,hP,hnd,hled⟩:=hS;obtain⟨m,hns,hl'⟩:=id I.loc;refine⟨.ref s.heap.objs.size,_,I.laidL (o:=.ext (SetPhi X Z s.heap.objs.size ks)) hl' (fun b o _ e=>k1 b o e) (by obtain⟨o,es,ep,e1,e2⟩:=hns;exact⟨o,es,ep,k1 _ _ e1,e2⟩) g1 o1 (jvq _) ⟨⟨⟨o,es,ep,t,hg,hx,hd,T,Paired.mapP hP fun k e ⟨b,h1,h2⟩=>⟨b,h1,h2.2⟩,hnd,hled⟩,I.above⟩,⟨o,hg⟩,?_⟩,rfl,q _ ks (I.hok.fresh (jvq _)) hm hnd hl⟩
  rintro h1 h2 ⟨⟨o,es,ep,t,e1,e2⟩,z⟩ k;exact⟨⟨o,es,ep,t,k o e1,e2⟩,z⟩
 have hA:X.A.in1.in1.handled=none:=I.ok.hd hc;have hun:X.A.in1.in1.in1.units < cLine:=by show X.A.units + 1 + 1 + 1 < cLine;omega
 rcases hq with hq | hq
 ·obtain⟨its,r',pl,hz⟩:=I.list hq;have hlen:=r'.length;obtain⟨o,ho,hcl,nn,hd⟩:=pl.isList;exact jc8 (Z:=Z) hA hun (.inl rfl) ho hcl hd (by simp;omega) (by simpa using I.kys hZ hK r') fin
 ·obtain⟨its,r',pl,hz⟩:=I.tuple hq;have hlen:=r'.length;obtain⟨o,ho,hcl,nn,hd⟩:=pl;exact jc8 (Z:=Z) hA hun (.inr rfl) ho hcl hd (by simp;omega) (by simpa using I.kys hZ hK r') fin
theorem joX {P:Program}{w:World}{Z:List Int->Addr->Prop}{h:Heap}{a:Addr}{ep:Nat}{es:Array (Int×Value)}{ks:List (List Int)}(hP:Paired (fun k (e:Int×Value)=>∃b,e=((tkz P w Z).hash k,.ref b)/\Z k b) ks es.toList)(hz:∀k b,Z k b->(tkz P w Z).is h k b) :
  ∃ks',ks'.Perm ks/\Kys P w Z h ks' (jbW w a ep es):=by
 have base:∀{ks:List (List Int)}{l:List (Int×Value)},Paired (fun k (e:Int×Value)=>∃b,e=((tkz P w Z).hash k,.ref b)/\Z k b) ks l->Kys P w Z h ks (l.map (·.2)):=fun {ks l} p=>by
  induction p with
  |nil=>exact .nil
  |cons hh _ ih=>
   obtain⟨b,rfl,hb⟩:=hh;exact .cons ⟨b,rfl,hz _ b hb⟩ ih
 unfold jbW;split
 ·obtain⟨ks',h1,h2⟩:=jc7 (jfu (w.params.setOrder a ep) es) hP;exact⟨ks',h1,base h2⟩
 ·exact⟨ks,.refl _,base hP⟩
inductive rSrtS_I (X:Cx) (xs:List V) (H:Hp) (Q:VK):Prop
 |mk (S:_) (Z:_) (ks:_):(xs=[.ref S])->(H S=some (.ext (SetPhi X Z S ks)))->(Zok X.K (del H S) Z)->((∀k∈ks,k≠[]))->(ks.length < 64)->(∀kss' ws,kss'.Perm ks->Rise kss'->KysV Z kss' ws->∀l,del H S l=none->Q (.ref l) (upd (del H S) l (.lst ws)))->rSrtS_I X xs H Q
noncomputable def joY (X:Cx):List V->Hp->VK->Prop:=fun xs H Q=>rSrtS_I X xs H Q
theorem jfx (hc:X.calm=true):CallR X (.builtin "sorted") (joY X):=by
 intro pins s σ H xs us Q I r h;obtain⟨S,Z,ks,rfl,hS,hZ,hk0,h64,q⟩:=h;obtain⟨u,rfl,rx⟩:=jcz r;cases rx;obtain⟨⟨⟨o,es,ep,t,hg,hx,hd,T,hP,hnd,hled⟩,h0⟩,_,_⟩:=I.hok S _ hS;have I1:Inv X pins σ (del H S) s:=I.gone hS h0 (fun c o _ e=>e) rfl rfl;have hA:X.A.in1.in1.handled=none:=I.ok.hd hc;have hzk:∀k b,Z k b->(tkz X.prog X.w Z).is s.heap k b:=fun k b hb=>I1.tkey hZ hb;obtain⟨ks',hp1,hK⟩:=joX (a:=S) (ep:=ep) hP hzk;obtain⟨m,hns,hl⟩:=id I1.loc;have hvl:(jbW X.w S ep es).length=ks.length:=by rw[<-hp1.length_eq];exact(Paired.length hK).symm
 have hsz:es.size=ks.length:=by rw[<-hvl,jdb]
 refine jdU (Z:=Z) hns hK (fun k hk=>hk0 k (hp1.mem_iff.mp hk)) (by omega) (fun {Q'} q'=>?_) fun s' D c kss' vs' hD hp hr hK' e n' k' g o1=>?_
 ·refine jdL (joU hA hg hx hd T hled) (by rw[sizeLine_eq];omega) fun s1 acc hk hle hgg hoo hit=>?_
  have:acc.toList=jbW X.w S ep es:=by
   obtain⟨h1,h2⟩:=hit;apply List.ext_getElem?;intro i;by_cases hi:i < acc.size
   ·have:=h2 i acc[i] (by simp[hi])
    rw[this];simp[hi]
   ·rw[ju0 (by simpa using hi),ju0 (by rw[jdb];omega)]
  rw[this];exact q' s1 (fun b o e=>hk b o (by simp) e) hle hgg hoo
 ·obtain⟨ws,w1,w2⟩:=jhq hK';have hwl:ws.length<=sizeLine:=by
   have h1:=w2.length;have h2:=Paired.length hK';have h3:=hp.length_eq;have h4:=hp1.length_eq;rw[sizeLine_eq];omega
  exact⟨.ref D,_,I1.laidL (o:=.lst ws) hl k' n' g o1 hD ⟨hwl,vs',c,w2,e⟩,rfl,q kss' ws (hp.trans hp1) hr w1 D (I1.hok.fresh hD)⟩
end
end L2
namespace DJ
open PySem
inductive D where
 |non | bl (b:Bool) | int (i:Int) | str (x:Str) | tup (xs:List D) | lst (xs:List D) | dct (ks vs:List D) | exc (c:Nat)
 deriving Inhabited
inductive R (α:Type) where
 |ok (a:α) | err (c:Nat) | stk
namespace R
noncomputable def bind {α β:Type}(x:R α)(f:α->R β):R β:=match x with
 |ok a=>f a
 |err c=>err c
 |stk=>stk
noncomputable def noErr {α:Type}:R α->R α
 |ok a=>ok a
 |_=>stk
end R
inductive Op where | add | sub | mul | fdiv | mod | pow
inductive Cm where | eq | ne | lt | le | gt | ge | isn | notn | isin | notin
inductive Bf where | len | tuple | list | all | any | sum | min | max | sorted | ssorted | abs | int | revl | revt
inductive Ty where | int | bool | str | tuple | list | dict | exc (c:Nat) | verr
 deriving DecidableEq
mutual
inductive E where
 |lit (d:D) | emp | var (i:Nat)
 |bin (o:Op) (a b:E) | neg (a:E) | cmp (o:Cm) (a b:E)
 |and (a b:E) | or (a b:E) | not (a:E) | ite (c a b:E)
 |tup (es:Es) | lst (es:Es)
 |idx (a b:E) | slc (a:E) (lo hi:Oe)
 |call (f:Nat) (fl:List Bool) (es:Es)
 |blt (f:Bf) (a:E) | min2 (a b:E) | max2 (a b:E)
 |isi (a:E) (ks:List Ty)
 |comp (elt:E) (tg:List Nat) (one:Bool) (n:Nat) (caps:List Nat) (it:It) (c:Oe)
 |pop (i:Nat)
inductive Es where
 |nil | cons (e:E) (es:Es)
inductive Oe where
 |none | some (e:E)
inductive It where
 |seq (e:E) | rng1 (a:E) | rng2 (a b:E) | zip (a b:E)
end
mutual
inductive S where
 |ret (e:E) | retN | expr (e:E) | asg (i:Nat) (e:E) | unp (is:List Nat) (e:E)
 |app (i:Nat) (e:E) | ext (i:Nat) (e:E) | ins (i:Nat) (k e:E) | sub (i:Nat) (k e:E) | rvs (i:Nat)
 |ife (c:E) (a b:Ss) | loop (tg:List Nat) (one:Bool) (it:It) (b:Ss) | whl (c:E) (b:Ss)
 |brk | cnt | pas | rai (c:Nat) (e:E) | tryx (b:S) (c:Nat) (i:Option Nat) (h:Ss)
inductive Ss where
 |nil | cons (s:S) (ss:Ss)
end
inductive O where | l (xs:List D) | d (ks vs:List D)
noncomputable def O.toD:O->D
 |.l xs=>.lst xs
 |.d ks vs=>.dct ks vs
inductive Sl where | no | dat (d:D) | own (o:O) (lent lock:Bool)
noncomputable abbrev Rho:=List Sl
inductive Vl where | dat (d:D) | tmp (o:O) | slot (i:Nat)
inductive Fl where | nx (ρ:Rho) | rt (v:Vl) (ρ:Rho) | bk (ρ:Rho) | ct (ρ:Rho)
mutual
noncomputable def eqD:D->D->Bool
 |.non,y=>match y with
  |.non=>true
  |_=>false
 |.bl a,y=>match y with
  |.bl b=>a == b
  |.int b=>(if a then 1 else 0) == b
  |_=>false
 |.int a,y=>match y with
  |.bl b=>a == (if b then 1 else 0)
  |.int b=>a == b
  |_=>false
 |.str a,y=>match y with
  |.str b=>a == b
  |_=>false
 |.tup a,y=>match y with
  |.tup b=>eqDs a b
  |_=>false
 |.lst a,y=>match y with
  |.lst b=>eqDs a b
  |_=>false
 |.dct _ _,_=>false
 |.exc _,_=>false
noncomputable def eqDs:List D->List D->Bool
 |[],[]=>true
 |a::as,b::bs=>eqD a b && eqDs as bs
 |_,_=>false
end
mutual
noncomputable def jbF:D->Bool
 |.non=>true
 |.bl _=>true
 |.int _=>true
 |.str _=>true
 |.tup a=>cmpDs a
 |.lst a=>cmpDs a
 |_=>false
noncomputable def cmpDs:List D->Bool
 |[]=>true
 |a::as=>jbF a && cmpDs as
end
mutual
noncomputable def jcP:D->Nat
 |.tup a=>deeps a + 1
 |.lst a=>deeps a + 1
 |_=>0
noncomputable def deeps:List D->Nat
 |[]=>0
 |a::as=>Nat.max (jcP a) (deeps as)
end
noncomputable def fits (n:Nat):Bool:=n<=16777216
noncomputable def opZ (a b:Int):Op->R Vl
 |.add=>.ok (.dat (.int (a + b)))
 |.sub=>.ok (.dat (.int (a - b)))
 |.mul=>if (-(2 ^ 64) < a/\a < 2 ^ 64)\/(-(2 ^ 64) < b/\b < 2 ^ 64)then .ok (.dat (.int (a * b)))else .stk
 |.fdiv=>if 0 < b/\b < 2 ^ 64 then .ok (.dat (.int (a / b)))else .stk
 |.mod=>if 0 < b then .ok (.dat (.int (a % b)))else .stk
 |.pow=>if 0<=b/\b<=1000000/\a.natAbs < 2 ^ 64 then .ok (.dat (.int (a ^ b.toNat)))else .stk
noncomputable def opC (v:R Vl):Op->R Vl
 |.add=>v
 |_=>.stk
noncomputable def opM (v:R Vl):Op->R Vl
 |.mul=>v
 |_=>.stk
noncomputable def opD (o:Op)(x y:D):R Vl:=match x with
 |.int a=>match y with
  |.int b=>opZ a b o
  |_=>.stk
 |.tup a=>match y with
  |.tup b=>opC (if fits (a.length + b.length)then .ok (.dat (.tup (a++b)))else .stk) o
  |.int b=>opM (if 0<=b/\b<=16777216/\fits (a.length * b.toNat)then .ok (.dat (.tup (List.replicate b.toNat a).flatten))else .stk) o
  |_=>.stk
 |.lst a=>match y with
  |.lst b=>opC (if fits (a.length + b.length)then .ok (.tmp (.l (a++b)))else .stk) o
  |_=>.stk
 |.str a=>match y with
  |.str b=>opC (if fits (a.length + b.length)then .ok (.dat (.str (a++b)))else .stk) o
  |_=>.stk
 |_=>.stk
noncomputable def jsn:D->R D
 |.int a=>.ok (.int (-a))
 |_=>.stk
noncomputable def jbD:D->R Bool
 |.non=>.ok false
 |.bl b=>.ok b
 |.int i=>.ok (i != 0)
 |.tup xs=>.ok (!xs.isEmpty)
 |.lst xs=>.ok (!xs.isEmpty)
 |_=>.stk
noncomputable def jaY:List D->Option (List Int)
 |[]=>some []
 |.int i::r=>(jaY r).map (i::·)
 |_::_=>none
noncomputable def lexLt:List Int->List Int->Bool
 |[],[]=>false
 |[],_::_=>true
 |_::_,[]=>false
 |x::xs,y::ys=>if x=y then lexLt xs ys else decide (x < y)
noncomputable def ltD:D->D->R Bool
 |.int a,.int b=>.ok (decide (a < b))
 |.tup a,.tup b=>match jaY a,jaY b with
  |some x,some y=>.ok (lexLt x y)
  |_,_=>.stk
 |_,_=>.stk
noncomputable def jaA:D->R (List D)
 |.tup xs=>.ok xs
 |.lst xs=>.ok xs
 |_=>.stk
noncomputable def eqR (a b:D):R Bool:=if jbF a && jbF b && jcP a<=12 && jcP b<=12 then .ok (eqD a b)else .stk
noncomputable def inR (a b:D):R Bool:=(jaA b).bind fun ys=>if jbF a && cmpDs ys && jcP a<=12 && deeps ys<=12 then .ok (ys.any fun y=>eqD y a)else .stk
noncomputable def jrn (f:Int->Int->Bool)(x y:D):R Bool:=match x with
 |.int a=>match y with
  |.int b=>.ok (f a b)
  |_=>.stk
 |_=>.stk
noncomputable def isN:D->Bool
 |.non=>true
 |_=>false
noncomputable def cmD (o:Cm)(a b:D):R Bool:=match o with
 |.eq=>eqR a b
 |.ne=>(eqR a b).bind fun c=>.ok (!c)
 |.lt=>ltD a b
 |.gt=>jrn (fun a b=>decide (b < a)) a b
 |.le=>jrn (fun a b=>decide (a<=b)) a b
 |.ge=>jrn (fun a b=>decide (b<=a)) a b
 |.isn=>if isN b then .ok (isN a)else .stk
 |.notn=>if isN b then .ok (!isN a)else .stk
 |.isin=>inR a b
 |.notin=>(inR a b).bind fun c=>.ok (!c)
noncomputable def atI (xs:List D)(i:Int):R D:=
 if 0<=i then (match xs[i.toNat]? with | some d=>.ok d | none=>.stk)
 else if 0<=i + xs.length then (match xs[(i + xs.length).toNat]? with | some d=>.ok d | none=>.stk)else .stk
noncomputable def atC (x:Str)(i:Int):R D:=
 if fits x.length then
  (match (if 0<=i then x.cps.toList[i.toNat]? else if 0<=i + x.length then x.cps.toList[(i + x.length).toNat]? else none)with | some c=>.ok (.str ⟨#[c]⟩) | none=>.stk)
 else .stk
noncomputable def jmb:D->D->R D
 |.tup xs,.int i=>atI xs i
 |.lst xs,.int i=>atI xs i
 |.str x,.int i=>atC x i
 |_,_=>.stk
noncomputable def sIx (n d:Nat):Option Int->Nat
 |none=>d
 |some v=>if v < 0 then (v + n).toNat else min v.toNat n
noncomputable def cut {α:Type}(xs:List α)(lo hi:Option Int):List α:=(xs.drop (sIx xs.length 0 lo)).take (sIx xs.length xs.length hi - sIx xs.length 0 lo)
noncomputable def jmc:D->Option Int->Option Int->R Vl
 |.tup xs,lo,hi=>.ok (.dat (.tup (cut xs lo hi)))
 |.lst xs,lo,hi=>.ok (.tmp (.l (cut xs lo hi)))
 |_,_,_=>.stk
noncomputable def jau:List D->Option (List Bool)
 |[]=>some []
 |.bl b::r=>(jau r).map (b::·)
 |.int i::r=>(jau r).map ((i != 0)::·)
 |_::_=>none
noncomputable def jtX:List Int->Int->Int
 |[],m=>m
 |x::r,m=>jtX r (if x < m then x else m)
noncomputable def jtY:List Int->Int->Int
 |[],m=>m
 |x::r,m=>jtY r (if x > m then x else m)
noncomputable def jfy (x:List Int):List (List Int)->List (List Int)
 |[]=>[x]
 |y::r=>if lexLt y x then y::jfy x r else x::y::r
noncomputable def ja9:List (List Int)->List (List Int)
 |[]=>[]
 |x::r=>jfy x (ja9 r)
noncomputable def jbX:List (List Int)->List (List Int)
 |[]=>[]
 |x::r=>if r.contains x then jbX r else x::jbX r
noncomputable def jbc:List D->Option (List (List Int))
 |[]=>some []
 |.tup xs::r=>match jaY xs,jbc r with
  |some k,some ks=>some (k::ks)
  |_,_=>none
 |_::_=>none
noncomputable def jso (k:List Int):D:=.tup (k.map .int)
noncomputable def jet (kss:List (List Int)):R Vl:=if kss.all (fun k=>!k.isEmpty) && kss.length < 64 then .ok (.tmp (.l ((ja9 kss).map jso)))else .stk
noncomputable def bfD (f:Bf)(d:D):R Vl:=match f with
 |.abs=>match d with
  |.int i=>.ok (.dat (.int (if i < 0 then -i else i)))
  |_=>.stk
 |.int=>match d with
  |.int i=>.ok (.dat (.int i))
  |.bl b=>.ok (.dat (.int (if b then 1 else 0)))
  |_=>.stk
 |.len=>match d with
  |.str x=>if fits x.length then .ok (.dat (.int x.length))else .stk
  |d=>(jaA d).bind fun xs=>.ok (.dat (.int xs.length))
 |.tuple=>(jaA d).bind fun xs=>.ok (.dat (.tup xs))
 |.list=>(jaA d).bind fun xs=>.ok (.tmp (.l xs))
 |.all=>(jaA d).bind fun xs=>match jau xs with | some bs=>.ok (.dat (.bl (bs.all id))) | none=>.stk
 |.any=>(jaA d).bind fun xs=>match jau xs with | some bs=>.ok (.dat (.bl (bs.any id))) | none=>.stk
 |.sum=>(jaA d).bind fun xs=>match jaY xs with | some ns=>.ok (.dat (.int ns.sum)) | none=>.stk
 |.min=>(jaA d).bind fun xs=>match jaY xs with | some (n::ns)=>.ok (.dat (.int (jtX ns n))) | _=>.stk
 |.max=>(jaA d).bind fun xs=>match jaY xs with | some (n::ns)=>.ok (.dat (.int (jtY ns n))) | _=>.stk
 |.sorted=>match d with
  |.lst xs=>match jbc xs with | some kss=>jet kss | none=>.stk
  |_=>.stk
 |.ssorted=>(jaA d).bind fun xs=>match jbc xs with | some kss=>if kss.length < 4000 then jet (jbX kss)else .stk | none=>.stk
 |.revl=>match d with
  |.lst xs=>.ok (.tmp (.l xs.reverse))
  |_=>.stk
 |.revt=>match d with
  |.lst xs=>.ok (.dat (.tup xs.reverse))
  |.tup xs=>.ok (.dat (.tup xs.reverse))
  |_=>.stk
noncomputable def tyB:D->Ty->Bool
 |.bl _,t=>t == .bool || t == .int
 |.int _,t=>t == .int
 |.str _,t=>t == .str
 |.tup _,t=>t == .tuple
 |.lst _,t=>t == .list
 |.dct _ _,t=>t == .dict
 |_,_=>false
noncomputable def tyP (d:D):Ty->R Bool
 |.exc _=>.stk
 |.verr=>.stk
 |t=>.ok (tyB d t)
section
variable (U:Nat->Nat->Bool)
noncomputable def jqn (d:D)(t:Ty):R Bool:=match d with
 |.exc c=>match t with
  |.exc k=>.ok (U c k)
  |.verr=>.ok true
  |_=>.stk
 |d=>tyP d t
noncomputable def jal:D->List Ty->R Bool
 |_,[]=>.ok false
 |d,t::r=>(jqn U d t).bind fun b=>if b then .ok true else jal d r
end
noncomputable def jnL (a:Int)(n:Nat):List D:=(List.range n).map fun (k:Nat)=>D.int (a + (k:Int))
noncomputable def jdd:D->R (List D)
 |.int n=>if -16777216<=n/\n<=16777216 then .ok (jnL 0 n.toNat)else .stk
 |_=>.stk
noncomputable def jsV:D->D->R (List D)
 |.int i,.int j=>if -1000000000<=i/\i<=1000000000/\-1000000000<=j/\j - i<=16777216 then .ok (jnL i (j - i).toNat)else .stk
 |_,_=>.stk
noncomputable def jfz:List D->List D->List D
 |a::as,b::bs=>.tup [a,b]::jfz as bs
 |_,_=>[]
noncomputable def jsp (f:Int->Int->Int)(x y:D):R D:=match x with
 |.int a=>match y with
  |.int b=>.ok (.int (f a b))
  |_=>.stk
 |_=>.stk
noncomputable def jsW (x y:D):R D:=jsp (fun a b=>if b < a then b else a) x y
noncomputable def juq (x y:D):R D:=jsp (fun a b=>if b > a then b else a) x y
noncomputable def deref (v:Vl)(ρ:Rho):R D:=match v with
 |.dat d=>.ok d
 |.tmp o=>.ok o.toD
 |.slot i=>match ρ[i]? with | some (.own o _ _)=>.ok o.toD | _=>.stk
noncomputable def toD (v:Vl)(ρ:Rho):R (D×Rho):=match v with
 |.dat d=>.ok (d,ρ)
 |.tmp o=>.ok (o.toD,ρ)
 |.slot i=>match ρ[i]? with | some (.own o false false)=>.ok (o.toD,ρ.set i (.dat o.toD)) | _=>.stk
noncomputable def jhr (v:Vl)(ρ:Rho):R (Sl×Rho):=match v with
 |.tmp o=>.ok (.own o false false,ρ)
 |v=>(toD v ρ).bind fun p=>.ok (.dat p.1,p.2)
noncomputable def putT (tg:List Nat)(one:Bool)(d:D)(ρ:Rho):R Rho:=match one,tg,d with
 |true,[i],d=>.ok (ρ.set i (.dat d))
 |false,is,.tup xs=>if is.length=xs.length then .ok ((is.zip xs).foldl (fun r p=>r.set p.1 (.dat p.2)) ρ)else .stk
 |_,_,_=>.stk
noncomputable def jaB (v:Vl)(ρ:Rho):R (List D×List Nat×Rho):=match v with
 |.dat d=>(jaA d).bind fun xs=>.ok (xs,[],ρ)
 |.tmp (.l xs)=>.ok (xs,[],ρ)
 |.slot i=>match ρ[i]? with
  |some (.own (.l xs) _ true)=>.ok (xs,[],ρ)
  |some (.own (.l xs) f false)=>.ok (xs,[i],ρ.set i (.own (.l xs) f true))
  |_=>.stk
 |_=>.stk
noncomputable def unlk:List Nat->Rho->Rho
 |[],ρ=>ρ
 |i::r,ρ=>unlk r (match ρ[i]? with | some (.own o f _)=>ρ.set i (.own o f false) | _=>ρ)
noncomputable def jeu (ls:List Nat):Fl->Fl
 |.nx ρ=>.nx (unlk ls ρ)
 |.bk ρ=>.bk (unlk ls ρ)
 |.ct ρ=>.ct (unlk ls ρ)
 |.rt v ρ=>.rt v (unlk ls ρ)
noncomputable def compGo (f:D->Rho->R (Option D×Rho)):List D->Rho->R (List D×Rho)
 |[],ρ=>.ok ([],ρ)
 |x::xs,ρ=>(f x ρ).bind fun p=>(compGo f xs p.2).bind fun q=>.ok (match p.1 with | some d=>d::q.1 | none=>q.1,q.2)
noncomputable def jdV (ρ:Rho)(caps:List Nat):Rho:=caps.map fun i=>match ρ[i]? with | some s=>s | none=>.no
noncomputable def jfA (nt:Nat)(caps:List Nat)(ρ:Rho):Rho:=List.replicate nt .no++jdV ρ caps
noncomputable def ja0:List Nat->Nat->Rho->Rho->Rho
 |[],_,_,ρ=>ρ
 |j::r,k,inn,ρ=>ja0 r (k + 1) inn (match inn[k]? with | some s=>ρ.set j s | none=>ρ)
noncomputable def jii (lend:Bool)(v:Vl)(ρ:Rho):R (Sl×Option (Nat×Bool×Bool)×Rho):=match lend,v with
 |true,.slot i=>match ρ[i]? with
  |some (.own o f k)=>.ok (.own o true k,some (i,f,k),ρ.set i .no)
  |_=>.stk
 |_,v=>(toD v ρ).bind fun p=>.ok (.dat p.1,none,p.2)
noncomputable def jaD:List Bool->List Vl->Rho->R (List Sl×List (Option (Nat×Bool×Bool))×Rho)
 |_,[],ρ=>.ok ([],[],ρ)
 |fl,v::vs,ρ=>(jii (fl.headD false) v ρ).bind fun p=>(jaD fl.tail vs p.2.2).bind fun q=>.ok (p.1::q.1,p.2.1::q.2.1,q.2.2)
noncomputable def ja1:List (Option (Nat×Bool×Bool))->List Sl->Rho->Rho
 |[],_,ρ=>ρ
 |_,[],ρ=>ρ
 |none::r,_::fs,ρ=>ja1 r fs ρ
 |some (i,f,k)::r,s::fs,ρ=>ja1 r fs (match s with | .own o _ _=>ρ.set i (.own o f k) | _=>ρ)
noncomputable def jur:Sl->Sl
 |.own o true k=>.own o true k
 |_=>.no
noncomputable def jcB:Vl->R Bool
 |.dat (.bl b)=>.ok b
 |_=>.stk
noncomputable def jde:Sl->Sl
 |.own _ _ _=>.no
 |s=>s
noncomputable abbrev Calls:=Nat->List Sl->R (Vl×List Sl)
section
variable (G:Calls) (U:Nat->Nat->Bool)
mutual
noncomputable def evE:E->Rho->R (Vl×Rho)
 |.lit d,ρ=>.ok (.dat d,ρ)
 |.emp,ρ=>.ok (.tmp (.d [] []),ρ)
 |.var i,ρ=>match ρ[i]? with | some (.dat d)=>.ok (.dat d,ρ) | some (.own _ _ _)=>.ok (.slot i,ρ) | _=>.stk
 |.bin o a b,ρ=>(evE a ρ).bind fun p=>(evE b p.2).bind fun q=>(deref p.1 q.2).bind fun x=>(deref q.1 q.2).bind fun y=>(opD o x y).bind fun v=>.ok (v,q.2)
 |.neg a,ρ=>(evE a ρ).bind fun p=>(deref p.1 p.2).bind fun x=>(jsn x).bind fun d=>.ok (.dat d,p.2)
 |.cmp o a b,ρ=>(evE a ρ).bind fun p=>(evE b p.2).bind fun q=>(deref p.1 q.2).bind fun x=>(deref q.1 q.2).bind fun y=>(cmD o x y).bind fun c=>.ok (.dat (.bl c),q.2)
 |.and a b,ρ=>(evE a ρ).bind fun p=>(jcB p.1).bind fun t=>if t then (evE b p.2).bind fun q=>(jcB q.1).bind fun u=>.ok (.dat (.bl u),q.2)else .ok (.dat (.bl false),p.2)
 |.or a b,ρ=>(evE a ρ).bind fun p=>(jcB p.1).bind fun t=>if t then .ok (.dat (.bl true),p.2)else (evE b p.2).bind fun q=>(jcB q.1).bind fun u=>.ok (.dat (.bl u),q.2)
 |.not a,ρ=>(evE a ρ).bind fun p=>(jcB p.1).bind fun t=>.ok (.dat (.bl (!t)),p.2)
 |.ite c a b,ρ=>(evT c ρ).bind fun t=>if t.1 then evE a t.2 else evE b t.2
 |.tup es,ρ=>(evEs es ρ).bind fun p=>if fits p.1.length then .ok (.dat (.tup p.1),p.2)else .stk
 |.lst es,ρ=>(evEs es ρ).bind fun p=>if fits p.1.length then .ok (.tmp (.l p.1),p.2)else .stk
 |.idx a b,ρ=>(evE a ρ).bind fun p=>(evE b p.2).bind fun q=>(deref p.1 q.2).bind fun x=>(deref q.1 q.2).bind fun y=>(jmb x y).bind fun d=>.ok (.dat d,q.2)
 |.slc a lo hi,ρ=>(evE a ρ).bind fun p=>(evO lo p.2).bind fun l=>(evO hi l.2).bind fun h=>(deref p.1 h.2).bind fun x=>(jmc x l.1 h.1).bind fun v=>.ok (v,h.2)
 |.call f fl es,ρ=>(evAs es ρ).bind fun p=>(jaD fl p.1 p.2).bind fun q=>(G f q.1).bind fun r=>.ok (r.1,ja1 q.2.1 r.2 q.2.2)
 |.blt f a,ρ=>(evE a ρ).bind fun p=>(deref p.1 p.2).bind fun x=>(bfD f x).bind fun v=>.ok (v,p.2)
 |.min2 a b,ρ=>(evE a ρ).bind fun p=>(evE b p.2).bind fun q=>(deref p.1 q.2).bind fun x=>(deref q.1 q.2).bind fun y=>(jsW x y).bind fun d=>.ok (.dat d,q.2)
 |.max2 a b,ρ=>(evE a ρ).bind fun p=>(evE b p.2).bind fun q=>(deref p.1 q.2).bind fun x=>(deref q.1 q.2).bind fun y=>(juq x y).bind fun d=>.ok (.dat d,q.2)
 |.isi a ks,ρ=>(evE a ρ).bind fun p=>(deref p.1 p.2).bind fun x=>(jal U x ks).bind fun b=>.ok (.dat (.bl b),p.2)
 |.comp elt tg one n caps it c,ρ=>(evI it ρ).bind fun t=>((compGo (fun x r=>(putT tg one x (jfA n caps r)).bind fun r'=>
   match c with
   |.none=>(evE elt r').bind fun p=>(toD p.1 p.2).bind fun q=>.ok (some q.1,ja0 caps n q.2 r)
   |.some k=>(evT k r').bind fun b=>if b.1 then (evE elt b.2).bind fun p=>(toD p.1 p.2).bind fun q=>.ok (some q.1,ja0 caps n q.2 r)else .ok (none,ja0 caps n b.2 r)) t.1 t.2.2).noErr).bind fun ys=>.ok (.tmp (.l ys.1),unlk t.2.1 ys.2)
 |.pop i,ρ=>match ρ[i]? with
  |some (.own (.l xs) f false)=>match xs.getLast? with
   |some d=>.ok (.dat d,ρ.set i (.own (.l xs.dropLast) f false))
   |none=>.stk
  |_=>.stk
noncomputable def evT:E->Rho->R (Bool×Rho)
 |.and a b,ρ=>(evT a ρ).bind fun p=>if p.1 then evT b p.2 else .ok (false,p.2)
 |.or a b,ρ=>(evT a ρ).bind fun p=>if p.1 then .ok (true,p.2)else evT b p.2
 |.not a,ρ=>(evT a ρ).bind fun p=>.ok (!p.1,p.2)
 |.cmp o a b,ρ=>(evE a ρ).bind fun p=>(evE b p.2).bind fun q=>(deref p.1 q.2).bind fun x=>(deref q.1 q.2).bind fun y=>(cmD o x y).bind fun c=>.ok (c,q.2)
 |.var i,ρ=>match ρ[i]? with | some (.dat d)=>(jbD d).bind fun b=>.ok (b,ρ) | some (.own o _ _)=>(jbD o.toD).bind fun b=>.ok (b,ρ) | _=>.stk
 |.isi a ks,ρ=>(evE a ρ).bind fun p=>(deref p.1 p.2).bind fun x=>(jal U x ks).bind fun b=>.ok (b,p.2)
 |.call f fl es,ρ=>(evAs es ρ).bind fun p=>(jaD fl p.1 p.2).bind fun q=>(G f q.1).bind fun r=>(deref r.1 []).bind fun d=>(jbD d).bind fun b=>.ok (b,ja1 q.2.1 r.2 q.2.2)
 |.blt f a,ρ=>(evE a ρ).bind fun p=>(deref p.1 p.2).bind fun x=>(bfD f x).bind fun v=>(deref v []).bind fun d=>(jbD d).bind fun b=>.ok (b,p.2)
 |.idx a b,ρ=>(evE a ρ).bind fun p=>(evE b p.2).bind fun q=>(deref p.1 q.2).bind fun x=>(deref q.1 q.2).bind fun y=>(jmb x y).bind fun d=>(jbD d).bind fun t=>.ok (t,q.2)
 |.lit d,ρ=>(jbD d).bind fun b=>.ok (b,ρ)
 |.bin o a b,ρ=>(evE a ρ).bind fun p=>(evE b p.2).bind fun q=>(deref p.1 q.2).bind fun x=>(deref q.1 q.2).bind fun y=>(opD o x y).bind fun v=>(deref v []).bind fun d=>(jbD d).bind fun t=>.ok (t,q.2)
 |.slc a lo hi,ρ=>(evE a ρ).bind fun p=>(evO lo p.2).bind fun l=>(evO hi l.2).bind fun h=>(deref p.1 h.2).bind fun x=>(jmc x l.1 h.1).bind fun v=>(deref v []).bind fun d=>(jbD d).bind fun b=>.ok (b,h.2)
 |.emp,_=>.stk
 |.neg _,_=>.stk
 |.ite _ _ _,_=>.stk
 |.tup _,_=>.stk
 |.lst _,_=>.stk
 |.min2 _ _,_=>.stk
 |.max2 _ _,_=>.stk
 |.comp _ _ _ _ _ _ _,_=>.stk
 |.pop _,_=>.stk
noncomputable def evEs:Es->Rho->R (List D×Rho)
 |.nil,ρ=>.ok ([],ρ)
 |.cons e es,ρ=>(evE e ρ).bind fun p=>(toD p.1 p.2).bind fun q=>(evEs es q.2).bind fun r=>.ok (q.1::r.1,r.2)
noncomputable def evAs:Es->Rho->R (List Vl×Rho)
 |.nil,ρ=>.ok ([],ρ)
 |.cons e es,ρ=>(evE e ρ).bind fun p=>(evAs es p.2).bind fun r=>.ok (p.1::r.1,r.2)
noncomputable def evO:Oe->Rho->R (Option Int×Rho)
 |.none,ρ=>.ok (none,ρ)
 |.some e,ρ=>(evE e ρ).bind fun p=>match p.1 with | .dat (.int i)=>.ok (some i,p.2) | _=>.stk
noncomputable def evI:It->Rho->R (List D×List Nat×Rho)
 |.seq e,ρ=>(evE e ρ).bind fun p=>jaB p.1 p.2
 |.rng1 a,ρ=>(evE a ρ).bind fun p=>(deref p.1 p.2).bind fun x=>(jdd x).bind fun xs=>.ok (xs,[],p.2)
 |.rng2 a b,ρ=>(evE a ρ).bind fun p=>(evE b p.2).bind fun q=>(deref p.1 q.2).bind fun x=>(deref q.1 q.2).bind fun y=>(jsV x y).bind fun xs=>.ok (xs,[],q.2)
 |.zip a b,ρ=>(evE a ρ).bind fun p=>(evE b p.2).bind fun q=>(jaB p.1 q.2).bind fun x=>(jaB q.1 x.2.2).bind fun y=>.ok (jfz x.1 y.1,x.2.1++y.2.1,y.2.2)
end
noncomputable def joZ (g:Rho->R Fl):Fl->R Fl
 |.nx ρ=>g ρ
 |r=>.ok r
noncomputable def ja2 (f:D->Rho->R Fl):List D->Rho->R Fl
 |[],ρ=>.ok (.nx ρ)
 |x::xs,ρ=>(f x ρ).bind fun r=>match r with
  |.nx ρ'=>ja2 f xs ρ'
  |.ct ρ'=>ja2 f xs ρ'
  |.bk ρ'=>.ok (.nx ρ')
  |.rt v ρ'=>.ok (.rt v ρ')
noncomputable def jjU (c:Rho->R (Bool×Rho))(f:Rho->R Fl):Nat->Rho->R Fl
 |0,_=>.stk
 |n + 1,ρ=>(c ρ).bind fun b=>if b.1 then (f b.2).bind fun r=>match r with
  |.nx ρ'=>jjU c f n ρ'
  |.ct ρ'=>jjU c f n ρ'
  |.bk ρ'=>.ok (.nx ρ')
  |.rt v ρ'=>.ok (.rt v ρ')else .ok (.nx b.2)
noncomputable def jmd (v:Vl)(ρ:Rho):R Fl:=match v with
 |.dat d=>.ok (.rt (.dat d) ρ)
 |.tmp o=>.ok (.rt (.tmp o) ρ)
 |.slot i=>match ρ[i]? with | some (.own o false false)=>.ok (.rt (.tmp o) (ρ.set i .no)) | _=>.stk
variable (W:Nat)
mutual
noncomputable def evS:S->Rho->R Fl
 |.ret e,ρ=>(evE G U e ρ).bind fun p=>jmd p.1 p.2
 |.retN,ρ=>.ok (.rt (.dat .non) ρ)
 |.expr e,ρ=>(evE G U e ρ).bind fun p=>.ok (.nx p.2)
 |.asg i e,ρ=>(evE G U e ρ).bind fun p=>(jhr p.1 p.2).bind fun q=>if i < q.2.length then .ok (.nx (q.2.set i q.1))else .stk
 |.unp is e,ρ=>(evE G U e ρ).bind fun p=>(deref p.1 p.2).bind fun d=>(putT is false d p.2).bind fun ρ'=>.ok (.nx ρ')
 |.app i e,ρ=>match ρ[i]? with
  |some (.own (.l _) _ _)=>(evE G U e ρ).bind fun p=>(toD p.1 p.2).bind fun q=>match q.2[i]? with
   |some (.own (.l xs) f false)=>if fits (xs.length + 1)then .ok (.nx (q.2.set i (.own (.l (xs++[q.1])) f false)))else .stk
   |_=>.stk
  |_=>.stk
 |.ext i e,ρ=>match ρ[i]? with
  |some (.own (.l _) _ _)=>(evE G U e ρ).bind fun p=>(deref p.1 p.2).bind fun x=>(jaA x).bind fun ys=>match p.2[i]? with
   |some (.own (.l xs) f false)=>if fits (xs.length + ys.length)then .ok (.nx (p.2.set i (.own (.l (xs++ys)) f false)))else .stk
   |_=>.stk
  |_=>.stk
 |.ins i k e,ρ=>match ρ[i]? with
  |some (.own (.l _) _ _)=>(evE G U k ρ).bind fun kd=>(evE G U e kd.2).bind fun p=>(toD p.1 p.2).bind fun q=>match q.2[i]?,kd.1 with
   |some (.own (.l xs) f false),.dat (.int 0)=>if fits (xs.length + 1)then .ok (.nx (q.2.set i (.own (.l (q.1::xs)) f false)))else .stk
   |_,_=>.stk
  |_=>.stk
 |.sub i k e,ρ=>(evE G U e ρ).bind fun p=>(toD p.1 p.2).bind fun q=>match q.2[i]? with
  |some (.own (.l _) _ _)=>(evE G U k q.2).bind fun kd=>match kd.2[i]?,kd.1 with
   |some (.own (.l xs) f false),.dat (.int j)=>if 0<=j/\j < xs.length then .ok (.nx (kd.2.set i (.own (.l (xs.set j.toNat q.1)) f false)))else .stk
   |_,_=>.stk
  |_=>.stk
 |.rvs i,ρ=>match ρ[i]? with
  |some (.own (.l xs) f false)=>.ok (.nx (ρ.set i (.own (.l xs.reverse) f false)))
  |_=>.stk
 |.ife c a b,ρ=>(evT G U c ρ).bind fun t=>if t.1 then evSs a t.2 else evSs b t.2
 |.loop tg one it b,ρ=>(evI G U it ρ).bind fun t=>(ja2 (fun x r=>(putT tg one x r).bind fun r'=>evSs b r') t.1 t.2.2).bind fun r=>.ok (jeu t.2.1 r)
 |.whl c b,ρ=>jjU (fun r=>evT G U c r) (fun r=>evSs b r) W ρ
 |.brk,ρ=>.ok (.bk ρ)
 |.cnt,ρ=>.ok (.ct ρ)
 |.pas,ρ=>.ok (.nx ρ)
 |.rai c e,ρ=>(evE G U e ρ).bind fun _=>.err c
 |.tryx b c i h,ρ=>match evS b ρ with
  |.err c'=>if U c' c then (match i with
    |some k=>((evSs h ((ρ.map jde).set k (.dat (.exc c')))).noErr).bind fun r=>match r with
     |.nx ρ'=>.ok (.nx (ρ'.set k .no))
     |_=>.stk
    |none=>.stk)
   else .stk
  |r=>r
noncomputable def evSs:Ss->Rho->R Fl
 |.nil,ρ=>.ok (.nx ρ)
 |.cons s ss,ρ=>(evS s ρ).bind (joZ fun ρ'=>evSs ss ρ')
end
end
structure Def where
 ps:Nat
 n:Nat
 body:Ss
noncomputable def jij (k:Nat)(ρ:Rho):List Sl:=(List.range k).map fun j=>match ρ[j]? with | some s=>jur s | none=>.no
noncomputable def jcy (k:Nat):Fl->R (Vl×List Sl)
 |.rt v ρ=>.ok (v,jij k ρ)
 |.nx ρ=>.ok (.dat .non,jij k ρ)
 |_=>.stk
noncomputable def jaa (U:Nat->Nat->Bool)(W:Nat)(P:List Def):Nat->Calls
 |0=>fun _ _=>.stk
 |n + 1=>fun f xs=>match P[f]? with
  |none=>.stk
  |some d=>if xs.length=d.ps then (evSs (jaa U W P n) U W d.body (xs++List.replicate (d.n - d.ps) .no)).bind (jcy d.ps)else .stk
end DJ
namespace DJ
open PySem PySem.Spec PyProof.Rows L2
noncomputable abbrev Frag:=PySem.W.Frag
structure Kn where
 K:Frag
 cl:List Addr
noncomputable def KT (K:Frag)(a:Addr)(xs:List V):Prop:=∃(o:Obj) (its:Array Value) (n:Nat),K.lookup a=some o/\o.cls=.type "tuple"/\o.data=.seq its n/\its.size<=sizeLine/\Vals xs its.toList
noncomputable def KL (K:Frag)(a:Addr)(xs:List V):Prop:=∃(o:Obj) (its:Array Value) (n:Nat),K.lookup a=some o/\o.cls=.type "list"/\o.dict=none/\o.data=.seq its n/\its.size<=sizeLine/\Vals xs its.toList
noncomputable def FT (K:Frag)(F:Addr->Prop)(H:Hp)(a:Addr)(xs:List V):Prop:=(F a/\Rd H a (.tup xs))\/KT K a xs
noncomputable def FL (K:Frag)(F:Addr->Prop)(H:Hp)(a:Addr)(xs:List V):Prop:=(F a/\Rd H a (.lst xs))\/KL K a xs
theorem FT.sq {K:Frag}{F:Addr->Prop}{H:Hp}{a:Addr}{xs:List V}(h:FT K F H a xs):SqT K H a xs:=h.imp (·.2) id
theorem FL.sq {K:Frag}{F:Addr->Prop}{H:Hp}{a:Addr}{xs:List V}(h:FL K F H a xs):SqL K H a xs:=h.imp (·.2) id
noncomputable def jhs (a C:Addr)(h:Heap):Prop:=∃o vs,h.get? a=some o/\o.cls=.ref C/\o.data=.fields vs
section
variable (Z:Kn) (F:Addr->Prop) (H:Hp)
mutual
noncomputable def Rep:D->V->Prop
 |.non,v=>v=.non
 |.bl b,v=>v=.bl b
 |.int i,v=>v=.int i
 |.str x,v=>v=.str x
 |.tup ds,v=>∃a vs,v=.ref a/\FT Z.K F H a vs/\Reps ds vs
 |.lst ds,v=>∃a vs,v=.ref a/\FL Z.K F H a vs/\Reps ds vs
 |.dct ks vs,v=>∃a,v=.ref a/\F a/\ks=[]/\vs=[]/\H a=some (.dK [])
 |.exc c,v=>∃a C,v=.ref a/\F a/\Z.cl[c]?=some C/\H a=some (.ext (jhs a C))
noncomputable def Reps:List D->List V->Prop
 |[],vs=>vs=[]
 |d::ds,vs=>∃v r,vs=v::r/\Rep d v/\Reps ds r
end
noncomputable def HasO (l:Addr):O->Prop
 |.l xs=>∃vs,H l=some (.lst vs)/\Reps Z F H xs vs
 |.d ks vs=>ks=[]/\vs=[]/\H l=some (.dK [])
end
noncomputable def Keep (F F':Addr->Prop)(H H':Hp):Prop:=∀a,F a->F' a/\H' a=H a
theorem Keep.rd {F F':Addr->Prop}{H H':Hp}(k:Keep F F' H H'){a:Addr}{u:HO}(h:F a/\Rd H a u):F' a/\Rd H' a u:=by
 obtain⟨f,e⟩:=k a h.1;refine⟨f,?_⟩;unfold Rd;rw[e];exact h.2
theorem Keep.refl {F:Addr->Prop}{H:Hp}:Keep F F H H:=fun _ h=>⟨h,rfl⟩
theorem Keep.trans {F F1 F2:Addr->Prop}{H H1 H2:Hp}(a:Keep F F1 H H1)(b:Keep F1 F2 H1 H2):Keep F F2 H H2:=fun x h=>by
 obtain⟨f1,e1⟩:=a x h;obtain⟨f2,e2⟩:=b x f1;exact⟨f2,e2.trans e1⟩
section
variable {Z:Kn}{F F':Addr->Prop}{H H':Hp}
mutual
theorem Rep.mono (k:Keep F F' H H'):∀{d:D}{v:V},Rep Z F H d v->Rep Z F' H' d v
 |.non,_,h=>by simpa only[Rep] using h
 |.bl _,_,h=>by simpa only[Rep] using h
 |.int _,_,h=>by simpa only[Rep] using h
 |.str _,_,h=>by simpa only[Rep] using h
 |.tup ds,v,h=>by
  simp only[Rep]at h ⊢;obtain⟨a,vs,e,q,r⟩:=h;exact⟨a,vs,e,q.imp k.rd id,Reps.mono k r⟩
 |.lst ds,v,h=>by
  simp only[Rep]at h ⊢;obtain⟨a,vs,e,q,r⟩:=h;exact⟨a,vs,e,q.imp k.rd id,Reps.mono k r⟩
 |.dct ks vs,v,h=>by
  simp only[Rep]at h ⊢;obtain⟨a,e,q,h1,h2,r⟩:=h;obtain⟨f,e'⟩:=k a q;exact⟨a,e,f,h1,h2,e'.trans r⟩
 |.exc c,v,h=>by
  simp only[Rep]at h ⊢;obtain⟨a,C,e,q,h1,r⟩:=h;obtain⟨f,e'⟩:=k a q;exact⟨a,C,e,f,h1,e'.trans r⟩
theorem Reps.mono (k:Keep F F' H H'):∀{ds:List D}{vs:List V},Reps Z F H ds vs->Reps Z F' H' ds vs
 |[],_,h=>by simpa only[Reps] using h
 |d::ds,vs,h=>by
  simp only[Reps]at h ⊢;obtain⟨v,r,e,h1,h2⟩:=h;exact⟨v,r,e,Rep.mono k h1,Reps.mono k h2⟩
end
theorem HasO.mono (k:Keep F F' H H'){l:Addr}(e:H' l=H l):∀{o:O},HasO Z F H l o->HasO Z F' H' l o
 |.l xs,⟨vs,h1,h2⟩=>⟨vs,e.trans h1,h2.mono k⟩
 |.d ks vs,⟨h1,h2,h3⟩=>⟨h1,h2,e.trans h3⟩
theorem HasO.some {l:Addr}{o:O}(h:HasO Z F H l o):∃u,H l=Option.some u:=by
 cases o with
 |l xs=>obtain⟨vs,e,_⟩:=h;exact⟨_,e⟩
 |d ks vs=>exact⟨_,h.2.2⟩
theorem Reps.length:∀{ds:List D}{vs:List V},Reps Z F H ds vs->ds.length=vs.length
 |[],vs,h=>by simp only[Reps]at h;subst h;rfl
 |d::ds,vs,h=>by
  simp only[Reps]at h;obtain⟨v,r,rfl,_,h2⟩:=h;rw[juU,juU,Reps.length h2]
theorem Reps.get:∀{ds:List D}{vs:List V}{i:Nat}{d:D},Reps Z F H ds vs->ds[i]?=some d->∃v,vs[i]?=some v/\Rep Z F H d v
 |[],_,_,_,_,e=>by simp at e
 |x::ds,vs,0,d,h,e=>by
  simp only[Reps]at h;obtain⟨v,r,rfl,h1,_⟩:=h;simp at e;subst e;exact⟨v,rfl,h1⟩
 |x::ds,vs,i + 1,d,h,e=>by
  simp only[Reps]at h;obtain⟨v,r,rfl,_,h2⟩:=h;obtain⟨u,e1,e2⟩:=Reps.get (i:=i) h2 (by simpa using e)
  exact⟨u,by simpa using e1,e2⟩
theorem Reps.append:∀{ds es:List D}{vs us:List V},Reps Z F H ds vs->Reps Z F H es us->Reps Z F H (ds++es) (vs++us)
 |[],_,_,_,h,h'=>by simp only[Reps]at h;subst h;exact h'
 |d::ds,es,vs,us,h,h'=>by
  simp only[Reps]at h;obtain⟨v,r,rfl,h1,h2⟩:=h;show Reps Z F H (d::(ds++es)) (v::(r++us));simp only[Reps];exact⟨v,_,rfl,h1,Reps.append h2 h'⟩
theorem Reps.drop:∀{ds:List D}{vs:List V} (n:Nat),Reps Z F H ds vs->Reps Z F H (ds.drop n) (vs.drop n)
 |_,_,0,h=>h
 |[],vs,n + 1,h=>by simp only[Reps]at h;subst h;simp[Reps]
 |d::ds,vs,n + 1,h=>by
  simp only[Reps]at h;obtain⟨v,r,rfl,h1,h2⟩:=h;exact Reps.drop n h2
theorem Reps.take:∀{ds:List D}{vs:List V} (n:Nat),Reps Z F H ds vs->Reps Z F H (ds.take n) (vs.take n)
 |_,_,0,h=>by simp[Reps]
 |[],vs,n + 1,h=>by simp only[Reps]at h;subst h;simp[Reps]
 |d::ds,vs,n + 1,h=>by
  simp only[Reps]at h;obtain⟨v,r,rfl,h1,h2⟩:=h;simp only[List.take_succ_cons,Reps];exact⟨v,_,rfl,h1,Reps.take n h2⟩
theorem Reps.set {d:D}{v:V}(hd:Rep Z F H d v):∀{ds:List D}{vs:List V} (i:Nat),Reps Z F H ds vs->Reps Z F H (ds.set i d) (vs.set i v)
 |[],vs,i,h=>by simp only[Reps]at h;subst h;simp[Reps]
 |e::ds,vs,0,h=>by
  simp only[Reps]at h;obtain⟨u,r,rfl,h1,h2⟩:=h;simp only[List.set_cons_zero,Reps];exact⟨v,_,rfl,hd,h2⟩
 |e::ds,vs,i + 1,h=>by
  simp only[Reps]at h;obtain⟨u,r,rfl,h1,h2⟩:=h;simp only[List.set_cons_succ,Reps];exact⟨u,_,rfl,h1,Reps.set hd i h2⟩
theorem Reps.one {d:D}{v:V}(hd:Rep Z F H d v):Reps Z F H [d] [v]:=by simp only[Reps];exact⟨v,[],rfl,hd,rfl⟩
theorem Reps.nil:Reps Z F H [] []:=by simp only[Reps]
theorem Reps.cons {d:D}{v:V}{ds:List D}{vs:List V}(hd:Rep Z F H d v)(h:Reps Z F H ds vs):Reps Z F H (d::ds) (v::vs):=by simp only[Reps];exact⟨v,vs,rfl,hd,h⟩
theorem Reps.uncons {d:D}{ds:List D}{us:List V}(h:Reps Z F H (d::ds) us):∃v vs,us=v::vs/\Rep Z F H d v/\Reps Z F H ds vs:=by simpa only[Reps] using h
theorem Reps.reverse {ds:List D}{vs:List V}(h:Reps Z F H ds vs):Reps Z F H ds.reverse vs.reverse:=by
 induction ds generalizing vs with
 |nil=>simp only[Reps]at h;subst h;exact .nil
 |cons d ds ih=>
  simp only[Reps]at h;obtain⟨v,r,rfl,h1,h2⟩:=h;rw[List.reverse_cons,List.reverse_cons];exact(ih h2).append (.one h1)
theorem Reps.dropLast {ds:List D}{vs:List V}(h:Reps Z F H ds vs):Reps Z F H ds.dropLast vs.dropLast:=by
 rw[List.dropLast_eq_take,List.dropLast_eq_take,h.length];exact h.take _
theorem Reps.rep {ds:List D}{vs:List V}(h:Reps Z F H ds vs):∀k:Nat,Reps Z F H (List.replicate k ds).flatten (List.replicate k vs).flatten
 |0=>.nil
 |k + 1=>by
  rw[List.replicate_succ,List.replicate_succ,List.flatten_cons,List.flatten_cons];exact h.append (Reps.rep h k)
end
noncomputable def Dom (F:Addr->Prop)(H:Hp):Prop:=∀a,F a->∃o,H a=some o
structure Bs where
 hp:Hp
 lent:Nat->Option Addr
noncomputable def OwR (Z:Kn)(B:Bs)(F:Addr->Prop)(H:Hp)(i:Nat)(o:O)(f:Bool)(l:Addr):Prop:=¬F l/\HasO Z F H l o/\(f=true->B.lent i=some l)/\(f=false->B.hp l=none)
structure SR (Z:Kn)(B:Bs)(F:Addr->Prop)(H:Hp)(σ:L2.St)(ρ:Rho):Prop where
 dom:Dom F H
 len:ρ.length=σ.length
 dat:∀(i:Nat) (d:D),ρ[i]?=some (.dat d)->∃v,σ[i]?=some (some v)/\Rep Z F H d v
 own:∀(i:Nat) (o:O) (f k:Bool),ρ[i]?=some (.own o f k)->∃l,σ[i]?=some (some (.ref l))/\OwR Z B F H i o f l
 one:∀(i j:Nat) (o o':O) (f k f' k':Bool) (l:Addr),i≠j->ρ[i]?=some (.own o f k)->ρ[j]?=some (.own o' f' k')->σ[i]?=some (some (.ref l))->σ[j]?≠some (some (.ref l))
 base:∀b,H b=none->B.hp b=none
inductive Ow (σ:L2.St) (ρ:Rho) (b:Addr):Prop
 |mk (i:Nat) (o:O) (f:Bool) (k:Bool):(ρ[i]?=some (.own o f k))->(σ[i]?=some (some (.ref b)))->Ow σ ρ b
inductive Mb (σ:L2.St) (ρ:Rho) (b:Addr):Prop
 |mk (i:Nat) (o:O) (f:Bool):(ρ[i]?=some (.own o f false))->(σ[i]?=some (some (.ref b)))->Mb σ ρ b
theorem Mb.ow {σ:L2.St}{ρ:Rho}{b:Addr}(h:Mb σ ρ b):Ow σ ρ b:=let ⟨i,o,f,h1,h2⟩:=h;⟨i,o,f,false,h1,h2⟩
structure Go (σ:L2.St)(ρ:Rho)(F:Addr->Prop)(H:Hp)(σ':L2.St)(ρ':Rho)(F':Addr->Prop)(H':Hp):Prop where
 stay:∀b o,H b=some o->¬Mb σ ρ b->H' b=some o
 sub:∀a,F a->F' a
 new:∀a,F' a->F a\/H a=none\/Mb σ ρ a
 ow:∀(j:Nat) (o:O) (f k:Bool) (b:Addr),ρ'[j]?=some (.own o f k)->σ'[j]?=some (some (.ref b))->(∃o0 k0,ρ[j]?=some (.own o0 f k0)/\σ[j]?=some (some (.ref b))/\(k0=true->k=true))\/H b=none
 there:∀b o,H b=some o->∃o',H' b=some o'
section
variable {Z:Kn}{B:Bs}{F F1 F2:Addr->Prop}{H H1 H2:Hp}{σ σ1 σ2:L2.St}{ρ ρ1 ρ2:Rho}
theorem SR.noF (r:SR Z B F H σ ρ){b:Addr}(h:Ow σ ρ b):¬F b:=by
 obtain⟨i,o,f,k,h1,h2⟩:=h;obtain⟨l,e,w⟩:=r.own i o f k h1;rw[h2]at e;cases e;exact w.1
theorem SR.there (r:SR Z B F H σ ρ){b:Addr}(h:Ow σ ρ b):∃u,H b=some u:=by
 obtain⟨i,o,f,k,h1,h2⟩:=h;obtain⟨l,e,w⟩:=r.own i o f k h1;rw[h2]at e;cases e;exact w.2.1.some
theorem Go.mb (g:Go σ ρ F H σ1 ρ1 F1 H1){b:Addr}(h:Mb σ1 ρ1 b):Mb σ ρ b\/H b=none:=by
 obtain⟨i,o,f,h1,h2⟩:=h;rcases g.ow i o f false b h1 h2 with ⟨o0,k0,e1,e2,e3⟩ | z
 ·cases k0 with
  |false=>exact .inl ⟨i,o0,f,e1,e2⟩
  |true=>exact absurd (e3 rfl) (by decide)
 ·exact .inr z
theorem Go.owA (g:Go σ ρ F H σ1 ρ1 F1 H1){b:Addr}(h:Ow σ1 ρ1 b):Ow σ ρ b\/H b=none:=by
 obtain⟨i,o,f,k,h1,h2⟩:=h;rcases g.ow i o f k b h1 h2 with ⟨o0,k0,e1,e2,e3⟩ | z
 ·exact .inl ⟨i,o0,f,k0,e1,e2⟩
 ·exact .inr z
theorem Go.self {j:Nat}{o:O}{f k:Bool}{b:Addr}(h1:ρ[j]?=some (.own o f k))(h2:σ[j]?=some (some (.ref b))):(∃o0 k0,ρ[j]?=some (.own o0 f k0)/\σ[j]?=some (some (.ref b))/\(k0=true->k=true))\/H b=none:=.inl ⟨o,k,h1,h2,id⟩
theorem Go.refl:Go σ ρ F H σ ρ F H:=⟨fun _ _ h _=>h,fun _ h=>h,fun _ h=>.inl h,fun _ _ _ _ _ h1 h2=>Go.self h1 h2,fun _ o h=>⟨o,h⟩⟩
theorem Go.trans (a:Go σ ρ F H σ1 ρ1 F1 H1)(b:Go σ1 ρ1 F1 H1 σ2 ρ2 F2 H2):Go σ ρ F H σ2 ρ2 F2 H2:=by
 have back:∀{c:Addr},H1 c=none->H c=none:=fun {c} h1=>by
  cases q:H c with
  |none=>rfl
  |some o=>obtain⟨u,e⟩:=a.there c o q;rw[h1]at e;cases e
 refine⟨fun c o h n=>b.stay c o (a.stay c o h n) fun m=>?_,fun c h=>b.sub c (a.sub c h),fun c h=>?_,fun j o f k c h1 h2=>?_,fun c o h=>let ⟨o1,h1⟩:=a.there c o h;b.there c o1 h1⟩
 ·rcases a.mb m with z | z
  ·exact n z
  ·rw[h]at z;cases z
 ·rcases b.new c h with z | z | z
  ·exact a.new c z
  ·exact .inr (.inl (back z))
  ·exact .inr ((a.mb z).elim .inr .inl)
 ·rcases b.ow j o f k c h1 h2 with ⟨o0,k0,e1,e2,e3⟩ | z
  ·rcases a.ow j o0 f k0 c e1 e2 with ⟨o1,k1,q1,q2,q3⟩ | z
   ·exact .inl ⟨o1,k1,q1,q2,fun w=>e3 (q3 w)⟩
   ·exact .inr z
  ·exact .inr (back z)
theorem Go.free (g:Go σ ρ F H σ1 ρ1 F1 H1){l:Addr}(h:H1 l=none):H l=none:=by
 cases q:H l with
 |none=>rfl
 |some o=>obtain⟨u,e⟩:=g.there l o q;rw[h]at e;cases e
theorem Go.keep (g:Go σ ρ F H σ1 ρ1 F1 H1)(r:SR Z B F H σ ρ):Keep F F1 H H1:=fun a h=>by
 obtain⟨o,e⟩:=r.dom a h;exact⟨g.sub a h,(g.stay a o e fun m=>r.noF m.ow h).trans e.symm⟩
theorem Go.side (g:Go σ ρ F H σ1 ρ1 F1 H1){l:Addr}{o:HO}(h:H l=some o)(hF:¬F l)(hO:¬Ow σ ρ l):H1 l=some o/\¬F1 l/\¬Ow σ1 ρ1 l:=by
 refine⟨g.stay l o h fun m=>hO m.ow,fun z=>?_,fun z=>?_⟩
 ·rcases g.new l z with q | q | q
  ·exact hF q
  ·rw[h]at q;cases q
  ·exact hO q.ow
 ·rcases g.owA z with q | q
  ·exact hO q
  ·rw[h]at q;cases q
structure Ext (F:Addr->Prop)(H:Hp)(F':Addr->Prop)(H':Hp):Prop where
 sub:∀a,F a->F' a
 same:Same H H'
 new:∀a,F' a->F a\/H a=none
 dom:∀a,F' a->∃o,H' a=some o
theorem Ext.refl (d:Dom F H):Ext F H F H:=⟨fun _ h=>h,Same.refl _,fun _ h=>.inl h,d⟩
theorem Ext.keep (a:Ext F H F1 H1)(d:Dom F H):Keep F F1 H H1:=fun x h=>by
 obtain⟨o,e⟩:=d x h;exact⟨a.sub x h,(a.same x o e).trans e.symm⟩
theorem Ext.newF {p:Addr}{o:HO}(d:Dom F H)(h:H p=none):Ext F H (fun a=>F a\/a=p) (upd H p o):=
 ⟨fun _ h=>.inl h,fun b u e=>by rw[jac (jab e h)];exact e,fun a q=>q.imp id fun (e:a=p)=>by rw[e];exact h,fun a q=>by
  rcases q with q | rfl
  ·obtain⟨u,e⟩:=d a q;exact⟨u,by rw[jac (jab e h)];exact e⟩
  ·exact⟨o,jaj⟩⟩
theorem Ext.newO {p:Addr}{o:HO}(d:Dom F H)(h:H p=none):Ext F H F (upd H p o):=
 ⟨fun _ h=>h,fun b u e=>by rw[jac (jab e h)];exact e,fun a q=>.inl q,fun a q=>by
  obtain⟨u,e⟩:=d a q;exact⟨u,by rw[jac (jab e h)];exact e⟩⟩
theorem Ext.go (e:Ext F H F1 H1):Go σ ρ F H σ ρ F1 H1:=⟨fun b o h _=>e.same b o h,e.sub,fun a h=>(e.new a h).imp id .inl,fun _ _ _ _ _ h1 h2=>Go.self h1 h2,fun b o h=>⟨o,e.same b o h⟩⟩
theorem SR.ext (r:SR Z B F H σ ρ)(e:Ext F H F1 H1):SR Z B F1 H1 σ ρ where
 dom:=e.dom
 len:=r.len
 dat:=fun i d h=>let ⟨v,h1,h2⟩:=r.dat i d h;⟨v,h1,h2.mono (e.keep r.dom)⟩
 own:=fun i o f k h=>by
  obtain⟨l,h1,h2,h3,h4⟩:=r.own i o f k h;obtain⟨u,hu⟩:=h3.some;refine⟨l,h1,fun z=>?_,h3.mono (e.keep r.dom) ((e.same l u hu).trans hu.symm),h4⟩;rcases e.new l z with z | z
  ·exact h2 z
  ·rw[hu]at z;cases z
 one:=r.one
 base:=fun b h=>r.base b (e.same.free h)
theorem SR.put (r:SR Z B F H σ ρ){i:Nat}{d:D}{v:V}(h:Rep Z F H d v):SR Z B F H (σ.set i (some v)) (ρ.set i (.dat d)) where
 dom:=r.dom
 len:=by simp[r.len]
 dat:=fun j e hj=>by
  rw[juP]at hj ⊢;by_cases hij:i=j
  ·subst hij;rw[if_pos rfl]at hj ⊢;rw[<-r.len];split at hj
   ·rename_i hl;cases hj;exact⟨v,by rw[if_pos hl],h⟩
   ·cases hj
  ·rw[if_neg hij]at hj ⊢;exact r.dat j e hj
 own:=fun j o f k hj=>by
  rw[juP]at hj ⊢;by_cases hij:i=j
  ·subst hij;rw[if_pos rfl]at hj;split at hj <;> cases hj
  ·rw[if_neg hij]at hj ⊢;exact r.own j o f k hj
 one:=fun j k o o' f kk f' kk' l hjk hj hk=>by
  rw[juP]at hj hk;rw[juP,juP];by_cases h1:i=j
  ·rw[if_pos h1]at hj;split at hj <;> cases hj
  ·by_cases h2:i=k
   ·rw[if_pos h2]at hk;split at hk <;> cases hk
   ·rw[if_neg h1]at hj ⊢;rw[if_neg h2]at hk ⊢;exact r.one j k o o' f kk f' kk' l hjk hj hk
 base:=r.base
theorem Go.put {i:Nat}{d:D}{v:V}:Go σ ρ F H (σ.set i (some v)) (ρ.set i (.dat d)) F H:=by
 refine⟨fun _ _ h _=>h,fun _ h=>h,fun _ h=>.inl h,fun j o f k b h1 h2=>?_,fun _ o h=>⟨o,h⟩⟩;rw[juP]at h1 h2;by_cases hij:i=j
 ·rw[if_pos hij]at h1;split at h1 <;> cases h1
 ·rw[if_neg hij]at h1 h2;exact Go.self h1 h2
theorem SR.putOwn (r:SR Z B F H σ ρ){i:Nat}{o:O}{l:Addr}(hF:¬F l)(hO:¬Ow σ ρ l)(hb:B.hp l=none)(h:HasO Z F H l o):SR Z B F H (σ.set i (some (.ref l))) (ρ.set i (.own o false false)) where
 dom:=r.dom
 len:=by simp[r.len]
 dat:=fun j e hj=>by
  rw[juP]at hj ⊢;by_cases hij:i=j
  ·subst hij;rw[if_pos rfl]at hj;split at hj <;> cases hj
  ·rw[if_neg hij]at hj ⊢;exact r.dat j e hj
 own:=fun j o' f k hj=>by
  rw[juP]at hj ⊢;by_cases hij:i=j
  ·subst hij;rw[if_pos rfl]at hj ⊢;rw[<-r.len];split at hj
   ·rename_i hl';cases hj;exact⟨l,by rw[if_pos hl'],hF,h,(fun z=>by cases z),fun _=>hb⟩
   ·cases hj
  ·rw[if_neg hij]at hj ⊢;exact r.own j o' f k hj
 one:=fun j k o1 o2 f1 k1 f2 k2 m hjk hj hk=>by
  rw[juP]at hj hk;rw[juP,juP];by_cases h1:i=j
  ·subst h1;rw[if_neg hjk]at hk ⊢;rw[if_pos rfl];intro q z;split at q
   ·cases q;exact hO ⟨k,_,_,_,hk,z⟩
   ·cases q
  ·by_cases h2:i=k
   ·subst h2;rw[if_neg h1]at hj ⊢;rw[if_pos rfl];intro q z;split at z
    ·cases z;exact hO ⟨j,_,_,_,hj,q⟩
    ·cases z
   ·rw[if_neg h1]at hj ⊢;rw[if_neg h2]at hk ⊢;exact r.one j k _ _ _ _ _ _ m hjk hj hk
 base:=r.base
theorem Go.putOwn (g:Go σ ρ F H σ ρ1 F1 H1){i:Nat}{o:O}{l:Addr}(hn:H l=none):Go σ ρ F H (σ.set i (some (.ref l))) (ρ1.set i (.own o false false)) F1 H1:=by
 refine⟨g.stay,g.sub,g.new,fun j o' f k b h1 h2=>?_,g.there⟩;rw[juP]at h1 h2;by_cases hij:i=j
 ·rw[if_pos hij]at h2;split at h2
  ·cases h2;exact .inr hn
  ·cases h2
 ·rw[if_neg hij]at h1 h2;exact g.ow j o' f k b h1 h2
noncomputable def Le (ρ' ρ:Rho):Prop:=ρ'.length=ρ.length/\(∀(i:Nat) d,ρ'[i]?=some (.dat d)->ρ[i]?=some (.dat d))/\(∀(i:Nat) o f k,ρ'[i]?=some (.own o f k)->ρ[i]?=some (.own o f k))
theorem Le.no {i:Nat}:Le (ρ.set i .no) ρ:=by
 refine⟨by simp,fun j d h=>?_,fun j o f k h=>?_⟩
 ·rw[juP]at h;by_cases e:i=j
  ·rw[if_pos e]at h;split at h <;> cases h
  ·rw[if_neg e]at h;exact h
 ·rw[juP]at h;by_cases e:i=j
  ·rw[if_pos e]at h;split at h <;> cases h
  ·rw[if_neg e]at h;exact h
theorem SR.weak (r:SR Z B F H σ ρ)(h:Le ρ1 ρ):SR Z B F H σ ρ1:=
 ⟨r.dom,h.1.trans r.len,fun i d q=>r.dat i d (h.2.1 i d q),fun i o f k q=>r.own i o f k (h.2.2 i o f k q),fun i j o o' f k f' k' l hij h1 h2=>r.one i j o o' f k f' k' l hij (h.2.2 _ _ _ _ h1) (h.2.2 _ _ _ _ h2),r.base⟩
theorem Go.weak (h:Le ρ1 ρ):Go σ ρ F H σ ρ1 F H:=
 ⟨fun _ _ h _=>h,fun _ h=>h,fun _ h=>.inl h,fun i o f k b h1 h2=>Go.self (h.2.2 _ _ _ _ h1) h2,fun _ o h=>⟨o,h⟩⟩
theorem SR.frz (r:SR Z B F H σ ρ){i:Nat}{o:O}{f k:Bool}{l:Addr}(h:ρ[i]?=some (.own o f k))(hl:σ[i]?=some (some (.ref l))) :
  Keep F (fun a=>F a\/a=l) H H/\SR Z B (fun a=>F a\/a=l) H σ (ρ.set i (.dat o.toD))/\Rep Z (fun a=>F a\/a=l) H o.toD (.ref l):=by
 obtain⟨l',h1,h2,h3,h4⟩:=r.own i o f k h;rw[hl]at h1;cases h1;have kp:Keep F (fun a=>F a\/a=l) H H:=fun a q=>⟨.inl q,rfl⟩;have hi:i < ρ.length:=(List.getElem?_eq_some_iff.mp h).1;have rp:Rep Z (fun a=>F a\/a=l) H o.toD (.ref l):=by
  cases o with
  |l xs=>
   obtain⟨vs,e,q⟩:=h3;simp only[O.toD,Rep];exact⟨l,vs,rfl,.inl ⟨.inr rfl,.inl e⟩,q.mono kp⟩
  |d ks vs=>
   obtain⟨e1,e2,e3⟩:=h3;simp only[O.toD,Rep];exact⟨l,rfl,.inr rfl,e1,e2,e3⟩
 refine⟨kp,⟨fun a q=>q.elim (r.dom a) fun (e:a=l)=>by rw[e];exact h3.some,by simp[r.len],fun j d hj=>?_,fun j o' f' k' hj=>?_,fun j jj o1 o2 f1 k1 f2 k2 m hjk hj hk=>?_,r.base⟩,rp⟩
 ·rw[juP]at hj;by_cases hij:i=j
  ·subst hij;rw[if_pos rfl,if_pos hi]at hj;cases hj;exact⟨_,hl,rp⟩
  ·rw[if_neg hij]at hj;obtain⟨v,e1,e2⟩:=r.dat j d hj;exact⟨v,e1,e2.mono kp⟩
 ·rw[juP]at hj;by_cases hij:i=j
  ·subst hij;rw[if_pos rfl,if_pos hi]at hj;cases hj
  ·rw[if_neg hij]at hj;obtain⟨l',e1,e2,e3,e4⟩:=r.own j o' f' k' hj;refine⟨l',e1,fun z=>z.elim e2 fun z=>?_,e3.mono kp rfl,e4⟩;subst z;exact r.one i j _ _ _ _ _ _ l' hij h hj hl e1
 ·rw[juP]at hj hk;by_cases h1:i=j
  ·subst h1;rw[if_pos rfl,if_pos hi]at hj;cases hj
  ·by_cases h2:i=jj
   ·subst h2;rw[if_pos rfl,if_pos hi]at hk;cases hk
   ·rw[if_neg h1]at hj;rw[if_neg h2]at hk;exact r.one j jj _ _ _ _ _ _ m hjk hj hk
theorem Go.frz {i:Nat}{o:O}{f:Bool}{l:Addr}{d:D}(h:ρ[i]?=some (.own o f false))(hl:σ[i]?=some (some (.ref l))):Go σ ρ F H σ (ρ.set i (.dat d)) (fun a=>F a\/a=l) H:=by
 refine⟨fun _ _ h _=>h,fun _ h=>.inl h,fun a q=>q.imp id fun (e:a=l)=>.inr ⟨i,o,f,h,by rw[e];exact hl⟩,fun j o' f' k' b h1 h2=>?_,fun _ o h=>⟨o,h⟩⟩
 rw[juP]at h1;by_cases e:i=j
 ·rw[if_pos e]at h1;split at h1 <;> cases h1
 ·rw[if_neg e]at h1;exact Go.self h1 h2
theorem SR.wr (r:SR Z B F H σ ρ){i:Nat}{o o':O}{f k:Bool}{l:Addr}{u:HO}(h:ρ[i]?=some (.own o f k))(hi:σ[i]?=some (some (.ref l)))(q:Keep F F H (upd H l u)->HasO Z F (upd H l u) l o')(k':Bool) :
  Keep F F H (upd H l u)/\SR Z B F (upd H l u) σ (ρ.set i (.own o' f k')):=by
 obtain⟨l',h1,h2,h3,h4⟩:=r.own i o f k h;rw[hi]at h1;cases h1;have kp:Keep F F H (upd H l u):=fun a q=>⟨q,jac fun z=>h2 (z ▸ q)⟩;have q:=q kp;have hlt:i < ρ.length:=(List.getElem?_eq_some_iff.mp h).1;refine⟨kp,fun a q=>?_,by simp[r.len],fun j d hj=>?_,fun j o1 f1 k1 hj=>?_,fun j jj o1 o2 f1 k1 f2 k2 m hjk hj hk=>?_,fun b hb=>r.base b (by
  unfold upd at hb;split at hb
  ·cases hb
  ·exact hb)⟩
 ·obtain⟨o,e⟩:=r.dom a q;exact⟨o,(kp a q).2.trans e⟩
 ·rw[juP]at hj;by_cases hij:i=j
  ·subst hij;rw[if_pos rfl,if_pos hlt]at hj;cases hj
  ·rw[if_neg hij]at hj;obtain⟨v,e1,e2⟩:=r.dat j d hj;exact⟨v,e1,e2.mono kp⟩
 ·rw[juP]at hj;by_cases hij:i=j
  ·subst hij;rw[if_pos rfl,if_pos hlt]at hj;cases hj;exact⟨l,hi,h2,q,h4⟩
  ·rw[if_neg hij]at hj;obtain⟨l',e1,e2,e3,e4⟩:=r.own j o1 f1 k1 hj;refine⟨l',e1,e2,e3.mono kp (jac fun z=>?_),e4⟩;subst z;exact r.one i j _ _ _ _ _ _ l' hij h hj hi e1
 ·have back:∀{j:Nat}{o1:O}{f1 k1:Bool},(ρ.set i (.own o' f k'))[j]?=some (.own o1 f1 k1)->∃o2 f2 k2,ρ[j]?=some (.own o2 f2 k2):=fun {j o1 f1 k1} hj=>by
   rw[juP]at hj;by_cases hij:i=j
   ·subst hij;exact⟨_,_,_,h⟩
   ·rw[if_neg hij]at hj;exact⟨_,_,_,hj⟩
  obtain⟨_,_,_,hj'⟩:=back hj;obtain⟨_,_,_,hk'⟩:=back hk;exact r.one j jj _ _ _ _ _ _ m hjk hj' hk'
theorem Go.wr {i:Nat}{o o':O}{f:Bool}{l:Addr}{u:HO}(h:ρ[i]?=some (.own o f false))(hi:σ[i]?=some (some (.ref l))):Go σ ρ F H σ (ρ.set i (.own o' f false)) F (upd H l u):=by
 have hm:Mb σ ρ l:=⟨i,o,f,h,hi⟩;refine⟨fun b w e n=>by rw[jac fun z=>n (by rw[z];exact hm)];exact e,fun _ h=>h,fun _ h=>.inl h,fun j o1 f1 k1 b h1 h2=>?_,fun b w e=>?_⟩
 ·rw[juP]at h1;by_cases e:i=j
  ·subst e;rw[if_pos rfl]at h1;split at h1
   ·cases h1;exact .inl ⟨o,false,h,h2,id⟩
   ·cases h1
  ·rw[if_neg e]at h1;exact Go.self h1 h2
 ·by_cases z:b=l
  ·exact⟨u,by rw[z];exact jaj⟩
  ·exact⟨w,by rw[jac z];exact e⟩
theorem Go.lock {i:Nat}{o:O}{f k:Bool}(h:ρ[i]?=some (.own o f k)):Go σ ρ F H σ (ρ.set i (.own o f true)) F H:=by
 refine⟨fun _ _ h _=>h,fun _ h=>h,fun _ h=>.inl h,fun j o1 f1 k1 b h1 h2=>?_,fun _ o h=>⟨o,h⟩⟩;rw[juP]at h1;by_cases e:i=j
 ·subst e;rw[if_pos rfl]at h1;split at h1
  ·cases h1;exact .inl ⟨o,k,h,h2,fun _=>rfl⟩
  ·cases h1
 ·rw[if_neg e]at h1;exact Go.self h1 h2
theorem SR.lock (r:SR Z B F H σ ρ){i:Nat}{o:O}{f k:Bool}(h:ρ[i]?=some (.own o f k))(k':Bool):SR Z B F H σ (ρ.set i (.own o f k')):=by
 have back:∀{j:Nat}{o1:O}{f1 k1:Bool},(ρ.set i (.own o f k'))[j]?=some (.own o1 f1 k1)->∃k2,ρ[j]?=some (.own o1 f1 k2):=fun {j o1 f1 k1} hj=>by
  rw[juP]at hj;by_cases hij:i=j
  ·subst hij;rw[if_pos rfl]at hj;split at hj
   ·cases hj;exact⟨k,h⟩
   ·cases hj
  ·rw[if_neg hij]at hj;exact⟨_,hj⟩
 refine⟨r.dom,by simp[r.len],fun j d hj=>?_,fun j o1 f1 k1 hj=>?_,fun j jj o1 o2 f1 k1 f2 k2 m hjk hj hk=>?_,r.base⟩
 ·rw[juP]at hj;by_cases hij:i=j
  ·rw[if_pos hij]at hj;split at hj <;> cases hj
  ·rw[if_neg hij]at hj;exact r.dat j d hj
 ·obtain⟨k2,e⟩:=back hj;exact r.own j o1 f1 k2 e
 ·obtain⟨_,e1⟩:=back hj;obtain⟨_,e2⟩:=back hk;exact r.one j jj _ _ _ _ _ _ m hjk e1 e2
theorem SR.oth (r:SR Z B F H σ ρ){p:Addr}{u:HO}(h1:¬F p)(h2:¬Ow σ ρ p):Keep F F H (upd H p u)/\SR Z B F (upd H p u) σ ρ:=by
 have kp:Keep F F H (upd H p u):=fun a q=>⟨q,jac fun z=>h1 (z ▸ q)⟩;refine⟨kp,fun a q=>?_,r.len,fun j d hj=>?_,fun j o f k hj=>?_,r.one,fun b hb=>r.base b (by
  unfold upd at hb;split at hb
  ·cases hb
  ·exact hb)⟩
 ·obtain⟨u,e⟩:=r.dom a q;exact⟨u,(kp a q).2.trans e⟩
 ·obtain⟨v,e1,e2⟩:=r.dat j d hj;exact⟨v,e1,e2.mono kp⟩
 ·obtain⟨l',e1,e2,e3,e4⟩:=r.own j o f k hj;refine⟨l',e1,e2,e3.mono kp (jac fun z=>?_),e4⟩;subst z;exact h2 ⟨j,o,f,k,hj,e1⟩
end
end DJ
namespace DJ
open PySem PySem.Spec PyProof.Rows L2
theorem R.bind_assoc {α β γ:Type}(r:R α)(f:α->R β)(g:β->R γ):(r.bind f).bind g=r.bind fun a=>(f a).bind g:=by cases r <;> rfl
theorem R.bind_ok' {α β:Type}(a:α)(f:α->R β):(R.ok a).bind f=f a:=rfl
theorem R.bind_ok {α β:Type}{r:R α}{f:α->R β}{b:β}(h:r.bind f=.ok b):∃a,r=.ok a/\f a=.ok b:=by
 cases r with
 |ok a=>exact⟨a,rfl,h⟩
 |err c=>cases h
 |stk=>cases h
noncomputable def Ok {α:Type}(W:Nat->Prop)(r:R α)(Q:α->Prop):Prop:=match r with
 |.ok d=>Q d
 |.err c=>W c
 |.stk=>False
theorem Ok.bind {α β:Type}{W:Nat->Prop}{r:R α}{f:α->R β}{Q:β->Prop}(h:Ok W (r.bind f) Q):Ok W r fun a=>Ok W (f a) Q:=by
 cases r with
 |ok a=>exact h
 |err c=>exact h
 |stk=>exact h
theorem Ok.imp {α:Type}{W W':Nat->Prop}{r:R α}{Q Q':α->Prop}(h:Ok W r Q)(w:∀c,W c->W' c)(k:∀a,Q a->Q' a):Ok W' r Q':=by
 cases r with
 |ok a=>exact k a h
 |err c=>exact w c h
 |stk=>exact h
theorem Ok.pure {α:Type}{W:Nat->Prop}{r:R α}{Q:α->Prop}(h:Ok W r Q)(hn:∀c,r≠.err c):∃a,r=.ok a/\Q a:=by
 cases r with
 |ok a=>exact⟨a,rfl,h⟩
 |err c=>exact absurd rfl (hn c)
 |stk=>exact h.elim
structure FlyC (X:Cx)(pins:List (Addr×Obj))(ea:Addr)(cls:Value)(H':Hp)(s':Shared):Prop where
 ex:∃a0 B,Heap.FlyingW B X.stack ea cls a0 s'.heap/\(∀b o,X.s₀.heap.get? b=some o->b ∉ frs X.stack->b ∉ X.ex->∃o',B.get? b=some o')/\(∀x c,X.fn x=true->X.env.cells.lookup x=some c->∃o',B.get? c=some o') /\
  (∀p∈X.pn++pins,∃o',B.get? p.1=some o')/\(∀a o,H' a=some o->∃o',B.get? a=some o')
 free:H' ea=none
structure Stl (σ:L2.St)(ρ:Rho)(H H':Hp):Prop where
 stay:∀b o,H b=some o->¬Mb σ ρ b->H' b=some o
 there:∀b o,H b=some o->∃o',H' b=some o'
noncomputable def XW (Z:Kn)(X:Cx)(σ:L2.St)(ρ:Rho)(H:Hp)(c:Nat):Prop:=∀(pins:List (Addr×Obj)) (H':Hp) (s':Shared) (ea C:Addr),Z.cl[c]?=some C->Inv X pins σ H' s'->Stl σ ρ H H'->FlyC X pins ea (.ref C) H' s'->X.xe (.ref ea) s'
theorem Stl.go {σ σ1:L2.St}{ρ ρ1:Rho}{F F1:Addr->Prop}{H H1 H2:Hp}(g:Go σ ρ F H σ1 ρ1 F1 H1)(s:Stl σ1 ρ1 H1 H2):Stl σ ρ H H2 where
 stay b o e n:=s.stay b o (g.stay b o e n) fun m=>by
  rcases g.mb m with q | q
  ·exact n q
  ·rw[e]at q;cases q
 there b o e:=by
  obtain⟨o1,e1⟩:=g.there b o e;exact s.there b o1 e1
theorem XW.mono {Z:Kn}{X:Cx}{σ:L2.St}{ρ ρ1:Rho}{F F1:Addr->Prop}{H H1:Hp}{c:Nat}(h:XW Z X σ ρ H c)(g:Go σ ρ F H σ ρ1 F1 H1):XW Z X σ ρ1 H1 c:=
 fun pins H' s' ea C e I q y=>h pins H' s' ea C e I (q.go g) y
noncomputable def RV (Z:Kn)(F':Addr->Prop)(H0 H':Hp)(σ:L2.St)(ρ':Rho):Vl->V->Prop
 |.dat d,v=>Rep Z F' H' d v
 |.tmp o,v=>∃l,v=.ref l/\¬F' l/\¬Ow σ ρ' l/\H0 l=none/\HasO Z F' H' l o
 |.slot i,v=>σ[i]?=some (some v)
noncomputable def Post (Z:Kn)(B:Bs)(σ:L2.St)(ρ:Rho)(F:Addr->Prop)(H:Hp)(Q:VK)(p:Vl×Rho):Prop:=∀v F' H',Go σ ρ F H σ p.2 F' H'->SR Z B F' H' σ p.2->RV Z F' H H' σ p.2 p.1 v->Q v H'
inductive tE_I (Z:Kn) (X:Cx) (B:Bs) (f:Rho->R (Vl×Rho)) (σ:L2.St) (H:L2.Hp) (Q:L2.VK):Prop
 |mk (F:_) (ρ:_):(SR Z B F H σ ρ)->(Ok (XW Z X σ ρ H) (f ρ) (Post Z B σ ρ F H Q))->tE_I Z X B f σ H Q
noncomputable def tE (Z:Kn)(X:Cx)(B:Bs)(f:Rho->R (Vl×Rho)):TE:=fun σ H Q=>tE_I Z X B f σ H Q
inductive tT_I (Z:Kn) (X:Cx) (B:Bs) (f:Rho->R (Bool×Rho)) (σ:L2.St) (H:L2.Hp) (Q:(Bool->L2.Hp->Prop)):Prop
 |mk (F:_) (ρ:_):(SR Z B F H σ ρ)->(Ok (XW Z X σ ρ H) (f ρ) fun p=>∀F' H',Go σ ρ F H σ p.2 F' H'->SR Z B F' H' σ p.2->Q p.1 H')->tT_I Z X B f σ H Q
noncomputable def tT (Z:Kn)(X:Cx)(B:Bs)(f:Rho->R (Bool×Rho)):TT:=fun σ H Q=>tT_I Z X B f σ H Q
theorem PE.imp {X:Cx}{e:Expr}{t t':TE}(h:PE X e t)(k:∀σ H Q,t' σ H Q->t σ H Q):PE X e t':=fun pins s σ H Q I q=>h pins s σ H Q I (k σ H Q q)
theorem PT.imp {X:Cx}{e:Expr}{t t':TT}(h:PT X e t)(k:∀σ H Q,t' σ H Q->t σ H Q):PT X e t':=fun pins s σ H Q I q=>h pins s σ H Q I (k σ H Q q)
theorem PI.imp {X:Cx}{tg e:Expr}{t t':TI}(h:PI X tg e t)(k:∀σ H R,t' σ H R->t σ H R):PI X tg e t':=fun pins s σ H R I q=>h pins s σ H R I (k σ H R q)
theorem PO.imp {X:Cx}{e:Option Expr}{t t':TO}(h:PO X e t)(k:∀σ H Q,t' σ H Q->t σ H Q):PO X e t':=fun pins s σ H Q I q=>h pins s σ H Q I (k σ H Q q)
theorem PS.imp {X:Cx}{e:Stmt}{t t':TS}(h:PS X e t)(k:∀D σ H,t' D σ H->t D σ H):PS X e t':=fun pins s σ H D I q=>h pins s σ H D I (k D σ H q)
theorem PSs.imp {X:Cx}{e:List Stmt}{t t':TS}(h:PSs X e t)(k:∀D σ H,t' D σ H->t D σ H):PSs X e t':=fun pins s σ H D I q=>h pins s σ H D I (k D σ H q)
section
variable {Z:Kn}{X:Cx}{B:Bs}{σ:L2.St}{ρ ρ1:Rho}{F F1:Addr->Prop}{H H1:Hp}
theorem tE.congr {f g:Rho->R (Vl×Rho)}(h:∀ρ,f ρ=g ρ):tE Z X B f=tE Z X B g:=by rw[show f=g from funext h]
theorem tT.congr {f g:Rho->R (Bool×Rho)}(h:∀ρ,f ρ=g ρ):tT Z X B f=tT Z X B g:=by rw[show f=g from funext h]
theorem Post.ext {Q:VK}{p:Vl×Rho}(h:Post Z B σ ρ F H Q p)(g:Go σ ρ F H σ ρ1 F1 H1):Post Z B σ ρ1 F1 H1 Q p:=fun v F' H' g' r' q=>by
 refine h v F' H' (g.trans g') r' ?_;obtain⟨w,ρ'⟩:=p;cases w with
 |dat d=>exact q
 |tmp o=>obtain⟨l,e,h1,h2,h3,h4⟩:=q;exact⟨l,e,h1,h2,g.free h3,h4⟩
 |slot i=>exact q
end
end DJ
namespace DJ
open PySem PySem.Spec PyProof.Rows L2
inductive TgsOk (X:Cx):List Expr->List Nat->Prop where
 |nil:TgsOk X [] []
 |cons {x:Str}{pos:Pos}{i:Nat}{es:List Expr}{is:List Nat}:X.N[i]?=some x->Loc X.env.scope x->(X.fn x=true\/X.env.scope.names.lookup x=some .local)->TgsOk X es is->TgsOk X (.Name x pos::es) (i::is)
inductive TgOk (X:Cx):Expr->List Nat->Bool->Prop where
 |one {x:Str}{pos:Pos}{i:Nat}:X.N[i]?=some x->Loc X.env.scope x->(X.fn x=true\/X.env.scope.names.lookup x=some .local)->TgOk X (.Name x pos) [i] true
 |many {es:List Expr}{k:Nat}{pos:Pos}{is:List Nat}:TgsOk X es is->TgOk X (.Tuple es k pos) is false
noncomputable def gNs:List Nat->TGs
 |[]=>jtP
 |i::is=>jqK (joi i) (gNs is)
noncomputable def jls (is:List Nat)(vs:List V)(σ:L2.St):L2.St:=(is.zip vs).foldl (fun r p=>r.set p.1 (some p.2)) σ
theorem jjV:∀{is:List Nat}{vs:List V}{σ:L2.St}{H:Hp}{Q:L2.St->Hp->Prop},is.length=vs.length->Q (jls is vs σ) H->gNs is vs σ H Q
 |[],[],_,_,_,_,q=>⟨rfl,q⟩
 |[],_::_,_,_,_,e,_=>by simp at e
 |_::_,[],_,_,_,e,_=>by simp at e
 |i::is,v::vs,σ,H,Q,e,q=>⟨v,vs,rfl,jjV (is:=is) (vs:=vs) (σ:=σ.set i (some v)) (H:=H) (Q:=Q) (by simpa using e) q⟩
theorem TgsOk.pgs {X:Cx}(nd:X.N.Nodup){es:List Expr}{is:List Nat}(h:TgsOk X es is):PGs X es (gNs is):=by
 induction h with
 |nil=>exact joj
 |cons h1 h2 h3 _ ih=>exact jly (ji7 nd h1 h2 h3) ih
theorem TgsOk.lens {X:Cx}{es:List Expr}{is:List Nat}(h:TgsOk X es is):(assignEach es X.env).length=is.length/\(assignEach es X.env).findIdx? (·.1)=none:=by
 induction h with
 |nil=>exact⟨rfl,rfl⟩
 |@cons x pos i es is _ _ _ _ ih=>
  have e:assignEach (Expr.Name x pos::es) X.env=(false,assign (.Name x pos) X.env)::assignEach es X.env:=rfl;rw[e];refine⟨by simp[ih.1],?_⟩
  rw[List.findIdx?_cons];simp[ih.2]
section
variable {Z:Kn}{B:Bs}{F:Addr->Prop}{H:Hp}
theorem SR.putN:∀{is:List Nat}{ds:List D}{vs:List V}{σ:L2.St}{ρ:Rho},SR Z B F H σ ρ->Reps Z F H ds vs ->
  SR Z B F H (jls is vs σ) ((is.zip ds).foldl (fun r p=>r.set p.1 (.dat p.2)) ρ)/\Go σ ρ F H (jls is vs σ) ((is.zip ds).foldl (fun r p=>r.set p.1 (.dat p.2)) ρ) F H
 |[],_,_,_,_,r,_=>by simpa[jls] using⟨r,Go.refl⟩
 |_::_,[],vs,_,_,r,h=>by
  simp only[Reps]at h;subst h;simpa[jls] using⟨r,Go.refl⟩
 |i::is,d::ds,vs,σ,ρ,r,h=>by
  simp only[Reps]at h;obtain⟨v,us,rfl,h1,h2⟩:=h;simp only[jls,List.zip_cons_cons,List.foldl_cons];obtain⟨a,b⟩:=SR.putN (is:=is) (r.put (i:=i) h1) h2;exact⟨a,Go.put.trans b⟩
end
theorem jht:∀{is:List Nat}{vs:List V}{σ:L2.St}{j:Nat},j ∉ is->(jls is vs σ)[j]?=σ[j]?
 |[],_,_,_,_=>by simp[jls]
 |_::_,[],_,_,_=>by simp[jls]
 |i::is,v::vs,σ,j,h=>by
  simp only[juN,not_or]at h;have:=jht (is:=is) (vs:=vs) (σ:=σ.set i (some v)) h.2;simp only[jls,List.zip_cons_cons,List.foldl_cons]at this ⊢;rw[this,ju2 (Ne.symm h.1)]
theorem jus {Z:Kn}{X:Cx}{tg:Expr}{tgs:List Nat}{one:Bool}(hZ:X.K=Z.K)(hc:one=false->X.calm=true)(nd:X.N.Nodup)(T:TgOk X tg tgs one){pins:List (Addr×Obj)}{s:Shared}{σ:L2.St}{ρ ρ':Rho}{B:Bs}{F:Addr->Prop}{H:Hp}{d:D}{v:V}{u:Value}
  (I:Inv X pins σ H s) (r:SR Z B F H σ ρ) (rp:Rep Z F H d v) (rv:RelV v u) (hp:putT tgs one d ρ=.ok ρ') :
  wpAny (model X.prog X.w) X.A (assign tg X.env u) (fun _ s'=>∃σ',Inv X pins σ' H s'/\SR Z B F H σ' ρ'/\Go σ ρ F H σ' ρ' F H/\∀i:Nat,i ∉ tgs->σ'[i]?=σ[i]?) X.xe s:=by
 cases T with
 |@one x pos i h1 h2 h3=>
  simp only[putT]at hp;cases hp;refine thn (ji7 nd h1 h2 h3 pins s σ H v u (fun σ' H'=>(SR Z B F H σ' (ρ.set i (.dat d))/\Go σ ρ F H σ' (ρ.set i (.dat d)) F H/\∀j:Nat,j ∉ [i]->σ'[j]?=σ[j]?)/\H'=H) I rv ⟨⟨r.put rp,Go.put,fun j hj=>ju2 (fun z=>hj (by simp[z]))⟩,rfl⟩) fun _ s' ⟨σ',H',I',q,e⟩=>?_
  subst e;exact⟨σ',I',q⟩
 |many h=>
  cases d with
  |tup ds=>
   simp only[putT]at hp;split at hp
   ·rename_i hl;cases hp;simp only[Rep]at rp;obtain⟨a,vs,rfl,ft,rs⟩:=rp;have hvl:vs.length=tgs.length:=by rw[hl,rs.length]
    refine thn (jnz (n:=tgs.length) (hc rfl) (h.pgs nd) h.lens.1 h.lens.2 pins s σ H (.ref a) u (fun σ' H'=>(SR Z B F H σ' ((tgs.zip ds).foldl (fun r p=>r.set p.1 (.dat p.2)) ρ)/\Go σ ρ F H σ' ((tgs.zip ds).foldl (fun r p=>r.set p.1 (.dat p.2)) ρ) F H/\∀j:Nat,j ∉ tgs->σ'[j]?=σ[j]?)/\H'=H) I rv ⟨a,vs,rfl,(by rw[hZ];exact ft.sq),hvl,jjV hvl.symm ⟨⟨(r.putN rs).1,(r.putN rs).2,fun j hj=>jht hj⟩,rfl⟩⟩) fun _ s' hzz=>?_
    obtain⟨σ',H',I',q,e⟩:=hzz;subst e;exact⟨σ',I',q⟩
   ·cases hp
  |_=>simp only[putT]at hp <;> cases hp
structure GK (F0:Addr->Prop)(H0:Hp)(ls:List Addr)(F:Addr->Prop)(H:Hp):Prop where
 keep:Keep F0 F H0 H
 ls:∀l∈ls,H l=H0 l
theorem GK.refl {F0:Addr->Prop}{H0:Hp}{ls:List Addr}:GK F0 H0 ls F0 H0:=⟨Keep.refl,fun _ _=>rfl⟩
theorem GK.ext {F0 F F1:Addr->Prop}{H0 H H1:Hp}{ls:List Addr}(g:GK F0 H0 ls F H)(d:Dom F H)(hl:∀l∈ls,∃o,H0 l=some o)(e:Ext F H F1 H1):GK F0 H0 ls F1 H1:=
 ⟨g.keep.trans (e.keep d),fun l h=>by
  obtain⟨o,q⟩:=hl l h;rw[e.same l o ((g.ls l h).trans q),q]⟩
theorem GK.go {Z:Kn}{B:Bs}{F0 F F1:Addr->Prop}{H0 H H1:Hp}{ls:List Addr}{σ σ1:L2.St}{ρ ρ1:Rho}(g:GK F0 H0 ls F H)(hl:∀l∈ls,∃o,H0 l=some o)(r:SR Z B F H σ ρ)(e:Go σ ρ F H σ1 ρ1 F1 H1)(hm:∀l∈ls,¬Mb σ ρ l):GK F0 H0 ls F1 H1:=
 ⟨g.keep.trans (e.keep r),fun l h=>by
  obtain⟨o,q⟩:=hl l h;rw[e.stay l o ((g.ls l h).trans q) (hm l h),q]⟩
noncomputable def ItmG (Z:Kn)(G:(Addr->Prop)->Hp->Prop)(J:L2.It)(xs:List D):Prop:=xs.length<=sizeLine/\∀F H,G F H->Dom F H ->
 (∀(i:Nat) (x:D),xs[i]?=some x->J.go i H/\∀v H2,J.yld i H v H2->∃F2,Ext F H F2 H2/\Rep Z F2 H2 x v)/\J.stop xs.length H
structure Wk (P:Program)(w:World)(Z:Kn)(tg:Expr)(F0:Addr->Prop)(H0:Hp)(ls:List Addr)(xs:List D)(fp:List Addr)(it:Addr)(tn:Nat->Heap->Prop):Prop where
 mem:it∈fp
 len:xs.length<=sizeLine
 lst:∀l∈ls,∃o,H0 l=some o
 obj:∀i h,tn i h->∀b∈fp,∃o,h.get? b=some o/\∀v,o.data≠.cell v
 keep:∀i h h',tn i h->(∀b∈fp,∀o,h.get? b=some o->h'.get? b=some o)->tn i h'
 self:∀(A:Around) (i:Nat) (s:Shared) (Q:Value->Shared->Prop) (E:Value->Shared->Prop),tn i s.heap->Q (.ref it) s->wpAny (model P w) A (pyIter (.ref it)) Q E s
 take:∀(X:Cx),X.prog=P->X.w=w->X.K=Z.K->X.calm=true->X.N.Nodup->∀tgs one,TgOk X tg tgs one ->
  ∀(i:Nat) (pins:List (Addr×Obj)) (s:Shared) (σ:L2.St) (ρ ρ':Rho) (B:Bs) (F:Addr->Prop) (H:Hp) (x:D),Inv X pins σ H s->SR Z B F H σ ρ->GK F0 H0 ls F H->(∀b∈fp,FpOk X pins H b)->tn i s.heap->xs[i]?=some x->putT tgs one x ρ=.ok ρ' ->
  wpAny (model P w) X.A (pyNext (.ref it)) (fun r s1=>∃u,r=some u/\wpAny (model P w) X.A (letOwnedTupleGo tg (.ref it) u) (fun _ s2=>wpAny (model P w) X.A (assign tg X.env u)
   (fun _ s3=>∃σ3 F3 H3,Inv X pins σ3 H3 s3/\SR Z B F3 H3 σ3 ρ'/\Go σ ρ F H σ3 ρ' F3 H3/\GK F0 H0 ls F3 H3/\tn (i + 1) s3.heap/\(∀b∈fp,H3 b=none)/\∀j:Nat,j ∉ tgs->σ3[j]?=σ[j]?) X.xe s2) X.xe s1) X.xe s
 done:∀(X:Cx),X.prog=P->X.w=w->X.K=Z.K->X.calm=true->∀(pins:List (Addr×Obj)) (s:Shared) (σ:L2.St) (F:Addr->Prop) (H:Hp),Inv X pins σ H s->Dom F H->GK F0 H0 ls F H->(∀b∈fp,FpOk X pins H b)->tn xs.length s.heap ->
  wpAny (model P w) X.A (pyNext (.ref it)) (fun r s1=>r=none/\Inv X pins σ H s1) X.xe s
theorem ItmG.wk {P:Program}{w:World}{Z:Kn}{K:Frag}{tg:Expr}{F0:Addr->Prop}{H0:Hp}{ls:List Addr}{J:L2.It}{xs:List D}{fp:List Addr}{it:Addr}{tn:Nat->Heap->Prop}(h:ItmG Z (GK F0 H0 ls) J xs)(hK:K=Z.K)(hl:∀l∈ls,∃o,H0 l=some o)(T:Turn P w K tg J fp it tn):Wk P w Z tg F0 H0 ls xs fp it tn where
 mem:=T.mem
 len:=h.1
 lst:=hl
 obj:=T.obj
 keep:=T.keep
 self:=T.self
 done:=fun X h1 h2 h3 hc pins s σ F H I dm g fo st=>T.done X h1 h2 (h3.trans hK.symm) hc _ pins s σ H X.xe I fo st (h.2 F H g dm).2
 take:=by
  intro X h1 h2 h3 hc nd tgs one tk i pins s σ ρ ρ' B F H x I r g fo st hx hp;obtain⟨g1,g2⟩:=(h.2 F H g r.dom).1 i x hx;refine thn (T.item X h1 h2 (h3.trans hK.symm) hc i pins s σ H X.xe I fo st g1) fun o s1 hz=>?_;obtain⟨u,ho,h⟩:=hz;refine⟨u,ho,thn h fun _ s2 hz=>?_⟩;obtain⟨v,H2,I2,rv,y,st2,fr2⟩:=hz;obtain⟨F2,ex,rp⟩:=g2 v H2 y;subst h1 h2;have fo2:∀b∈fp,FpOk X pins H2 b:=fun b hb=>⟨fr2 b hb,(fo b hb).2⟩;have I2':=I2.pinned fo2 (T.obj _ _ st2);refine thn (jus h3 (fun _=>hc) nd tk I2' (r.ext ex) rp rv hp) fun _ s3 hzz=>?_;obtain⟨σ3,I3,r3,g3,ho3⟩:=hzz;refine⟨σ3,F2,H2,I3.unpinned,r3,ex.go.trans g3,g.ext r.dom hl ex,T.keep _ _ _ st2 fun b hb o e=>(I3.pin (b,o) (juV _ (juV _ (jbn hb e)))).1,fr2,ho3⟩
section
variable {K:Frag}{F F':Addr->Prop}{H H':Hp}
theorem FL.keep {a:Addr}{xs:List V}(k:Keep F F' H H')(h:FL K F H a xs):FL K F' H' a xs:=h.imp k.rd id
theorem FT.keep {a:Addr}{xs:List V}(k:Keep F F' H H')(h:FT K F H a xs):FT K F' H' a xs:=h.imp k.rd id
end
theorem jme {Z:Kn}{G:(Addr->Prop)->Hp->Prop}{xs:List D}{vs:List V}{a:Addr}(len:xs.length<=sizeLine)(hG:∀F H,G F H->Dom F H->SqL Z.K H a vs/\Reps Z F H xs vs):ItmG Z G (Itl Z.K a) xs:=
 ⟨len,fun F H g dm=>by
  obtain⟨q,r⟩:=hG F H g dm;refine⟨fun i x hx=>?_,⟨vs,q,by rw[r.length];exact jvq _⟩⟩
  obtain⟨v,e,rp⟩:=r.get hx;refine⟨⟨vs,v,q,e⟩,fun u H2 y=>?_⟩;obtain⟨rfl,y⟩:=y;have:=y vs q;rw[e]at this;cases this;exact⟨F,Ext.refl dm,rp⟩⟩
theorem jo0 {Z:Kn}{G:(Addr->Prop)->Hp->Prop}{xs:List D}{vs:List V}{a:Addr}(len:xs.length<=sizeLine)(hG:∀F H,G F H->Dom F H->SqT Z.K H a vs/\Reps Z F H xs vs):ItmG Z G (Itt Z.K a) xs:=
 ⟨len,fun F H g dm=>by
  obtain⟨q,r⟩:=hG F H g dm;refine⟨fun i x hx=>?_,⟨vs,q,by rw[r.length];exact jvq _⟩⟩
  obtain⟨v,e,rp⟩:=r.get hx;refine⟨⟨vs,v,q,e⟩,fun u H2 y=>?_⟩;obtain⟨rfl,y⟩:=y;have:=y vs q;rw[e]at this;cases this;exact⟨F,Ext.refl dm,rp⟩⟩
theorem jo1 (lo:Int)(n:Nat):(jnL lo n).length=n:=by unfold jnL;rw[juT,List.length_range]
theorem jo2 {Z:Kn}{G:(Addr->Prop)->Hp->Prop}{lo:Int}{n:Nat}(hn:n<=sizeLine):ItmG Z G (Itr lo n) (jnL lo n):=by
 have hl:=jo1 lo n;refine⟨by rw[hl];exact hn,fun F H g dm=>⟨fun i x hx=>?_,by rw[hl];exact jvq n⟩⟩
 unfold jnL at hx;rw[juQ]at hx;cases e:(List.range n)[i]? with
 |none=>rw[e]at hx;cases hx
 |some k=>
  rw[e]at hx;obtain⟨h1,h2⟩:=List.getElem?_eq_some_iff.mp e;rw[List.length_range]at h1;rw[List.getElem_range]at h2;subst h2;cases hx;refine⟨h1,fun u H2 y=>?_⟩;obtain⟨rfl,rfl⟩:=y;exact⟨F,Ext.refl dm,by simp only[Rep]⟩
end DJ
namespace DJ
open PySem PySem.Spec PyProof.Rows L2
noncomputable def RepB (Z:Kn)(F:Addr->Prop)(H:Hp)(d:D)(v:V):Prop:=Rep Z F H d v\/∃l o,v=.ref l/\d=o.toD/\HasO Z F H l o
section
variable {Z:Kn}{X:Cx}{B:Bs}{σ:L2.St}{ρ ρ1 ρ2:Rho}{F F1 F2:Addr->Prop}{H H0 H1 H2:Hp}{w:Vl}{v:V}
theorem RV.go (h:RV Z F1 H0 H1 σ ρ1 w v)(r:SR Z B F1 H1 σ ρ1)(g:Go σ ρ1 F1 H1 σ ρ2 F2 H2):RV Z F2 H0 H2 σ ρ2 w v:=by
 cases w with
 |dat d=>exact Rep.mono (g.keep r) h
 |tmp o=>
  obtain⟨l,e,h1,h2,h3,h4⟩:=h;obtain⟨u,hu⟩:=h4.some;obtain⟨a,b,c⟩:=g.side hu h1 h2;exact⟨l,e,b,c,h3,h4.mono (g.keep r) (a.trans hu.symm)⟩
 |slot i=>exact h
theorem RV.base (h:RV Z F1 H0 H1 σ ρ1 w v)(k:∀l,H0 l=none->H l=none):RV Z F1 H H1 σ ρ1 w v:=by
 cases w with
 |dat d=>exact h
 |tmp o=>obtain⟨l,e,h1,h2,h3,h4⟩:=h;exact⟨l,e,h1,h2,k l h3,h4⟩
 |slot i=>exact h
theorem jbd {d:D}(h:RV Z F1 H0 H1 σ ρ1 w v)(r:SR Z B F1 H1 σ ρ1)(hd:deref w ρ1=.ok d):RepB Z F1 H1 d v:=by
 cases w with
 |dat d'=>cases hd;exact .inl h
 |tmp o=>cases hd;obtain⟨l,e,_,_,_,h4⟩:=h;exact .inr ⟨l,o,e,rfl,h4⟩
 |slot i=>
  simp only[deref]at hd;split at hd
  ·rename_i o f k e;cases hd;obtain⟨l,e1,_,e3,_⟩:=r.own i o f k e;have h:σ[i]?=some (some v):=h;rw[h]at e1;cases e1;exact .inr ⟨l,o,rfl,rfl,e3⟩
  ·cases hd
theorem jaO {c:Nat}:deref w ρ1≠.err c:=by
 cases w with
 |dat d=>intro z;cases z
 |tmp o=>intro z;cases z
 |slot i=>
  simp only[deref];split <;> (intro z;cases z)
theorem O.rep {l:Addr}{o:O}(h:HasO Z F H l o)(hF:F l):Rep Z F H o.toD (.ref l):=by
 cases o with
 |l xs=>
  obtain⟨vs,e,q⟩:=h;simp only[O.toD,Rep];exact⟨l,vs,rfl,.inl ⟨hF,.inl e⟩,q⟩
 |d ks vs=>
  obtain⟨e1,e2,e3⟩:=h;simp only[O.toD,Rep];exact⟨l,rfl,hF,e1,e2,e3⟩
theorem SR.frzT (r:SR Z B F1 H1 σ ρ1){l:Addr}{o:O}(hO:¬Ow σ ρ1 l)(h:HasO Z F1 H1 l o):SR Z B (fun a=>F1 a\/a=l) H1 σ ρ1/\Rep Z (fun a=>F1 a\/a=l) H1 o.toD (.ref l):=by
 have kp:Keep F1 (fun a=>F1 a\/a=l) H1 H1:=fun a q=>⟨.inl q,rfl⟩;refine⟨⟨fun a q=>q.elim (r.dom a) fun (e:a=l)=>by rw[e];exact h.some,r.len,fun i d e=>let ⟨v,e1,e2⟩:=r.dat i d e;⟨v,e1,e2.mono kp⟩,fun i o f k e=>?_,r.one,r.base⟩,O.rep (h.mono kp rfl) (.inr rfl)⟩
 obtain⟨l',e1,e2,e3,e4⟩:=r.own i o f k e;refine⟨l',e1,fun z=>z.elim e2 fun z=>?_,e3.mono kp rfl,e4⟩;subst z;exact hO ⟨i,o,f,k,e,e1⟩
theorem Go.frzT (g:Go σ ρ F H σ ρ1 F1 H1){l:Addr}(hn:H l=none):Go σ ρ F H σ ρ1 (fun a=>F1 a\/a=l) H1:=
 ⟨g.stay,fun a h=>.inl (g.sub a h),fun a h=>h.elim (g.new a) fun (e:a=l)=>.inr (.inl (by rw[e];exact hn)),g.ow,g.there⟩
theorem jdW {d:D}(h:RV Z F1 H H1 σ ρ1 w v)(r:SR Z B F1 H1 σ ρ1)(g:Go σ ρ F H σ ρ1 F1 H1)(hd:toD w ρ1=.ok (d,ρ2)):∃F2,Go σ ρ F H σ ρ2 F2 H1/\SR Z B F2 H1 σ ρ2/\Rep Z F2 H1 d v/\Keep F1 F2 H1 H1:=by
 cases w with
 |dat d'=>cases hd;exact⟨F1,g,r,h,Keep.refl⟩
 |tmp o=>
  cases hd;obtain⟨l,rfl,h1,h2,h3,h4⟩:=h;obtain⟨a,b⟩:=r.frzT h2 h4;exact⟨_,g.frzT h3,a,b,fun a q=>⟨.inl q,rfl⟩⟩
 |slot i=>
  have h:σ[i]?=some (some v):=h;simp only[toD]at hd;split at hd
  ·rename_i o e;cases hd;obtain⟨l,e1,_⟩:=r.own i o _ _ e;rw[h]at e1;cases e1;obtain⟨a,b,c⟩:=r.frz e h;exact⟨_,g.trans (Go.frz e h),b,c,a⟩
  ·cases hd
theorem jcC {c:Nat}:toD w ρ1≠.err c:=by
 cases w with
 |dat d=>intro z;cases z
 |tmp o=>intro z;cases z
 |slot i=>
  simp only[toD];split <;> (intro z;cases z)
end
section
variable {Z:Kn}{F F1:Addr->Prop}{H H1:Hp}{x:V}
theorem RepB.flat {d:D}(h:RepB Z F H d x)(hd:∀o:O,d≠o.toD):Rep Z F H d x:=by
 rcases h with h | ⟨_,o,_,e,_⟩
 ·exact h
 ·exact absurd e (hd o)
theorem RepB.int {i:Int}(h:RepB Z F H (.int i) x):x=.int i:=by have:=h.flat (fun o z=>by cases o <;> cases z);simpa only[Rep] using this
theorem RepB.bl {b:Bool}(h:RepB Z F H (.bl b) x):x=.bl b:=by have:=h.flat (fun o z=>by cases o <;> cases z);simpa only[Rep] using this
theorem RepB.str {s:Str}(h:RepB Z F H (.str s) x):x=.str s:=by have:=h.flat (fun o z=>by cases o <;> cases z);simpa only[Rep] using this
theorem RepB.non (h:RepB Z F H .non x):x=.non:=by have:=h.flat (fun o z=>by cases o <;> cases z);simpa only[Rep] using this
theorem RepB.tup {ds:List D}(h:RepB Z F H (.tup ds) x):∃a vs,x=.ref a/\FT Z.K F H a vs/\Reps Z F H ds vs:=by have:=h.flat (fun o z=>by cases o <;> cases z);simpa only[Rep] using this
theorem RepB.lst {ds:List D}(h:RepB Z F H (.lst ds) x):∃a vs,x=.ref a/\SqL Z.K H a vs/\Reps Z F H ds vs:=by
 rcases h with h | ⟨l,o,e1,e2,e3⟩
 ·simp only[Rep]at h;obtain⟨a,vs,e,q,r⟩:=h;exact⟨a,vs,e,q.sq,r⟩
 ·cases o with
  |l xs=>
   cases e2;obtain⟨vs,e,q⟩:=e3;exact⟨l,vs,e1,SqL.of e,q⟩
  |d ks vs=>cases e2
theorem RepB.dct {ks vs:List D}(h:RepB Z F H (.dct ks vs) x):∃a,x=.ref a/\ks=[]/\vs=[]/\H a=some (.dK []):=by
 rcases h with h | ⟨l,o,e1,e2,e3⟩
 ·simp only[Rep]at h;obtain⟨a,e,_,h1,h2,h3⟩:=h;exact⟨a,e,h1,h2,h3⟩
 ·cases o with
  |l xs=>cases e2
  |d ks' vs'=>cases e2;exact⟨l,e1,e3⟩
theorem jb4 {d:D}{xs:List D}(h:RepB Z F H d x)(hs:jaA d=.ok xs):∃p vs,x=.ref p/\(SqL Z.K H p vs\/SqT Z.K H p vs)/\Reps Z F H xs vs:=by
 cases d with
 |tup ds=>cases hs;obtain⟨a,vs,e,ft,r⟩:=h.tup;exact⟨a,vs,e,.inr ft.sq,r⟩
 |lst ds=>cases hs;obtain⟨a,vs,e,ft,r⟩:=h.lst;exact⟨a,vs,e,.inl ft,r⟩
 |_=>cases hs
end
noncomputable def PostV (Z:Kn)(F:Addr->Prop)(H:Hp)(Q:VK)(w:Vl):Prop:=∀v F' H',Ext F H F' H'->(∀σ ρ B,SR Z B F H σ ρ->RV Z F' H H' σ ρ w v)->Q v H'
section
variable {Z:Kn}{B:Bs}{σ:L2.St}{ρ:Rho}{F:Addr->Prop}{H:Hp}{Q:VK}
theorem PostV.sc {d:D}{v:V}(h:PostV Z F H Q (.dat d))(dm:Dom F H)(r:Rep Z F H d v):Q v H:=h v F H (Ext.refl dm) fun _ _ _ _=>r
theorem PostV.int {i:Int}(h:PostV Z F H Q (.dat (.int i)))(dm:Dom F H):Q (.int i) H:=h.sc dm (by simp only[Rep])
theorem PostV.bl {i:Bool}(h:PostV Z F H Q (.dat (.bl i)))(dm:Dom F H):Q (.bl i) H:=h.sc dm (by simp only[Rep])
theorem PostV.tupOld {ds:List D}{a:Addr}{vs:List V}(h:PostV Z F H Q (.dat (.tup ds)))(dm:Dom F H)(f:FT Z.K F H a vs)(r:Reps Z F H ds vs):Q (.ref a) H:=h.sc dm (by simp only[Rep];exact⟨a,vs,rfl,f,r⟩)
theorem PostV.tup {ds:List D}{vs:List V}(h:PostV Z F H Q (.dat (.tup ds)))(dm:Dom F H)(r:Reps Z F H ds vs):∀p,H p=none->Q (.ref p) (upd H p (.tup vs)):=fun p hp=>by
 have ex:=Ext.newF (o:=.tup vs) dm hp;refine h _ _ _ ex fun _ _ _ _=>?_;show Rep _ _ _ _ _;simp only[Rep];exact⟨p,vs,rfl,.inl ⟨.inr rfl,.inl jaj⟩,r.mono (ex.keep dm)⟩
theorem PostV.lst {ds:List D}{vs:List V}(h:PostV Z F H Q (.tmp (.l ds)))(dm:Dom F H)(r:Reps Z F H ds vs):∀p,H p=none->Q (.ref p) (upd H p (.lst vs)):=fun p hp=>by
 have ex:=Ext.newO (o:=.lst vs) dm hp;refine h _ _ _ ex fun σ ρ B sr=>⟨p,rfl,fun z=>?_,fun z=>?_,hp,vs,jaj,r.mono (ex.keep dm)⟩
 ·obtain⟨o,e⟩:=dm p z;rw[hp]at e;cases e
 ·obtain⟨u,e⟩:=sr.there z;rw[hp]at e;cases e
end
theorem Post.toV {Z:Kn}{B:Bs}{σ:L2.St}{ρ ρ1:Rho}{F F1:Addr->Prop}{H H1:Hp}{Q:VK}{w:Vl}(h:Post Z B σ ρ F H Q (w,ρ1))(g:Go σ ρ F H σ ρ1 F1 H1)(r:SR Z B F1 H1 σ ρ1)(hw:∀i,w≠.slot i):PostV Z F1 H1 Q w:=fun v F' H' e q=>by
 refine h v F' H' (g.trans e.go) (r.ext e) ?_;exact(q σ ρ1 B r).base fun l z=>g.free z
inductive rD2_I (Z:Kn) (g:D->D->R Vl) (x:L2.V) (y:L2.V) (H:L2.Hp) (Q:L2.VK):Prop
 |mk (F:_) (dx:_) (dy:_) (w:_):(Dom F H)->(RepB Z F H dx x)->(RepB Z F H dy y)->(g dx dy=.ok w)->(PostV Z F H Q w)->rD2_I Z g x y H Q
noncomputable def rD2 (Z:Kn)(g:D->D->R Vl):R2:=fun x y H Q=>rD2_I Z g x y H Q
inductive rD1_I (Z:Kn) (g:D->R Vl) (x:V) (H:Hp) (Q:VK):Prop
 |mk (F:_) (dx:_) (w:_):(Dom F H)->(RepB Z F H dx x)->(g dx=.ok w)->(PostV Z F H Q w)->rD1_I Z g x H Q
noncomputable def rD1 (Z:Kn)(g:D->R Vl):V->Hp->VK->Prop:=fun x H Q=>rD1_I Z g x H Q
section
variable {Z:Kn}{X:Cx}{B:Bs}{σ:L2.St}{H:Hp}{Q:VK}
theorem tE.two {fa fb:Rho->R (Vl×Rho)}{g:D->D->R Vl}(hg:∀x y c,g x y≠.err c)(hs:∀x y i,g x y≠.ok (.slot i))
  (h:tE Z X B (fun ρ=>(fa ρ).bind fun p=>(fb p.2).bind fun q=>(deref p.1 q.2).bind fun x=>(deref q.1 q.2).bind fun y=>(g x y).bind fun v=>.ok (v,q.2)) σ H Q) :
  tOp (rD2 Z g) (tE Z X B fa) (tE Z X B fb) σ H Q:=by
 obtain⟨F,ρ,r,h⟩:=h;refine⟨F,ρ,r,h.bind.imp (fun _ w=>w) fun p h1 v F1 H1 g1 r1 q1=>⟨F1,p.2,r1,h1.bind.imp (fun c w=>w.mono g1) fun q h2 u F2 H2 g2 r2 q2=>?_⟩⟩;obtain⟨x,ex,h3⟩:=h2.bind.pure fun c=>jaO;obtain⟨y,ey,h4⟩:=h3.bind.pure fun c=>jaO;obtain⟨w,ew,h5⟩:=h4.bind.pure fun c=>hg x y c;have g12:=g1.trans g2;exact⟨F2,x,y,w,r2.dom,jbd (q1.go r1 g2) r2 ex,jbd q2 r2 ey,ew,Post.toV h5 g12 r2 fun i z=>hs x y i (by rw[ew,z])⟩
theorem tE.one {fa:Rho->R (Vl×Rho)}{g:D->R Vl}(hg:∀x c,g x≠.err c)(hs:∀x i,g x≠.ok (.slot i))(h:tE Z X B (fun ρ=>(fa ρ).bind fun p=>(deref p.1 p.2).bind fun x=>(g x).bind fun v=>.ok (v,p.2)) σ H Q):tUn (rD1 Z g) (tE Z X B fa) σ H Q:=by
 obtain⟨F,ρ,r,h⟩:=h;refine⟨F,ρ,r,h.bind.imp (fun _ w=>w) fun p h1 v F1 H1 g1 r1 q1=>?_⟩;obtain⟨x,ex,h3⟩:=h1.bind.pure fun c=>jaO;obtain⟨w,ew,h5⟩:=h3.bind.pure fun c=>hg x c;exact⟨F1,x,w,r1.dom,jbd q1 r1 ex,ew,Post.toV h5 g1 r1 fun i z=>hs x i (by rw[ew,z])⟩
end
end DJ
namespace DJ
open PySem PySem.Spec PyProof.Rows L2
noncomputable def jik (env:Env):List (Str×NameKind)->List (Str×Addr)->List (Str×Addr)
 |[],cs=>cs
 |(n,k)::r,cs=>jik env r (if k == .free then (n,(env.cells.lookup n).getD 0)::cs else cs)
theorem jo3 {env:Env}:∀(names:List (Str×NameKind)) (cs:List (Str×Addr)),(∀x∈names,x.2=.free->∃c,env.cells.lookup x.1=some c) ->
  (forIn names cs fun (x:Str×NameKind) (cs:List (Str×Addr))=>(match x with
   |(name,kind)=>if (kind == NameKind.free)=true then (do let a <-cellOf env name;pure (ForInStep.yield ((name,a)::cs)))else pure (ForInStep.yield cs):Sem (ForInStep (List (Str×Addr)))))=(pure (jik env names cs):Sem _):=by
 intro names;induction names with
 |nil=>intro cs _;rfl
 |cons x r ih=>
  intro cs h;obtain⟨n,k⟩:=x;rw[List.forIn_cons];have ih':=fun cs=>ih cs fun x hx=>h x (juL _ hx);by_cases hk:(k == NameKind.free)=true
  ·obtain⟨c,hc⟩:=h (n,k) juM (by simpa using hk)
   have e1:cellOf env n=pure c:=by
    have hc:env.cells.lookup n=some c:=hc;unfold cellOf;rw[hc]
   simp only[hk,if_true,e1];have hc:env.cells.lookup n=some c:=hc;simp only[jik,hk,if_true,hc,Option.getD_some];exact ih' _
  ·simp only[hk,jik];exact ih' _
theorem jjW {scope:Scope}{env:Env}(h:∀x∈scope.names,x.2=.free->∃c,env.cells.lookup x.1=some c):closureFor scope env=pure (jik env scope.names []):=by
 have:=jo3 scope.names [] h;unfold closureFor;simp only;rw[this];rfl
theorem jbv {env:Env}:∀(names:List (Str×NameKind)) (cs:List (Str×Addr)),(∀x∈names,x.2=.free->∃c,env.cells.lookup x.1=some c)->(∀n c,cs.lookup n=some c->env.cells.lookup n=some c) ->
  ∀n c,(jik env names cs).lookup n=some c->env.cells.lookup n=some c
 |[],_,_,h2,n,c,e=>h2 n c e
 |(y,k)::r,cs,h1,h2,n,c,e=>by
  refine jbv r _ (fun x hx=>h1 x (juL _ hx)) (fun m b q=>?_) n c e;by_cases hk:(k == NameKind.free)=true
  ·rw[if_pos hk]at q;obtain⟨b',hb⟩:=h1 (y,k) juM (by simpa using hk)
   have hb:env.cells.lookup y=some b':=hb;rw[hb,List.lookup_cons]at q;by_cases e:m=y
   ·subst e;simp at q;subst q;exact hb
   ·have:(m == y)=false:=by simpa using e
    rw[this]at q;exact h2 m b q
  ·rw[if_neg hk]at q;exact h2 m b q
theorem jev {env:Env}:∀(names:List (Str×NameKind)) (cs:List (Str×Addr)) (n:Str),(∃c,cs.lookup n=some c)\/(n,NameKind.free)∈names->∃c,(jik env names cs).lookup n=some c
 |[],cs,n,h=>h.elim id fun h=>by simp at h
 |(y,k)::r,cs,n,h=>by
  refine jev r _ n ?_;have keep:(∃c,cs.lookup n=some c)->∃c,(if k == NameKind.free then (y,(env.cells.lookup y).getD 0)::cs else cs).lookup n=some c:=fun ⟨c,e⟩=>by
   split
   ·rw[List.lookup_cons];split
    ·exact⟨_,rfl⟩
    ·exact⟨c,e⟩
   ·exact⟨c,e⟩
  rcases h with h | h
  ·exact .inl (keep h)
  ·rcases List.mem_cons.mp h with h | h
   ·cases h;refine .inl ⟨(env.cells.lookup y).getD 0,?_⟩;rw[if_pos (by rfl),List.lookup_cons]
    simp
   ·exact .inr h
theorem ja4 {c:Str->NameKind->Bool}{x:Str}:∀(names:List (Str×NameKind)),(names.map fun (p:Str×NameKind)=>match p with | (n,k)=>if c n k=true then (n,NameKind.cell)else (n,k)).lookup x=(names.lookup x).map fun k=>if c x k=true then NameKind.cell else k
 |[]=>rfl
 |(n,k)::r=>by
  rw[juR,List.lookup_cons];have ih:=ja4 (c:=c) (x:=x) r;by_cases e:x=n
  ·subst e;by_cases hc:c x k=true
   ·simp[hc]
   ·simp[hc]
  ·have e':(x == n)=false:=by simpa using e
   by_cases hc:c n k=true
   ·simp only[hc,if_true,List.lookup_cons,e'];exact ih
   ·simp only[hc,jvw,if_false,List.lookup_cons,e'];exact ih
section
variable {x:Str}{c:Addr}
theorem jb5 (n:Nat)(y:Str)(k:NameKind)(r:List (Str×NameKind))(cs:List (Str×Addr)):cellsFrom n ((y,k)::r) cs=if k == .cell then cellsFrom (n + 1) r ((y,n)::cs)else cellsFrom n r cs:=rfl
theorem jjX (h:Heap)(y:Str)(k:NameKind)(r:List (Str×NameKind)):pushCells h ((y,k)::r)=if k == .cell then pushCells (h.push { cls:=.type "cell",data:=.cell none }) r else pushCells h r:=rfl
theorem jb6 {y:Str}{n:Addr}{cs:List (Str×Addr)}(h:((y,n)::cs).lookup x=some c):(x=y/\c=n)\/(x≠y/\cs.lookup x=some c):=by
 rw[List.lookup_cons]at h;by_cases e:x=y
 ·subst e;simp at h;exact .inl ⟨rfl,h.symm⟩
 ·have:(x == y)=false:=by simpa using e
  rw[this]at h;exact .inr ⟨e,h⟩
theorem jcW:∀(names:List (Str×NameKind)) (n:Nat) (cs:List (Str×Addr)),(cellsFrom n names cs).lookup x=some c->n<=c\/cs.lookup x=some c
 |[],n,cs,h=>.inr h
 |(y,k)::r,n,cs,h=>by
  rw[jb5]at h;split at h
  ·rcases jcW r _ _ h with h | h
   ·exact .inl (by omega)
   ·rcases jb6 h with ⟨_,e⟩ | ⟨_,h⟩
    ·exact .inl (e ▸ jvq _)
    ·exact .inr h
  ·exact jcW r _ _ h
theorem jjY:∀(names:List (Str×NameKind)) (n:Nat) (cs:List (Str×Addr)),(∀x c,cs.lookup x=some c->c < n)->(∀x y c,cs.lookup x=some c->cs.lookup y=some c->x=y)->∀x y c,(cellsFrom n names cs).lookup x=some c->(cellsFrom n names cs).lookup y=some c->x=y
 |[],n,cs,_,h=>h
 |(y,k)::r,n,cs,h1,h2=>by
  rw[jb5];split
  ·refine jjY r (n + 1) _ (fun a b q=>?_) fun a a' b q q'=>?_
   ·rcases jb6 q with ⟨_,e⟩ | ⟨_,q⟩
    ·rw[e];exact Nat.lt_succ_self _
    ·exact Nat.lt_succ_of_lt (h1 a b q)
   ·rcases jb6 q with ⟨e,e1⟩ | ⟨_,q⟩ <;> rcases jb6 q' with ⟨e',e2⟩ | ⟨_,q'⟩
    ·rw[e,e']
    ·exact absurd (h1 a' b q') (by rw[e1];exact jvu _)
    ·exact absurd (h1 a b q) (by rw[e2];exact jvu _)
    ·exact h2 a a' b q q'
  ·exact jjY r n cs h1 h2
theorem jgw:∀(names:List (Str×NameKind)) (h:Heap) (cs:List (Str×Addr)),(∀x c,cs.lookup x=some c->∃v,h.IsCell c v)->∀x c,(cellsFrom h.objs.size names cs).lookup x=some c->∃v,(pushCells h names).IsCell c v
 |[],h,cs,k=>k
 |(y,k)::r,h,cs,q=>by
  rw[jb5,jjX];split
  ·have e:h.objs.size + 1=(h.push { cls:=.type "cell",data:=.cell none }).objs.size:=by rw[Heap.size_push]
   rw[e];refine jgw r _ _ fun a b z=>?_;rcases jb6 z with ⟨_,e⟩ | ⟨_,z⟩
   ·subst e;exact⟨none,_,jvn _ rfl,rfl⟩
   ·obtain⟨v,z⟩:=q a b z;exact⟨v,z.keeps fun b o e=>jvl _ e⟩
  ·exact jgw r h cs q
theorem jjZ:∀(names:List (Str×NameKind)) (n:Nat) (cs:List (Str×Addr)),(∀y∈names,y.1=x->y.2≠.cell)->(cellsFrom n names cs).lookup x=cs.lookup x
 |[],n,cs,_=>rfl
 |(y,k)::r,n,cs,h=>by
  rw[jb5];split
  ·rename_i hk;rw[jjZ r _ _ fun z hz=>h z (juL _ hz),List.lookup_cons];have hne:x≠y:=fun e=>h (y,k) juM e.symm (by simpa using hk)
   have:(x == y)=false:=by simpa using hne
   rw[this]
  ·exact jjZ r _ _ fun z hz=>h z (juL _ hz)
theorem jo4 {n0:Nat}:∀(names:List (Str×NameKind)) (n:Nat) (cs:List (Str×Addr)),n0<=n->(∀c,cs.lookup x=some c->n0<=c)->(cellsFrom n names cs).lookup x=some c->n0<=c
 |[],n,cs,_,h,e=>h c e
 |(y,k)::r,n,cs,hn,h,e=>by
  rw[jb5]at e;split at e
  ·refine jo4 r _ _ (by omega) (fun b z=>?_) e
   rcases jb6 z with ⟨_,e⟩ | ⟨_,z⟩
   ·rw[e];exact hn
   ·exact h b z
  ·exact jo4 r _ _ hn h e
theorem jj0:∀(names:List (Str×NameKind)) (n:Nat) (cs:List (Str×Addr)),(x,NameKind.cell)∈names->(cellsFrom n names cs).lookup x=some c->n<=c
 |[],n,cs,h,_=>by cases h
 |(y,k)::r,n,cs,h,e=>by
  rw[jb5]at e;rcases List.mem_cons.mp h with h | h
  ·cases h;rw[if_pos (by rfl)]at e
   refine jo4 r _ _ (Nat.le_succ _) (fun b z=>?_) e;rcases jb6 z with ⟨_,e⟩ | ⟨z,_⟩
   ·rw[e];exact jvq _
   ·exact absurd rfl z
  ·split at e
   ·exact Nat.le_of_succ_le (jj0 r _ _ h e)
   ·exact jj0 r _ _ h e
theorem jdf {M:Model}{A:Around}{E:Value->Shared->Prop}{Q:List (Str×Addr)->Shared->Prop}:∀(names:List (Str×NameKind)) (cs:List (Str×Addr)) (s:Shared),Q (cellsFrom s.heap.objs.size names cs) { s with heap:=pushCells s.heap names } ->
  wpAny M A (forIn names cs fun (x:Str×NameKind) (__s:List (Str×Addr))=>(match x with
    |(name,kind)=>if (kind == NameKind.cell)=true then (do let a <-alloc { cls:=.type "cell",data:=.cell none };pure (ForInStep.yield ((name,a)::__s)))else pure (ForInStep.yield __s):Sem (ForInStep (List (Str×Addr))))) Q E s
 |[],cs,s,h=>jvd h
 |(y,k)::r,cs,s,h=>by
  rw[jb5,jjX]at h;rw[List.forIn_cons];by_cases hk:(k == NameKind.cell)=true
  ·rw[if_pos hk,if_pos hk]at h;simp only[hk,if_true];refine jvc (jvc (wpAny_alloc (jvd ?_)));have:=jdf (M:=M) (A:=A) (E:=E) (Q:=Q) r ((y,s.heap.objs.size)::cs) { s with heap:=s.heap.push { cls:=.type "cell",data:=.cell none } } (by rw[Heap.size_push];exact h)
   exact this
  ·rw[if_neg hk,if_neg hk]at h;simp only[hk];exact jvc (jvd (jdf r cs s h))
theorem jil {M:Model}{A:Around}{E:Value->Shared->Prop}{s:Shared}{scope:Scope}{g:Addr}{cl:List (Str×Addr)}{qual:Str}{env:Env}{Q:Env->Shared->Prop}
  (h:Q (newEnv scope s.heap.objs.size g (cellsFrom (s.heap.objs.size + 1) scope.names cl) qual none .none (some env) builtinsNs) { s with heap:=pushCells (s.heap.push { cls:=.type "dict",data:=.dict #[] }) scope.names }) :
  wpAny M A (newFunctionEnv scope g cl [] qual none .none (some env)) Q E s:=by
 unfold newFunctionEnv;refine jvc (wpAny_alloc ?_);refine jvc (jdf scope.names cl _ ?_);refine jvc (jvd (jvd ?_));rw[Heap.size_push];exact h
end
noncomputable def cxComp (X:Cx)(N:List Str)(scope:Scope)(s:Shared)(H:Hp)(fp:List Addr):Cx:=
 { X with N:=N,s₀:=s,H₀:=H,env:=compEnvC scope (cellsFrom (s.heap.objs.size + 1) scope.names (jik X.env scope.names [])) s.heap.objs.size X.env,outer:=X.stack,ex:=fp,fn:=fun x=>scope.names.lookup x == some .cell,pn:=[],xe:=fun _ _=>False }
structure CompOk (X:Cx)(scope:Scope)(N cn:List Str)(nt:Nat)(caps:List Nat):Prop where
 kind:scope.kind=.function
 cell:∀y∈scope.names,y.2=.cell->scope.names.lookup y.1=some .cell
 names:∀y∈scope.names,y.2=.local->scope.names.lookup y.1=some .local
 free:∀y∈scope.names,y.2=.free->X.env.scope.names.lookup y.1=some .cell\/X.env.scope.names.lookup y.1=some .free
 nd:N.Nodup
 split:∃tn,N=tn++cn/\tn.length=nt
 clen:cn.length=caps.length
 at_:∀(k j:Nat) (x:Str),cn[k]?=some x->caps[k]?=some j->X.N[j]?=some x/\scope.names.lookup x=some .free
section
variable {X:Cx}{scope:Scope}{N cn:List Str}{nt:Nat}{caps:List Nat}{pins:List (Addr×Obj)}{σ:L2.St}{H:Hp}{s:Shared}{fp:List Addr}
noncomputable def jmf (nt:Nat)(caps:List Nat)(σ:L2.St):L2.St:=List.replicate nt none++caps.map fun j=>(σ[j]?).getD none
theorem CompOk.cells (C:CompOk X scope N cn nt caps)(I:Inv X pins σ H s):∀y∈scope.names,y.2=.free->∃c,X.env.cells.lookup y.1=some c:=fun y hy e=>I.ok.has y.1 (C.free y hy e)
theorem jj1 (C:CompOk X scope N cn nt caps)(I:Inv X pins σ H s)(fo:∀b∈fp,FpOk X pins H b)(ft:∀b∈fp,b < s.heap.objs.size):(cxComp X N scope s H fp).Ok where
 mod:=I.ok.mod
 kind:=C.kind
 glob:=I.ok.glob
 blt:=I.ok.blt
 above:=jvq _
 inj:=jjY _ _ _ (fun x c h=>by
  obtain⟨v,z⟩:=I.cell x c (jbv _ _ (C.cells I) (fun _ _ z=>by simp at z) _ _ h)
  obtain⟨o,e,_⟩:=z;exact Nat.lt_succ_of_lt (jvm e)) fun x y c h1 h2=>I.ok.inj x y c (jbv _ _ (C.cells I) (fun _ _ z=>by simp at z) _ _ h1) (jbv _ _ (C.cells I) (fun _ _ z=>by simp at z) _ _ h2)
 has:=fun x hx=>by
  have fin:(x,NameKind.free)∈scope.names\/scope.names.lookup x=some .cell->∃c,(cellsFrom (s.heap.objs.size + 1) scope.names (jik X.env scope.names [])).lookup x=some c:=fun z=>by
   refine Option.isSome_iff_exists.mp (PySem.W.cellsFrom_some _ _ _ ?_);rcases z with z | z
   ·obtain⟨c,e⟩:=jev (env:=X.env) scope.names [] x (.inr z);exact .inr (by rw[e];rfl)
   ·exact .inl z
  refine fin ?_;have hx':(relabel scope X.env).names.lookup x=some .cell\/(relabel scope X.env).names.lookup x=some .free:=hx;unfold relabel at hx';simp only at hx';rw[ja4 (c:=fun n k=>k == .free && X.env.scope.kind == .function && X.env.kindOf n == some .cell)]at hx';cases e:scope.names.lookup x with
  |none=>rw[e]at hx';simp at hx'
  |some k=>
   have hm:=PySem.mem_of_lookup e;by_cases hk:k=.free
   ·subst hk;exact .inl hm
   ·rw[e]at hx';have hk':(k == NameKind.free)=false:=by simpa using hk
    simp only[hk',Bool.false_and,jvw,if_false,Option.map_some,Option.some.injEq]at hx';rcases hx' with hx' | hx'
    ·subst hx';exact .inr rfl
    ·exact absurd hx' hk
 cab:=fun x c h hc=>by
  have h:(scope.names.lookup x == some .cell)=true:=h;exact Nat.le_of_succ_le (jj0 _ _ _ (PySem.mem_of_lookup (by simpa using h)) hc)
 hd:=I.ok.hd
 frames:=I.ok.frames
 stk:=.inl rfl
 exf:=fun b hb=>⟨jvs (ft b hb),fun x c h=>by
  rcases jcW _ _ _ h with h | h
  ·intro z;subst z;exact absurd (Nat.lt_trans (ft c hb) (Nat.lt_of_succ_le h)) (jvu _)
  ·exact(fo b hb).2.2.2.2.1 x c (jbv _ _ (C.cells I) (fun _ _ z=>by simp at z) _ _ h)⟩
 bs:=I.bs
 bsz:=jvt I.ok.bsz I.sz
 noex:=fun b o e hb=>by
  rcases (fo b hb).2.2.2.1 with z | z
  ·exact I.ok.noex b o e z
  ·exact absurd (jvr (jvm e) (jvt I.ok.bsz z)) (jvu _)
 exfs:=fun b hb hs=>by
  rcases List.mem_cons.mp (I.stkSub b hs)with z | z
  ·exact(fo b hb).2.1 z
  ·exact(fo b hb).2.2.1 z
 funs:=I.stack
 frf:=I.stkFree
theorem jmg (C:CompOk X scope N cn nt caps)(I:Inv X pins σ H s)(fo:∀b∈fp,FpOk X pins H b)(ft:∀b∈fp,b < s.heap.objs.size){h1:Heap}{m0:Str->Option Value}{tk:Nat}(hns:h1.Ns s.heap.objs.size m0)
  (kp:∀b o,s.heap.get? b=some o->h1.get? b=some o) (hcl:∀x c,(cellsFrom (s.heap.objs.size + 1) scope.names (jik X.env scope.names [])).lookup x=some c->∃v,h1.IsCell c v):Inv (cxComp X N scope s H fp) [] (jmf nt caps σ) H { s with heap:=h1,toks:=tk }:=by
 have sub:=jbv (env:=X.env) scope.names [] (C.cells I) (fun _ _ z=>by simp at z)
 refine⟨jj1 C I fo ft,rfl,I.bare,Un.kept kp,⟨m0,hns,fun i x v h1' h2 h3=>?_⟩,fun x c e=>?_,I.hok.fresh (jvq _),fun x c e=>(jcW _ _ _ e).elim (fun z=>I.hok.fresh (Nat.le_of_succ_le z)) fun e=>I.freeC x c (sub x c e),fun p hp=>absurd (show p∈([]:List (Addr×Obj))from hp) (by simp),I.hok.kept kp,?_⟩
 ·obtain⟨tn,eN,hl⟩:=C.split;have h1':N[i]?=some x:=h1';have hi:nt<=i:=by
   refine Nat.le_of_not_lt fun hlt=>?_;unfold jmf at h2;rw[ju1 (by simpa using hlt),List.getElem?_replicate,if_pos hlt]at h2
   cases h2
  unfold jmf at h2;rw[juX (by simpa using hi),List.length_replicate,juQ]at h2
  rw[eN,juX (by omega),hl]at h1'
  cases e:caps[i - nt]? with
  |none=>rw[e]at h2;cases h2
  |some j=>
   rw[e]at h2;obtain⟨hj,hf⟩:=C.at_ _ j x h1' e;have h2':(σ[j]?).getD none=some v:=Option.some.inj h2;have h2'':σ[j]?=some (some v):=by
    cases q:σ[j]? with
    |none=>rw[q]at h2';cases h2'
    |some o=>rw[q]at h2';simp at h2';rw[h2']
   have hm:=PySem.mem_of_lookup hf;have hk:=C.free _ hm rfl;obtain⟨m,hn,hl'⟩:=I.loc;obtain⟨u,r,lk⟩:=hl' j x v hj h2'' (.inr hk);refine⟨u,r,?_⟩;rcases lk with ⟨k1,_⟩ | ⟨_,c,hc,hcell⟩
   ·have k1:X.env.scope.names.lookup x=some .local:=k1;rw[k1]at hk;rcases hk with z | z <;> cases z
   ·obtain⟨c',hc'⟩:=jev (env:=X.env) scope.names [] x (.inr hm);have hcc:=sub x c' hc';rw[hc]at hcc;cases hcc;refine .inr ⟨?_,c,(jjZ _ _ _ fun y hy ey z=>?_).trans hc',?_⟩
    ·show (relabel scope X.env).names.lookup x=some .cell\/(relabel scope X.env).names.lookup x=some .free;unfold relabel;simp only;rw[ja4 (c:=fun n k=>k == .free && X.env.scope.kind == .function && X.env.kindOf n == some .cell),hf];simp only[Option.map_some];split
     ·exact .inl rfl
     ·exact .inr rfl
    ·have:=C.cell y hy z;rw[ey,hf]at this;cases this
    ·exact hcell.keeps kp
 ·exact hcl x c e
 ·obtain⟨tn,eN,hl⟩:=C.split;show (jmf nt caps σ).length=N.length;unfold jmf;rw[eN,juY,juY,List.length_replicate,juT,hl,C.clen]
end
theorem jfB {prog:Program}{w:World}{A:Around}{R:Result->Shared->Prop}{s:Shared}{elt target iter:Expr}{ifs:List Expr}{scope:Scope}{pos:Pos}{it acc:Value}{env:Env}(I:Nat->Shared->Prop)
  (turn:∀n s,I n s->wpAny (model prog w) A (pyNext it) (fun r s₁=>match r with
   |none=>R (.ok .next) s₁
   |some v=>wpAny (model prog w) A (letOwnedTupleGo target it v) (fun _ s₁'=>wpAny (model prog w) A (assign target env v) (fun _ s₂=>
     wpAny (model prog w) A (forIn ifs true fun c r=>if r=true then do let ok <-isTrue c env (eval c env);pure (ForInStep.yield ok)else pure (ForInStep.yield r)) (fun ok s₃=>
      if ok=true then wpAny (model prog w) A (eval elt env) (fun x s₄=>
       wpAny (model prog w) A (call (.builtin "list.append") [acc,x]) (fun _ s₅=>∃m,m < n/\I m s₅) (notedBy (model prog w) A env fun e s'=>R (.error e) s') s₄) (notedBy (model prog w) A env fun e s'=>R (.error e) s') s₃
      else ∃m,m < n/\I m s₃) (notedBy (model prog w) A env fun e s'=>R (.error e) s') s₂) (notedBy (model prog w) A env fun e s'=>R (.error e) s') s₁') (notedBy (model prog w) A env fun e s'=>R (.error e) s') s₁) (notedBy (model prog w) A env fun e s'=>R (.error e) s') s)
  (n:Nat) (h:I n s) :
  codeAny (model prog w) A (.compLoop (.ListComp elt [⟨target,iter,ifs,0⟩] scope pos) 0 it acc env) R s:=by
 refine codeAny_loop rfl I (fun n s hI=>?_) n h;show wpAny _ A ((compTurn (.ListComp elt [⟨target,iter,ifs,0⟩] scope pos) 0 it acc env).onRaise (fun x=>do noteFrame x env;theTreesLotGoes x)) _ _ s
 refine wpAny_noted ?_;rw[compTurn_list];refine jvc (wpAny_standAt (jvc (jvj (turn n s hI) (fun r s₁ h₁=>?_) fun _ _ h'=>h')));cases r with
 |none=>exact jvd h₁
 |some v=>
  refine jvc (jvj h₁ (fun _ s₁' h₁'=>?_) fun _ _ h'=>h');refine jvc (jvj h₁' (fun _ s₂ h₂=>jvc (jvj h₂ (fun ok s₃ h₃=>?_) fun _ _ h'=>h')) fun _ _ h'=>h');cases ok with
  |false=>exact jvd ⟨rfl,h₃⟩
  |true=>
   exact jvc (jvc (jvj h₃ (fun x s₄ h₄=>jvc (jvj h₄ (fun _ s₅ h₅=>jvd (jvd ⟨rfl,h₅⟩)) fun _ _ h'=>h')) fun _ _ h'=>h'))
theorem jmh {tgs:List Nat}{one:Bool}{x:D}{ρ ρ':Rho}(h:putT tgs one x ρ=.ok ρ'):ρ'.length=ρ.length/\∀i:Nat,i ∉ tgs->ρ'[i]?=ρ[i]?:=by
 have fold:∀(ps:List (Nat×D)) (ρ:Rho),(ps.foldl (fun r p=>r.set p.1 (.dat p.2)) ρ).length=ρ.length/\∀i:Nat,i ∉ ps.map (·.1)->(ps.foldl (fun r p=>r.set p.1 (Sl.dat p.2)) ρ)[i]?=ρ[i]?:=by
  intro ps;induction ps with
  |nil=>intro ρ;exact⟨rfl,fun _ _=>rfl⟩
  |cons p ps ih=>
   intro ρ;obtain⟨e1,e2⟩:=ih (ρ.set p.1 (.dat p.2));refine⟨by rw[List.foldl_cons,e1,ju8],fun i hi=>?_⟩
   rw[juR,juN,not_or]at hi;rw[List.foldl_cons,e2 i hi.2,ju2 (Ne.symm hi.1)]
 unfold putT at h;split at h
 ·cases h;refine⟨ju8 ..,fun i hi=>?_⟩;rw[ju2];intro z;exact hi (by simp[z])
 ·split at h
  ·cases h;rename_i hl;obtain⟨e1,e2⟩:=fold (tgs.zip _) ρ;refine⟨e1,fun i hi=>e2 i ?_⟩;rw[List.map_fst_zip (Nat.le_of_eq hl)];exact hi
  ·cases h
 ·cases h
theorem jhu {nt:Nat}{caps:List Nat}{ρ:Rho}{i:Nat}(h:i < nt):(jfA nt caps ρ)[i]?=some .no:=by
 unfold jfA;rw[ju1 (by simpa using h),List.getElem?_replicate,if_pos h]
theorem jfC {nt:Nat}{caps:List Nat}{ρ:Rho}{k j:Nat}(h:caps[k]?=some j):(jfA nt caps ρ)[nt + k]?=some (match ρ[j]? with | some s=>s | none=>.no):=by
 unfold jfA jdV;rw[juX (by simp),List.length_replicate,Nat.add_sub_cancel_left,juQ,h]
 rfl
theorem jcX {nt:Nat}{caps:List Nat}{ρ:Rho}:(jfA nt caps ρ).length=nt + caps.length:=by unfold jfA jdV;simp
theorem jj2 {nt:Nat}{caps:List Nat}{σ:L2.St}{k j:Nat}(h:caps[k]?=some j):(jmf nt caps σ)[nt + k]?=some ((σ[j]?).getD none):=by
 unfold jmf;rw[juX (by simp),List.length_replicate,Nat.add_sub_cancel_left,juQ,h]
 rfl
theorem jaP:∀{caps:List Nat}{k:Nat}{inn ρ:Rho}{j:Nat},j ∉ caps->(ja0 caps k inn ρ)[j]?=ρ[j]?
 |[],_,_,_,_,_=>rfl
 |i::r,k,inn,ρ,j,h=>by
  rw[juN,not_or]at h;simp only[ja0];rw[jaP h.2];split
  ·rw[ju2 (Ne.symm h.1)]
  ·rfl
theorem jfD:∀{caps:List Nat}{k:Nat}{inn ρ:Rho},(ja0 caps k inn ρ).length=ρ.length
 |[],_,_,_=>rfl
 |i::r,k,inn,ρ=>by
  simp only[ja0];rw[jfD];split
  ·rw[ju8]
  ·rfl
theorem jhv:∀{caps:List Nat}{k m:Nat}{inn ρ:Rho}{j:Nat}{s:Sl},caps.Nodup->caps[m]?=some j->j < ρ.length->inn[k + m]?=some s->(ja0 caps k inn ρ)[j]?=some s
 |[],_,_,_,_,_,_,_,h,_,_=>by simp at h
 |i::r,k,0,inn,ρ,j,s,nd,h,hj,hs=>by
  have e:i=j:=by simpa using h
  subst e;simp only[ja0];rw[jaP (List.nodup_cons.mp nd).1];rw[Nat.add_zero]at hs;rw[hs];simp only;rw[List.getElem?_set_self hj]
 |i::r,k,m + 1,inn,ρ,j,s,nd,h,hj,hs=>by
  simp only[ja0];refine jhv (m:=m) (List.nodup_cons.mp nd).2 (by simpa using h) ?_ (by rw[show k + 1 + m=k + (m + 1)by omega];exact hs)
  split
  ·rw[ju8];exact hj
  ·exact hj
section
variable {X:Cx}{scope:Scope}{N cn:List Str}{nt:Nat}{caps:List Nat}{pins:List (Addr×Obj)}{Z:Kn}{σ σ':L2.St}{ρ:Rho}{B:Bs}{F:Addr->Prop}{H:Hp}{s:Shared}{fp:List Addr}
theorem CompOk.capsNd (C:CompOk X scope N cn nt caps):caps.Nodup:=by
 refine List.pairwise_iff_getElem.mpr fun i j hi hj hij z=>?_;have h1:caps[i]?=some caps[i]:=juK hi;have h2:caps[j]?=some caps[i]:=by rw[z];exact juK hj
 have li:i < cn.length:=by rw[C.clen];exact hi
 have lj:j < cn.length:=by rw[C.clen];exact hj
 have c1:cn[i]?=some cn[i]:=juK (by rw[C.clen];exact hi)
 have c2:cn[j]?=some cn[j]:=juK (by rw[C.clen];exact hj)
 have e1:=(C.at_ i _ _ c1 h1).1;have e2:=(C.at_ j _ _ c2 h2).1;rw[e1]at e2;have e3:cn[i]=cn[j]:=Option.some.inj e2;obtain⟨tn,eN,hl⟩:=C.split;have f1:N[tn.length + i]?=some cn[i]:=by rw[eN,juX (by omega),Nat.add_sub_cancel_left];exact c1
 have f2:N[tn.length + j]?=some cn[i]:=by rw[eN,juX (by omega),Nat.add_sub_cancel_left,e3];exact c2
 have:=jcU C.nd f1 f2;omega
noncomputable def jdg (nt:Nat)(caps:List Nat)(B:Bs):Bs:=⟨B.hp,fun k=>if nt<=k then (caps[k - nt]?).bind B.lent else none⟩
theorem jbP {i:Nat}{o:O}{f k:Bool}(h:(jfA nt caps ρ)[i]?=some (.own o f k)):∃m j,i=nt + m/\caps[m]?=some j/\ρ[j]?=some (.own o f k):=by
 have hn:nt<=i:=by
  refine Nat.le_of_not_lt fun hlt=>?_;rw[jhu hlt]at h;cases h
 obtain⟨m,rfl⟩:∃m,i=nt + m:=⟨i - nt,by omega⟩
 cases e:caps[m]? with
 |none=>
  have:=(List.getElem?_eq_some_iff.mp h).1;rw[jcX]at this;have:=List.getElem?_eq_none_iff.mp e;omega
 |some j=>
  rw[jfC e]at h;refine⟨m,j,rfl,e,?_⟩;cases q:ρ[j]? with
  |none=>rw[q]at h;cases h
  |some t=>rw[q]at h;cases h;rfl
theorem jmi {i:Nat}{d:D}(h:(jfA nt caps ρ)[i]?=some (.dat d)):∃m j,i=nt + m/\caps[m]?=some j/\ρ[j]?=some (.dat d):=by
 have hn:nt<=i:=by
  refine Nat.le_of_not_lt fun hlt=>?_;rw[jhu hlt]at h;cases h
 obtain⟨m,rfl⟩:∃m,i=nt + m:=⟨i - nt,by omega⟩
 cases e:caps[m]? with
 |none=>
  have:=(List.getElem?_eq_some_iff.mp h).1;rw[jcX]at this;have:=List.getElem?_eq_none_iff.mp e;omega
 |some j=>
  rw[jfC e]at h;refine⟨m,j,rfl,e,?_⟩;cases q:ρ[j]? with
  |none=>rw[q]at h;cases h
  |some t=>rw[q]at h;cases h;rfl
noncomputable def Agr (nt:Nat)(caps:List Nat)(σ σ':L2.St):Prop:=σ'.length=nt + caps.length/\∀m j,caps[m]?=some j->σ'[nt + m]?=some ((σ[j]?).getD none)
theorem Agr.at (a:Agr nt caps σ σ'){m j:Nat}{v:V}(h:caps[m]?=some j):σ'[nt + m]?=some (some v)↔σ[j]?=some (some v):=by
 rw[a.2 m j h];constructor
 ·intro z;cases q:σ[j]? with
  |none=>rw[q]at z;cases z
  |some o=>rw[q]at z;simp at z;rw[z]
 ·intro z;rw[z];rfl
theorem jj3 (nd:caps.Nodup)(a:Agr nt caps σ σ')(r:SR Z B F H σ ρ):SR Z (jdg nt caps B) F H σ' (jfA nt caps ρ):=by
 refine⟨r.dom,by rw[jcX,a.1],fun i d h=>?_,fun i o f k h=>?_,fun i j o o' f k f' k' l hij h1 h2 q1 q2=>?_,r.base⟩
 ·obtain⟨m,j,rfl,hc,e⟩:=jmi h;obtain⟨v,e1,e2⟩:=r.dat j d e;exact⟨v,(a.at hc).mpr e1,e2⟩
 ·obtain⟨m,j,rfl,hc,e⟩:=jbP h;obtain⟨l,e1,e2,e3,e4,e5⟩:=r.own j o f k e;refine⟨l,(a.at hc).mpr e1,e2,e3,fun z=>?_,e5⟩;simp only[jdg,if_pos (Nat.le_add_right nt m),Nat.add_sub_cancel_left,hc,Option.bind_some];exact e4 z
 ·obtain⟨m1,j1,rfl,c1,e1⟩:=jbP h1;obtain⟨m2,j2,rfl,c2,e2⟩:=jbP h2;refine r.one j1 j2 o o' f k f' k' l (fun z=>hij ?_) e1 e2 ((a.at c1).mp q1) ((a.at c2).mp q2);subst z;have h1:=(List.getElem?_eq_some_iff.mp c1).1;have:=(List.getElem?_inj h1 nd).mp (c1.trans c2.symm);omega
theorem jj4 (a:Agr nt caps σ σ'){b:Addr}(h:Mb σ' (jfA nt caps ρ) b):Mb σ ρ b:=by
 obtain⟨i,o,f,h1,h2⟩:=h;obtain⟨m,j,rfl,hc,e⟩:=jbP h1;exact⟨j,o,f,e,(a.at hc).mp h2⟩
theorem jj5 (nd:caps.Nodup){σ4:L2.St}{inn:Rho}{F4:Addr->Prop}{H4:Hp}(a:Agr nt caps σ σ')(a4:Agr nt caps σ σ4)(r:SR Z B F H σ ρ)(hc:∀j∈caps,j < ρ.length)
  (r4:SR Z (jdg nt caps B) F4 H4 σ4 inn) (g:Go σ' (jfA nt caps ρ) F H σ4 inn F4 H4):SR Z B F4 H4 σ (ja0 caps nt inn ρ)/\Go σ ρ F H σ (ja0 caps nt inn ρ) F4 H4:=by
 have r0:=jj3 nd a r;have kp:=g.keep r0;have hlen:inn.length=nt + caps.length:=by rw[r4.len,a4.1]
 have inB:∀{m j:Nat},caps[m]?=some j->∃s,inn[nt + m]?=some s/\(ja0 caps nt inn ρ)[j]?=some s:=fun {m j} h=>by
  have hm:=(List.getElem?_eq_some_iff.mp h).1;have e:inn[nt + m]?=some inn[nt + m]:=juK (by omega)
  exact⟨_,e,jhv nd h (hc j (juW h)) e⟩
 have side:∀{j:Nat}{o:O}{f k:Bool}{l:Addr},j ∉ caps->ρ[j]?=some (.own o f k)->σ[j]?=some (some (.ref l))->¬Ow σ' (jfA nt caps ρ) l:=fun {j o f k l} hj h1 h2 z=>by
  obtain⟨i,o',f',k',q1,q2⟩:=z;obtain⟨m,j',rfl,hc',e⟩:=jbP q1;refine r.one j j' _ _ _ _ _ _ l (fun z=>hj (by rw[z];exact juW hc')) h1 e h2 ((a.at hc').mp q2)
 have ow:∀(j:Nat) (o:O) (f k:Bool) (b:Addr),(ja0 caps nt inn ρ)[j]?=some (.own o f k)->σ[j]?=some (some (.ref b))->(∃o0 k0,ρ[j]?=some (.own o0 f k0)/\σ[j]?=some (some (.ref b))/\(k0=true->k=true))\/H b=none:=fun j o f k b h1 h2=>by
  by_cases hj:j∈caps
  ·obtain⟨m,hm⟩:=List.mem_iff_getElem?.mp hj;obtain⟨sl,e1,e2⟩:=inB hm;rw[h1]at e2;cases e2;rcases g.ow _ o f k b e1 ((a4.at hm).mpr h2)with ⟨o0,k0,q1,q2,q3⟩ | z
   ·obtain⟨m',j',e,hc',q⟩:=jbP q1;have:m'=m:=by omega
    subst this;rw[hm]at hc';cases hc';exact .inl ⟨o0,k0,q,h2,q3⟩
   ·exact .inr z
  ·rw[jaP hj]at h1;exact Go.self h1 h2
 refine⟨⟨r4.dom,by rw[jfD];exact r.len,fun j d h=>?_,fun j o f k h=>?_,fun i j o o' f k f' k' l hij h1 h2 q1 q2=>?_,r4.base⟩,⟨fun b o h n=>g.stay b o h fun m=>n (jj4 a m),g.sub,fun b h=>(g.new b h).imp id fun z=>z.imp id (jj4 a),ow,g.there⟩⟩
 ·by_cases hj:j∈caps
  ·obtain⟨m,hm⟩:=List.mem_iff_getElem?.mp hj;obtain⟨sl,e1,e2⟩:=inB hm;rw[h]at e2;cases e2;obtain⟨v,q1,q2⟩:=r4.dat _ d e1;exact⟨v,(a4.at hm).mp q1,q2⟩
  ·rw[jaP hj]at h;obtain⟨v,q1,q2⟩:=r.dat j d h;exact⟨v,q1,q2.mono kp⟩
 ·by_cases hj:j∈caps
  ·obtain⟨m,hm⟩:=List.mem_iff_getElem?.mp hj;obtain⟨sl,e1,e2⟩:=inB hm;rw[h]at e2;cases e2;obtain⟨l,q1,q2,q3,q4,q5⟩:=r4.own _ o f k e1;refine⟨l,(a4.at hm).mp q1,q2,q3,fun z=>?_,q5⟩;have:=q4 z;simpa only[jdg,if_pos (Nat.le_add_right nt m),Nat.add_sub_cancel_left,hm,Option.bind_some] using this
  ·rw[jaP hj]at h;obtain⟨l,q1,q2,q3,q4⟩:=r.own j o f k h;obtain⟨u,hu⟩:=q3.some;obtain⟨s1,s2,s3⟩:=g.side hu q2 (side hj h q1);exact⟨l,q1,s2,q3.mono kp (s1.trans hu.symm),q4⟩
 ·by_cases hi:i∈caps
  ·obtain⟨m,hm⟩:=List.mem_iff_getElem?.mp hi;obtain⟨sl,e1,e2⟩:=inB hm;rw[h1]at e2;cases e2;by_cases hj:j∈caps
   ·obtain⟨m',hm'⟩:=List.mem_iff_getElem?.mp hj;obtain⟨sl',e1',e2'⟩:=inB hm';rw[h2]at e2';cases e2';refine r4.one (nt + m) (nt + m') _ _ _ _ _ _ l (fun z=>hij ?_) e1 e1' ((a4.at hm).mpr q1) ((a4.at hm').mpr q2);have:m=m':=by omega
    subst this;rw[hm]at hm';cases hm';rfl
   ·rw[jaP hj]at h2;rcases ow i o f k l (by rw[<-h1]) q1 with ⟨o0,k0,z1,z2,_⟩ | z
    ·exact r.one i j _ _ _ _ _ _ l hij z1 h2 z2 q2
    ·obtain⟨l',w1,_,w3,_⟩:=r.own j _ _ _ h2;rw[q2]at w1;cases w1;obtain⟨u,hu⟩:=w3.some;rw[hu]at z;cases z
  ·rw[jaP hi]at h1;by_cases hj:j∈caps
   ·rcases ow j o' f' k' l h2 q2 with ⟨o0,k0,z1,z2,_⟩ | z
    ·exact r.one i j _ _ _ _ _ _ l hij h1 z1 q1 z2
    ·obtain⟨l',w1,_,w3,_⟩:=r.own i _ _ _ h1;rw[q1]at w1;cases w1;obtain⟨u,hu⟩:=w3.some;rw[hu]at z;cases z
   ·rw[jaP hj]at h2;exact r.one i j _ _ _ _ _ _ l hij h1 h2 q1 q2
theorem jj6 (C:CompOk X scope N cn nt caps)(I:Inv X pins σ H s)(fo:∀b∈fp,FpOk X pins H b)(ft:∀b∈fp,b < s.heap.objs.size){pins':List (Addr×Obj)}{H':Hp}(hp:∀b∈fp,∀p∈pins',p.1≠b)(hn:∀b∈fp,H' b=none) :
  ∀b∈fp,FpOk (cxComp X N scope s H fp) pins' H' b:=fun b hb=>by
 have ok:=jj1 C I fo ft;exact⟨hn b hb,(fun e=>(ok.exf b hb).1 e),fun z=>ok.exfs b hb z,.inl hb,fun x c h=>(ok.exf b hb).2 x c h,fun p h=>hp b hb p (by simpa[cxComp] using h)⟩
end
end DJ
namespace DJ
open PySem PySem.Spec PyProof.Rows L2
noncomputable def jdh (tgs:List Nat)(one:Bool)(nt:Nat)(caps:List Nat)(fc:Option (Rho->R (Bool×Rho)))(fe:Rho->R (Vl×Rho))(x:D)(r:Rho):R (Option D×Rho):=
 (putT tgs one x (jfA nt caps r)).bind fun r'=>match fc with
  |none=>(fe r').bind fun p=>(toD p.1 p.2).bind fun q=>.ok (some q.1,ja0 caps nt q.2 r)
  |some g=>(g r').bind fun b=>if b.1 then (fe b.2).bind fun p=>(toD p.1 p.2).bind fun q=>.ok (some q.1,ja0 caps nt q.2 r)else .ok (none,ja0 caps nt b.2 r)
section
variable {X:Cx}{scope:Scope}{N cn:List Str}{nt:Nat}{caps:List Nat}{pins:List (Addr×Obj)}{Z:Kn}{σ:L2.St}{ρ:Rho}{B:Bs}{F:Addr->Prop}{H:Hp}{s:Shared}{fp:List Addr}
inductive CompI (X:Cx) (N:List Str) (scope:Scope) (fp:List Addr) (nt:Nat) (caps:List Nat) (σ:L2.St) (Z:Kn) (B:Bs) (ρ:Rho) (F:Addr->Prop) (H:Hp) (ls:List Addr) (tn:Nat->Heap->Prop) (f:D->Rho->R (Option D×Rho)) (xs ys:List D) (ρE:Rho) (s3:Shared) (H3:Hp) (l:Addr) (k:Nat) (s':Shared):Prop
 |mk (i:Nat) (σ':L2.St) (F':Addr->Prop) (H':Hp) (ρ1:Rho) (yi zi:List D) (vs:List V):k=xs.length + 1 - i->i<=xs.length->Inv (cxComp X N scope s3 H3 fp) [] σ' H' s'->Agr nt caps σ σ'->SR Z B F' H' σ ρ1 ->
    Go σ ρ F H σ ρ1 F' H'->GK F H ls F' H'->tn i s'.heap->(∀b∈fp,H' b=none)->ys=yi++zi->compGo f (xs.drop i) ρ1=.ok (zi,ρE)->¬F' l->¬Ow σ ρ1 l->H' l=some (.lst vs)->Reps Z F' H' yi vs->yi.length<=i->CompI X N scope fp nt caps σ Z B ρ F H ls tn f xs ys ρE s3 H3 l k s'
theorem jhw {elt tg iter:Expr}{ks:List Expr}{pos:Pos}{tgs:List Nat}{one:Bool}{fc:Option (Rho->R (Bool×Rho))}{fe:Rho->R (Vl×Rho)}{xs ys:List D}{ρE:Rho}{ls:List Addr}{it:Addr}{tn:Nat->Heap->Prop}{RR:Value->Addr->Result->Shared->Prop}
  (hZ:X.K=Z.K) (hc:X.calm=true) (C:CompOk X scope N cn nt caps) (I:Inv X pins σ H s) (r:SR Z B F H σ ρ) (W:Wk X.prog X.w Z tg F H ls xs fp it tn) (hls:∀l∈ls,¬Mb σ ρ l) (st0:tn 0 s.heap) (fo:∀b∈fp,FpOk X pins H b)
  (hT:∀s' H',TgOk (cxComp X N scope s' H' fp) tg tgs one) (hlow:∀i∈tgs,i < nt) (hcap:∀j∈caps,j < ρ.length)
  (hE:∀s' H' B',PE (cxComp X N scope s' H' fp) elt (tE Z (cxComp X N scope s' H' fp) B' fe))
  (hK:(ks=[]/\fc=none)\/∃k g,ks=[k]/\fc=some g/\∀s' H' B',PT (cxComp X N scope s' H' fp) k (tT Z (cxComp X N scope s' H' fp) B' g))
  (hY:compGo (jdh tgs one nt caps fc fe) xs ρ=.ok (ys,ρE))
  (hRR:∀(s3:Shared) (l:Addr) (σ':L2.St) (F':Addr->Prop) (H':Hp) (s':Shared) (vs:List V),H l=none->Inv X pins σ (upd H l (.lst [])) s3->Inv (cxComp X N scope s3 (upd H l (.lst [])) fp) [] σ' H' s'->Go σ ρ F H σ ρE F' H'->SR Z B F' H' σ ρE->¬F' l->¬Ow σ ρE l->H' l=some (.lst vs)->Reps Z F' H' ys vs ->
   RR (.ref l) s3.heap.objs.size (.ok .next) s') {E:Value->Shared->Prop} :
  wpAny (model X.prog X.w) X.A (newList []) (fun acc s₃=>wpAny (model X.prog X.w) X.A (newFunctionEnv scope X.env.globals (jik X.env scope.names []) [] X.env.qual none .none (some X.env)) (fun cenv s₄=>
   codeAny (model X.prog X.w) X.A (.compStart (.ListComp elt [⟨tg,iter,ks,0⟩] scope pos) 0 (.ref it) acc { cenv with scope:=relabel scope X.env }) (RR acc cenv.locals) s₄) E s₃) E s:=by
 have nd:=C.capsNd;refine jvg ?_;have ft:∀b∈fp,b < s.heap.objs.size:=fun b hb=>by
  obtain⟨o,e,_⟩:=W.obj _ _ st0 b hb;exact jvm e
 have hl:H s.heap.objs.size=none:=I.hok.fresh (jvq _);have I3:Inv X pins σ (upd H s.heap.objs.size (.lst [])) { s with heap:=s.heap.push { cls:=.type "list",dict:=none,data:=.seq ([]:List Value).toArray } }:=
  I.laid (t':=s.toks) (fun b u e=>jvl _ e) (jvq _) ⟨Nat.zero_le _,[],0,.nil,jvn _ rfl⟩
 have ex3:Ext F H F (upd H s.heap.objs.size (.lst [])):=Ext.newO r.dom hl;have r3:SR Z B F (upd H s.heap.objs.size (.lst [])) σ ρ:=r.ext ex3;have fo3:∀b∈fp,FpOk X pins (upd H s.heap.objs.size (.lst [])) b:=fun b hb=>⟨by rw[jac (jvs (ft b hb))];exact(fo b hb).1,(fo b hb).2⟩
 have st3:tn 0 (s.heap.push { cls:=.type "list",dict:=none,data:=.seq ([]:List Value).toArray }):=W.keep _ _ _ st0 fun b hb o e=>jvl _ e;have nFl:¬F s.heap.objs.size:=fun z=>by
  obtain⟨o,e⟩:=r.dom _ z;rw[hl]at e;cases e
 have nOl:¬Ow σ ρ s.heap.objs.size:=fun z=>by
  obtain⟨o,e⟩:=r.there z;rw[hl]at e;cases e
 have ft3:∀b∈fp,b < (s.heap.push { cls:=.type "list",dict:=none,data:=.seq ([]:List Value).toArray }).objs.size:=fun b hb=>by
  rw[Heap.size_push];exact Nat.lt_succ_of_lt (ft b hb)
 revert I3 r3 ex3 fo3 st3 ft3
 generalize hs3:({ s with heap:=s.heap.push { cls:=.type "list",dict:=none,data:=.seq ([]:List Value).toArray } }:Shared)=s3
 have e3:s3.heap=s.heap.push { cls:=.type "list",dict:=none,data:=.seq ([]:List Value).toArray }:=by rw[<-hs3]
 rw[<-e3];generalize hl0:s.heap.objs.size=l at hl nFl nOl;generalize hH3:upd H l (.lst [])=H3;intro I3 ex3 r3 fo3 st3 ft3;have hl3:H3 l=some (.lst []):=by rw[<-hH3];exact jaj
 refine jil ?_;have hsb₁:∀b o,(s3.heap.push { cls:=.type "dict",data:=.dict #[] }).get? b=some o->(pushCells (s3.heap.push { cls:=.type "dict",data:=.dict #[] }) scope.names).get? b=some o:=pushCells_keeps _ _;have hcl:∀x c,(cellsFrom (s3.heap.objs.size + 1) scope.names (jik X.env scope.names [])).lookup x=some c->∃v,(pushCells (s3.heap.push { cls:=.type "dict",data:=.dict #[] }) scope.names).IsCell c v:=by
  have:=jgw scope.names (s3.heap.push { cls:=.type "dict",data:=.dict #[] }) (jik X.env scope.names []) fun x c e=>by
   obtain⟨v,z⟩:=I3.cell x c (jbv _ _ (C.cells I3) (fun _ _ z=>by simp at z) _ _ e)
   exact⟨v,z.keeps fun b o e=>jvl _ e⟩
  rwa [Heap.size_push]at this
 have hns₁:(pushCells (s3.heap.push { cls:=.type "dict",data:=.dict #[] }) scope.names).Ns s3.heap.objs.size fun _=>none:=Heap.Ns.keeps ⟨_,_,_,jvn _ rfl,rfl,(fun e he=>by simp at he),fun _=>rfl⟩ hsb₁
 revert hsb₁ hcl hns₁
 generalize hh1:pushCells (s3.heap.push { cls:=.type "dict",data:=.dict #[] }) scope.names=h₁;intro hsb₁ hcl hns₁;have kp:∀b o,s3.heap.get? b=some o->h₁.get? b=some o:=fun b o e=>hsb₁ b o (jvl _ e);have IY:=jmg (fp:=fp) C I3 fo3 ft3 (tk:=s3.toks) hns₁ kp hcl;have aY:Agr nt caps σ (jmf nt caps σ):=⟨by unfold jmf;simp,fun m j h=>jj2 h⟩
 have hrl:ρ.length=σ.length:=r.len;have loop:∀s₄:Shared,s₄={ s3 with heap:=h₁,toks:=s3.toks } ->
   codeAny (model X.prog X.w) X.A (.compLoop (.ListComp elt [⟨tg,iter,ks,0⟩] scope pos) 0 (.ref it) (.ref l) (cxComp X N scope s3 H3 fp).env) (RR (.ref l) s3.heap.objs.size) s₄:=by
  rintro s₄ rfl;let P:=CompI X N scope fp nt caps σ Z B ρ F H ls tn (jdh tgs one nt caps fc fe) xs ys ρE s3 H3 l;refine jfB P ?_ (xs.length + 1)
   ⟨0,_,F,H3,ρ,[],ys,[],rfl,Nat.zero_le _,IY,aY,r3,ex3.go,GK.refl.ext r.dom W.lst ex3,W.keep _ _ _ st3 (fun b _ o e=>kp b o e),fun b hb=>(fo3 b hb).1,rfl,hY,nFl,nOl,hl3,.nil,jvq _⟩
  rintro k s' ⟨i,σ',F',H',ρ1,yi,zi,vs,rfl,hi,I',a',r',g',gk',st',fr',eY,hZ',nF',nO',hl',rep',hyi⟩;have fo':=jj6 C I3 fo3 ft3 (pins':=[]) (H':=H') (fun b _ p h=>by simp at h) fr'
  by_cases hlt:i < xs.length
  ·have hx:xs[i]?=some xs[i]:=juK hlt;rw[List.drop_eq_getElem_cons hlt]at hZ';simp only[compGo]at hZ';obtain⟨o,ho,hZ'⟩:=R.bind_ok hZ';obtain⟨zr,hr,hZ'⟩:=R.bind_ok hZ';unfold jdh at ho;obtain⟨ρ2,hp,ho⟩:=R.bind_ok ho;have r0:=jj3 nd a' r';refine jvj (W.take (cxComp X N scope s3 H3 fp) rfl rfl hZ hc C.nd tgs one (hT s3 H3) i [] s' σ' _ ρ2 _ F' H' _ I' r0 gk' fo' st' hx hp) (fun q s1 hzz=>?_) fun _ _ z=>False.elim z;obtain⟨u,hq,h1⟩:=hzz;subst hq;refine jvj h1 (fun _ s2 h2=>jvj h2 (fun _ s4 hzz=>?_) fun _ _ z=>False.elim z) fun _ _ z=>False.elim z;obtain⟨σ4,F4,H4,I4,r4,g4,gk4,st4,fr4,ag4⟩:=hzz;have foY:∀b∈fp,FpOk (cxComp X N scope s3 H3 fp) [] H4 b:=jj6 C I3 fo3 ft3 (pins':=[]) (H':=H4) (fun b _ p h=>by simp at h) fr4
   have I4p:=I4.pinned foY (W.obj _ _ st4);obtain⟨pl,pg⟩:=jmh hp;have a4:Agr nt caps σ σ4:=by
    refine⟨?_,fun m j h=>?_⟩
    ·rw[<-r4.len,pl,jcX]
    ·rw[ag4 (nt + m) fun z=>absurd (hlow _ z) (by omega)];exact a'.2 m j h
   have hc1:∀j∈caps,j < ρ1.length:=fun j hj=>by rw[r'.len,<-hrl];exact hcap j hj
   have hls1:∀l∈ls,¬Mb σ ρ1 l:=fun l hl z=>by
    rcases g'.mb z with z | z
    ·exact hls l hl z
    ·obtain⟨o,e⟩:=W.lst l hl;rw[e]at z;cases z
   have back:∀{inn:Rho}{F5:Addr->Prop}{H5:Hp},SR Z (jdg nt caps B) F5 H5 σ4 inn->Go σ4 ρ2 F4 H4 σ4 inn F5 H5->SR Z B F5 H5 σ (ja0 caps nt inn ρ1)/\Go σ ρ1 F' H' σ (ja0 caps nt inn ρ1) F5 H5:=fun {inn F5 H5} r5 g5=>jj5 nd a' a4 r' hc1 r5 (g4.trans g5);have pinK:∀{s5:Shared}{H5:Hp},Inv (cxComp X N scope s3 H3 fp) ([]++jbY fp s4.heap) σ4 H5 s5->tn (i + 1) s5.heap/\∀b∈fp,H5 b=none:=fun {s5 H5} I5=>by
    refine⟨W.keep _ _ _ st4 fun b hb o e=>(I5.pin (b,o) (juV _ (juV _ (jbn hb e)))).1,fun b hb=>?_⟩;obtain⟨ob,e,_⟩:=W.obj _ _ st4 b hb;exact(I5.pin (b,ob) (juV _ (juV _ (jbn hb e)))).2.1
   have skip:∀(s5:Shared) (inn:Rho) (F5:Addr->Prop) (H5:Hp),Inv (cxComp X N scope s3 H3 fp) ([]++jbY fp s4.heap) σ4 H5 s5->SR Z (jdg nt caps B) F5 H5 σ4 inn->Go σ4 ρ2 F4 H4 σ4 inn F5 H5->o=(none,ja0 caps nt inn ρ1)->∃m,m < xs.length + 1 - i/\P m s5:=by
    intro s5 inn F5 H5 I5 r5 g5 eo;subst eo;cases hZ';obtain⟨rB,gB⟩:=back r5 g5;obtain⟨st5,fr5⟩:=pinK I5;obtain⟨l1,l2,l3⟩:=gB.side hl' nF' nO';exact⟨xs.length + 1 - (i + 1),by omega,i + 1,σ4,F5,H5,_,yi,zr.1,vs,rfl,hlt,I5.unpinned,a4,rB,g'.trans gB,gk'.go W.lst r' gB hls1,st5,fr5,eY,hr,l2,l3,l1,rep'.mono (gB.keep r'),by omega⟩
   have elt_:∀(s5:Shared) (ρ5:Rho) (F5:Addr->Prop) (H5:Hp) (E':Value->Shared->Prop),Inv (cxComp X N scope s3 H3 fp) ([]++jbY fp s4.heap) σ4 H5 s5->SR Z (jdg nt caps B) F5 H5 σ4 ρ5->Go σ4 ρ2 F4 H4 σ4 ρ5 F5 H5 ->
     ((fe ρ5).bind fun p=>(toD p.1 p.2).bind fun q=>(.ok (some q.1,ja0 caps nt q.2 ρ1):R (Option D×Rho)))=.ok o ->
     wpAny (model X.prog X.w) X.A (eval elt (cxComp X N scope s3 H3 fp).env) (fun x s₄=>wpAny (model X.prog X.w) X.A (call (.builtin "list.append") [.ref l,x]) (fun _ s₅=>∃m,m < xs.length + 1 - i/\P m s₅) E' s₄) E' s5:=by
    intro s5 ρ5 F5 H5 E' I5 r5 g5 ho;obtain⟨p,hd,ho⟩:=R.bind_ok ho;obtain⟨q,hq,ho⟩:=R.bind_ok ho;cases ho;cases hZ';refine jvj (hE s3 H3 (jdg nt caps B) ([]++jbY fp s4.heap) s5 σ4 H5 (fun v H6=>∃F6,Go σ4 ρ2 F4 H4 σ4 q.2 F6 H6/\SR Z (jdg nt caps B) F6 H6 σ4 q.2/\Rep Z F6 H6 q.1 v) I5 ⟨F5,ρ5,r5,?_⟩) (fun u s6 hzz=>?_) fun _ _ z=>False.elim z
    ·rw[hd];intro v F6 H6 g6 r6 rv6;obtain⟨F7,g7,r7,rp,_⟩:=jdW (rv6.base fun l z=>g5.free z) r6 (g5.trans g6) hq;exact⟨F7,g7,r7,rp⟩
    ·obtain⟨v,H6,I6,rv,F6,g6,r6,rp6⟩:=hzz;obtain⟨rB,gB⟩:=back r6 g6;obtain⟨l1,l2,l3⟩:=gB.side hl' nF' nO';have hvl:vs.length < sizeLine:=by
      have:=rep'.length;have:=W.len;omega
     refine jvj (jfh (X:=cxComp X N scope s3 H3 fp) ([]++jbY fp s4.heap) s6 σ4 H6 (.ref l) [v] (.ref l) [u] (fun _ H7=>H7=upd H6 l (.lst (vs++[v]))) I6 rfl (.cons rv .nil) ⟨l,vs,v,rfl,rfl,l1,hvl,rfl⟩) (fun _ s7 hzz=>?_) fun _ _ z=>False.elim z;obtain⟨_,H7,I7,_,e7⟩:=hzz;subst e7;obtain⟨kp7,r7⟩:=rB.oth (u:=.lst (vs++[v])) l2 l3;obtain⟨st7,fr7⟩:=pinK I7;have gA:Go σ ρ F H σ (ja0 caps nt q.2 ρ1) F6 (upd H6 l (.lst (vs++[v]))):=by
      have g0:=g'.trans gB;refine⟨fun b ob e n=>?_,g0.sub,g0.new,g0.ow,fun b ob e=>?_⟩
      ·rw[jac (jab e hl)];exact g0.stay b ob e n
      ·rw[jac (jab e hl)];exact g0.there b ob e
     have gkA:GK F H ls F6 (upd H6 l (.lst (vs++[v]))):=by
      have gk0:=gk'.go W.lst r' gB hls1;refine⟨gk0.keep.trans kp7,fun b hb=>?_⟩;obtain⟨ob,e⟩:=W.lst b hb;rw[jac (jab e hl)];exact gk0.ls b hb
     refine⟨xs.length + 1 - (i + 1),by omega,i + 1,σ4,F6,_,_,yi++[q.1],zr.1,vs++[v],rfl,hlt,I7.unpinned,a4,r7,gA,gkA,st7,fr7,by rw[eY,jva];rfl,hr,l2,l3,jaj,((rep'.mono (gB.keep r')).mono kp7).append (.one (rp6.mono kp7)),by rw[juY,List.length_singleton];omega⟩
   rcases hK with ⟨rfl,rfl⟩ | ⟨k,g,rfl,rfl,hk⟩
   ·refine wpAny_tests_nil ?_;rw[if_pos rfl];exact elt_ s4 ρ2 F4 H4 _ I4p r4 Go.refl ho
   ·refine wpAny_tests_one ?_;obtain⟨b,hb,ho⟩:=R.bind_ok ho;refine jvj (hk s3 H3 (jdg nt caps B) ([]++jbY fp s4.heap) s4 σ4 H4 (fun b' H5=>b'=b.1/\∃F5,Go σ4 ρ2 F4 H4 σ4 b.2 F5 H5/\SR Z (jdg nt caps B) F5 H5 σ4 b.2) I4p ⟨F4,ρ2,r4,?_⟩) (fun b' s5 hzz=>?_) fun _ _ z=>False.elim z
    ·rw[hb];exact fun F5 H5 g5 r5=>⟨rfl,F5,g5,r5⟩
    ·obtain⟨H5,I5,eb,F5,g5,r5⟩:=hzz;subst eb;cases hb1:b.1 with
     |true=>
      rw[if_pos rfl];rw[hb1,if_pos rfl]at ho;exact elt_ s5 b.2 F5 H5 _ I5 r5 g5 ho
     |false=>
      rw[if_neg (by decide)]
      rw[hb1,if_neg (by decide)]at ho
      refine skip s5 b.2 F5 H5 I5 r5 g5 ?_;cases ho;rfl
  ·have hie:i=xs.length:=by omega
   subst hie;rw[List.drop_eq_nil_of_le (jvq _)]at hZ';cases hZ';rw[ju9]at eY;subst eY;refine jvj (W.done (cxComp X N scope s3 H3 fp) rfl rfl hZ hc [] s' σ' F' H' I' r'.dom gk' fo' st') (fun q s1 hzz=>?_) fun _ _ z=>False.elim z;obtain⟨hq,I1⟩:=hzz;subst hq;subst hH3;exact hRR s3 l σ' F' H' s1 vs hl I3 I1 g' r' nF' nO' hl' rep'
 exact codeAny_compStart_list (loop _ rfl) (W.self _ 0 _ _ _ (W.keep _ _ _ st3 fun b _ o e=>kp b o e) (loop _ rfl))
end
end DJ
namespace DJ
open PySem PySem.Spec PyProof.Rows L2
theorem jbj {n:Nat}(h:fits n=true):n<=sizeLine:=by
 unfold fits at h;rw[sizeLine_eq];simpa using h
noncomputable def Op.py:Op->Operator
 |.add=>.Add | .sub=>.Sub | .mul=>.Mult | .fdiv=>.FloorDiv | .mod=>.Mod | .pow=>.Pow
noncomputable def jnM:R Vl->Prop
 |.ok (.slot _)=>False
 |.err _=>False
 |_=>True
theorem jce {c:Prop}[Decidable c]{r:R Vl}(h:jnM r):jnM (if c then r else .stk):=by
 split
 ·exact h
 ·trivial
theorem jmj {a b:Int}{o:Op}:jnM (opZ a b o):=by
 cases o <;> first | trivial | exact jce trivial
theorem jew {v:R Vl}{o:Op}(h:jnM v):jnM (opC v o):=by
 cases o <;> first | exact h | trivial
theorem jmk {v:R Vl}{o:Op}(h:jnM v):jnM (opM v o):=by
 cases o <;> first | exact h | trivial
theorem jhx {o:Op}{x y:D}:jnM (opD o x y):=by
 cases x with
 |int a=>cases y with
  |int b=>exact jmj
  |_=>trivial
 |tup a=>cases y with
  |tup b=>exact jew (jce trivial)
  |int b=>exact jmk (jce trivial)
  |_=>trivial
 |lst a=>cases y with
  |lst b=>exact jew (jce trivial)
  |_=>trivial
 |str a=>cases y with
  |str b=>exact jew (jce trivial)
  |_=>trivial
 |_=>trivial
theorem jo5 {o:Op}{x y:D}{c:Nat}:opD o x y≠.err c:=fun h=>by
 have:=jhx (o:=o) (x:=x) (y:=y);rw[h]at this;exact this
theorem jml {o:Op}{x y:D}{i:Nat}:opD o x y≠.ok (.slot i):=fun h=>by
 have:=jhx (o:=o) (x:=x) (y:=y);rw[h]at this;exact this
theorem jcQ {w:Vl}{p:Prop}(h:(.stk:R Vl)=.ok w):p:=nomatch h
theorem jcR {c:Prop}[Decidable c]{v w:Vl}(h:(if c then .ok v else .stk:R Vl)=.ok w):c/\v=w:=by
 split at h
 ·cases h;exact⟨‹_›,rfl⟩
 ·exact jcQ h
theorem jj7 {v:R Vl}{w:Vl}{o:Op}(h:opC v o=.ok w):o=.add/\v=.ok w:=by
 cases o with
 |add=>exact⟨rfl,h⟩
 |_=>exact jcQ h
theorem jro {v:R Vl}{w:Vl}{o:Op}(h:opM v o=.ok w):o=.mul/\v=.ok w:=by
 cases o with
 |mul=>exact⟨rfl,h⟩
 |_=>exact jcQ h
section
variable {Z:Kn}{X:Cx}
noncomputable def jsX (i j:Int):Prop:=0 < j/\j < 2 ^ 64
theorem jmm:OpR X (binaryOp .FloorDiv) (rI jsX fun i j=>.int (i / j)):=opI fun i j _ _ _ _ _ hc q=>by
 have h1:(0:Int) < j:=hc.1;have h2:j < 2 ^ 64:=hc.2;refine floordiv_int (by omega) (by rw[Int.fdiv_eq_ediv_of_nonneg i (by omega)];exact q) (.inl (PyProof.noPylong_of_log2 ?_))
 have h3:j.natAbs < 2 ^ 64:=by omega
 have h4:j.natAbs.log2 < 64:=(Nat.log2_lt (by omega)).mpr h3
 omega
theorem jsY (hZ:X.K=Z.K)(o:Op):OpR X (binaryOp o.py) (rD2 Z (opD o)):=by
 intro pins s σ H x y v u Q I rx ry h;obtain⟨F,dx,dy,w,dm,bx,by_,hw,h⟩:=h;have sqT:∀{a:Addr}{vs:List V},FT Z.K F H a vs->SqT X.K H a vs:=fun q=>by rw[hZ];exact q.sq
 cases dx with
 |int i=>
  cases dy with
  |int j=>
   cases bx.int;cases by_.int;cases o with
   |add=>cases hw;exact jqN pins s σ H _ _ v u Q I rx ry ⟨_,_,rfl,rfl,h.int dm⟩
   |sub=>cases hw;exact jqO pins s σ H _ _ v u Q I rx ry ⟨_,_,rfl,rfl,h.int dm⟩
   |mul=>obtain⟨hf,rfl⟩:=jcR hw;exact jqP pins s σ H _ _ v u Q I rx ry ⟨_,_,rfl,rfl,hf,h.int dm⟩
   |fdiv=>obtain⟨hf,rfl⟩:=jcR hw;exact jmm pins s σ H _ _ v u Q I rx ry ⟨_,_,rfl,rfl,hf,h.int dm⟩
   |mod=>obtain⟨hf,rfl⟩:=jcR hw;exact jqQ pins s σ H _ _ v u Q I rx ry ⟨_,_,rfl,rfl,hf,h.int dm⟩
   |pow=>obtain⟨hf,rfl⟩:=jcR hw;exact jqR pins s σ H _ _ v u Q I rx ry ⟨_,_,rfl,rfl,hf,h.int dm⟩
  |_=>exact jcQ hw
 |tup as=>
  cases dy with
  |tup bs=>
   obtain⟨rfl,hw⟩:=jj7 hw;obtain⟨hf,rfl⟩:=jcR hw;obtain⟨a,vs,rfl,ft,ra⟩:=bx.tup;obtain⟨b,us,rfl,fu,rb⟩:=by_.tup;have hl:vs.length + us.length<=sizeLine:=by rw[<-ra.length,<-rb.length];exact jbj hf
   by_cases hv:vs=[]
   ·subst hv;have ea:as=[]:=List.eq_nil_of_length_eq_zero (by rw[ra.length];rfl)
    subst ea;exact jlH pins s σ H _ _ v u Q I rx ry ⟨a,b,us,rfl,rfl,sqT ft,sqT fu,h.tupOld dm fu rb⟩
   ·refine jot pins s σ H _ _ v u Q I rx ry ⟨a,b,vs,us,rfl,rfl,sqT ft,sqT fu,hv,hl,fun e=>?_,fun _=>h.tup dm (ra.append rb)⟩;subst e;have eb:bs=[]:=List.eq_nil_of_length_eq_zero (by rw[rb.length];rfl)
    subst eb;rw[ju9]at h;exact h.tupOld dm ft ra
  |int k=>
   obtain⟨rfl,hw⟩:=jro hw;obtain⟨hf,rfl⟩:=jcR hw;obtain⟨h0,h1,h2⟩:=hf;obtain⟨a,vs,rfl,ft,ra⟩:=bx.tup;cases by_.int;have hem:vs.isEmpty=as.isEmpty:=by
    have:=ra.length;cases vs <;> cases as <;> simp_all
   refine joy pins s σ H _ _ v u Q I rx ry ⟨a,k,vs,rfl,rfl,sqT ft,h0,h1,by rw[<-ra.length];exact jbj h2,fun e=>?_,fun e=>h.tup dm (ra.rep k.toNat)⟩
   rw[hem]at e;have hsame:(List.replicate k.toNat as).flatten=as:=by
    rcases Bool.or_eq_true_iff.mp e with e | e
    ·have:as=[]:=by simpa using e
     subst this;simp
    ·have:k=1:=by simpa using e
     subst this;simp
   rw[hsame]at h;exact h.tupOld dm ft ra
  |_=>exact jcQ hw
 |lst as=>
  cases dy with
  |lst bs=>
   obtain⟨rfl,hw⟩:=jj7 hw;obtain⟨hf,rfl⟩:=jcR hw;obtain⟨a,vs,rfl,ft,ra⟩:=bx.lst;obtain⟨b,us,rfl,fu,rb⟩:=by_.lst;have hl:vs.length + us.length<=sizeLine:=by rw[<-ra.length,<-rb.length];exact jbj hf
   exact jox pins s σ H _ _ v u Q I rx ry ⟨a,b,vs,us,rfl,rfl,(by rw[hZ];exact ft),(by rw[hZ];exact fu),hl,h.lst dm (ra.append rb)⟩
  |_=>exact jcQ hw
 |str x=>
  cases dy with
  |str y=>
   obtain⟨rfl,hw⟩:=jj7 hw;obtain⟨hf,rfl⟩:=jcR hw;cases bx.str;cases by_.str;exact jh1 pins s σ H _ _ v u Q I rx ry ⟨_,_,rfl,rfl,jbj hf,h.sc dm (by simp only[Rep])⟩
  |_=>exact jcQ hw
 |_=>exact jcQ hw
end
section
variable {Z:Kn}{X:Cx}{pins:List (Addr×Obj)}{s:Shared}{σ:L2.St}{H:Hp}{F:Addr->Prop}
theorem RepB.isTup (hZ:X.K=Z.K)(I:Inv X pins σ H s){ds:List D}{v:V}{u:Value}(h:RepB Z F H (.tup ds) v)(r:RelV v u):∃a vs its,u=.ref a/\Reps Z F H ds vs/\Vals vs its/\s.heap.IsTuple a its.toArray:=by
 obtain⟨a,vs,rfl,ft,rr⟩:=h.tup;cases r;obtain⟨its,rv,p,_⟩:=I.tuple (show SqT X.K H a vs by rw[hZ];exact ft.sq)
 exact⟨a,vs,its,rfl,rr,rv,p⟩
theorem RepB.isLst (hZ:X.K=Z.K)(I:Inv X pins σ H s){ds:List D}{v:V}{u:Value}(h:RepB Z F H (.lst ds) v)(r:RelV v u):∃a vs its,u=.ref a/\Reps Z F H ds vs/\Vals vs its/\s.heap.IsList a its.toArray:=by
 obtain⟨a,vs,rfl,ft,rr⟩:=h.lst;cases r;obtain⟨its,rv,p,_⟩:=I.list (show SqL X.K H a vs by rw[hZ];exact ft)
 exact⟨a,vs,its,rfl,rr,rv,p.isList⟩
theorem jj8 {h:Heap}{a:Addr}{x y:Array Value}(p:h.IsTuple a x)(q:h.IsTuple a y):x=y:=by
 obtain⟨o,e,_,n,d⟩:=p;obtain⟨o',e',_,n',d'⟩:=q;rw[e]at e';cases e';rw[d]at d';cases d';rfl
theorem jj9 {h:Heap}{a:Addr}{x y:Array Value}(p:h.IsList a x)(q:h.IsList a y):x=y:=by
 obtain⟨o,e,_,n,d⟩:=p;obtain⟨o',e',_,n',d'⟩:=q;rw[e]at e';cases e';rw[d]at d';cases d';rfl
mutual
theorem jcY (hZ:X.K=Z.K)(I:Inv X pins σ H s):∀{d e:D}{v w:V}{u:Value},RepB Z F H d v->RepB Z F H e w->RelV v u->RelV w u->jbF d=true->jbF e=true->d=e
 |.non,e,v,w,u,hd,he,rv,rw',cd,ce=>by
  cases hd.non;cases rv;cases e with
  |non=>rfl
  |bl b=>cases he.bl;cases rw'
  |int i=>cases he.int;obtain⟨t,z⟩:=rw';cases z
  |str x=>cases he.str;obtain⟨t,z⟩:=rw';cases z
  |tup xs=>obtain⟨a,vs,its,z,_⟩:=he.isTup hZ I rw';cases z
  |lst xs=>obtain⟨a,vs,its,z,_⟩:=he.isLst hZ I rw';cases z
  |dct _ _=>cases ce
  |exc _=>cases ce
 |.bl b,e,v,w,u,hd,he,rv,rw',cd,ce=>by
  cases hd.bl;cases rv;cases e with
  |non=>cases he.non;cases rw'
  |bl b'=>cases he.bl;cases rw';rfl
  |int i=>cases he.int;obtain⟨t,z⟩:=rw';cases z
  |str x=>cases he.str;obtain⟨t,z⟩:=rw';cases z
  |tup xs=>obtain⟨a,vs,its,z,_⟩:=he.isTup hZ I rw';cases z
  |lst xs=>obtain⟨a,vs,its,z,_⟩:=he.isLst hZ I rw';cases z
  |dct _ _=>cases ce
  |exc _=>cases ce
 |.int i,e,v,w,u,hd,he,rv,rw',cd,ce=>by
  cases hd.int;obtain⟨t,rfl⟩:=rv;cases e with
  |non=>cases he.non;cases rw'
  |bl b'=>cases he.bl;cases rw'
  |int i=>cases he.int;obtain⟨t,z⟩:=rw';cases z;rfl
  |str x=>cases he.str;obtain⟨t,z⟩:=rw';cases z
  |tup xs=>obtain⟨a,vs,its,z,_⟩:=he.isTup hZ I rw';cases z
  |lst xs=>obtain⟨a,vs,its,z,_⟩:=he.isLst hZ I rw';cases z
  |dct _ _=>cases ce
  |exc _=>cases ce
 |.str i,e,v,w,u,hd,he,rv,rw',cd,ce=>by
  cases hd.str;obtain⟨t,rfl⟩:=rv;cases e with
  |non=>cases he.non;cases rw'
  |bl b'=>cases he.bl;cases rw'
  |int i=>cases he.int;obtain⟨t,z⟩:=rw';cases z
  |str x=>cases he.str;obtain⟨t,z⟩:=rw';cases z;rfl
  |tup xs=>obtain⟨a,vs,its,z,_⟩:=he.isTup hZ I rw';cases z
  |lst xs=>obtain⟨a,vs,its,z,_⟩:=he.isLst hZ I rw';cases z
  |dct _ _=>cases ce
  |exc _=>cases ce
 |.tup ds,e,v,w,u,hd,he,rv,rw',cd,ce=>by
  obtain⟨a,vs,its,rfl,rr,rs,p⟩:=hd.isTup hZ I rv;cases e with
  |non=>cases he.non;cases rw'
  |bl b'=>cases he.bl;cases rw'
  |int i=>cases he.int;obtain⟨t,z⟩:=rw';cases z
  |str x=>cases he.str;obtain⟨t,z⟩:=rw';cases z
  |tup xs=>
   obtain⟨b,vs',its',z,rr',rs',p'⟩:=he.isTup hZ I rw';cases z;have:=jj8 p p';have:its=its':=by simpa using this
   subst this;simp only[jbF]at cd ce;rw[reps_same hZ I rr rr' rs rs' cd ce]
  |lst xs=>obtain⟨b,vs',its',z,rr',rs',p'⟩:=he.isLst hZ I rw';cases z;exact absurd rfl (SeqAt.ne_of_list_tuple p' p)
  |dct _ _=>cases ce
  |exc _=>cases ce
 |.lst ds,e,v,w,u,hd,he,rv,rw',cd,ce=>by
  obtain⟨a,vs,its,rfl,rr,rs,p⟩:=hd.isLst hZ I rv;cases e with
  |non=>cases he.non;cases rw'
  |bl b'=>cases he.bl;cases rw'
  |int i=>cases he.int;obtain⟨t,z⟩:=rw';cases z
  |str x=>cases he.str;obtain⟨t,z⟩:=rw';cases z
  |tup xs=>obtain⟨b,vs',its',z,rr',rs',p'⟩:=he.isTup hZ I rw';cases z;exact absurd rfl (SeqAt.ne_of_list_tuple p p')
  |lst xs=>
   obtain⟨b,vs',its',z,rr',rs',p'⟩:=he.isLst hZ I rw';cases z;have:=jj9 p p';have:its=its':=by simpa using this
   subst this;simp only[jbF]at cd ce;rw[reps_same hZ I rr rr' rs rs' cd ce]
  |dct _ _=>cases ce
  |exc _=>cases ce
 |.dct _ _,_,_,_,_,_,_,_,_,cd,_=>by cases cd
 |.exc _,_,_,_,_,_,_,_,_,cd,_=>by cases cd
theorem reps_same (hZ:X.K=Z.K)(I:Inv X pins σ H s):∀{ds es:List D}{vs ws:List V}{us:List Value},Reps Z F H ds vs->Reps Z F H es ws->Vals vs us->Vals ws us->cmpDs ds=true->cmpDs es=true->ds=es
 |[],es,vs,ws,us,hd,he,rv,rw',cd,ce=>by
  simp only[Reps]at hd;subst hd;cases rv;cases rw';cases es with
  |nil=>rfl
  |cons e es=>obtain⟨_,_,z,_⟩:=he.uncons;cases z
 |d::ds,es,vs,ws,us,hd,he,rv,rw',cd,ce=>by
  obtain⟨v,vs',rfl,h1,h2⟩:=hd.uncons;cases rv with
  |cons r1 r2=>
   cases rw' with
   |cons q1 q2=>
    cases es with
    |nil=>simp only[Reps]at he;cases he
    |cons e es=>
     obtain⟨w,ws',z,g1,g2⟩:=he.uncons;cases z;simp only[cmpDs,jvv]at cd ce;rw[jcY hZ I (.inl h1) (.inl g1) r1 q1 cd.1 ce.1,reps_same hZ I h2 g2 r2 q2 cd.2 ce.2]
end
mutual
theorem jex:∀{d:D},jbF d=true->eqD d d=true
 |.non,_=>rfl
 |.bl b,_=>by simp[eqD]
 |.int i,_=>by simp[eqD]
 |.str x,_=>by simp[eqD]
 |.tup xs,h=>by simp only[jbF]at h;simp only[eqD];exact eqDs_refl h
 |.lst xs,h=>by simp only[jbF]at h;simp only[eqD];exact eqDs_refl h
 |.dct _ _,h=>by cases h
 |.exc _,h=>by cases h
theorem eqDs_refl:∀{ds:List D},cmpDs ds=true->eqDs ds ds=true
 |[],_=>rfl
 |d::ds,h=>by
  simp only[cmpDs,jvv]at h;simp only[eqDs,jvv];exact⟨jex h.1,eqDs_refl h.2⟩
end
theorem jbw:∀{ds es:List D},eqDs ds es=(decide (ds.length=es.length) && (List.range (min ds.length es.length)).all fun j=>eqD (ds.getD j .non) (es.getD j .non))
 |[],[]=>rfl
 |[],_::_=>by simp[eqDs]
 |_::_,[]=>by simp[eqDs]
 |d::ds,e::es=>by
  have ih:=jbw (ds:=ds) (es:=es);simp only[eqDs,ih,juU,Nat.succ_min_succ,List.range_succ_eq_map,List.all_cons,List.getD_cons_zero,List.all_map,Function.comp_def,List.getD_cons_succ,Nat.add_right_cancel_iff];cases eqD d e <;> cases decide (ds.length=es.length) <;> simp
theorem Reps.vals {ds:List D}{vs:List V}{us:List Value}(h:Reps Z F H ds vs)(r:Vals vs us){j:Nat}(hj:j < us.length):∃v,Rep Z F H (ds.getD j .non) v/\RelV v us[j]/\ds.length=us.length:=by
 have l1:=h.length;have l2:=r.length;obtain⟨v,e1,e2⟩:=h.get (juK (show j < ds.length by omega))
 obtain⟨u,e3,e4⟩:=r.get e1;rw[juK hj]at e3;cases e3;refine⟨v,?_,e4,by omega⟩
 rw[juS,juK (show j < ds.length by omega)]
 exact e2
theorem jaQ:∀{ds:List D}{j:Nat},cmpDs ds=true->jbF (ds.getD j .non)=true
 |[],j,_=>by simp[jbF]
 |d::ds,0,h=>by simp only[cmpDs,jvv]at h;simpa using h.1
 |d::ds,j + 1,h=>by
  simp only[cmpDs,jvv]at h;rw[List.getD_cons_succ];exact jaQ h.2
theorem jbH:∀{ds:List D}{j:Nat},jcP (ds.getD j .non)<=deeps ds
 |[],j=>by simp[jcP]
 |d::ds,0=>by simp only[deeps,List.getD_cons_zero];exact Nat.le_max_left _ _
 |d::ds,j + 1=>by
  rw[List.getD_cons_succ];simp only[deeps];exact jvt jbH (Nat.le_max_right _ _)
open SeqAt in
theorem jgx (hZ:X.K=Z.K)(I:Inv X pins σ H s):∀(n:Nat) {A:Around}{d e:D}{v w:V}{u u':Value},jcP d<=n->A.units + n < cLine->RepB Z F H d v->RepB Z F H e w->RelV v u->RelV w u'->jbF d=true->jbF e=true->RcAt A s u u' (eqD d e)/\EqAt A s u u' (eqD d e):=by
 intro n;induction n with
 |zero=>
  intro A d e v w u u' hn hu hd he rv rw' cd ce;have hu:A.units < cLine:=by omega
  cases d with
  |non=>
   cases hd.non;cases rv;cases e with
   |non=>cases he.non;cases rw';exact⟨RcAt.none_none,EqAt.same _⟩
   |bl b=>cases he.bl;cases rw';exact⟨RcAt.none_bool b,EqAt.none_bool b⟩
   |int i=>cases he.int;obtain⟨t,rfl⟩:=rw';exact⟨RcAt.none_int i t,EqAt.none_int i t⟩
   |str x=>cases he.str;obtain⟨t,rfl⟩:=rw';exact⟨RcAt.none_str x t,EqAt.none_str x t⟩
   |tup xs=>obtain⟨a,vs,its,rfl,_,_,p⟩:=he.isTup hZ I rw';exact⟨RcAt.none_tuple p hu,EqAt.none_tuple p hu⟩
   |lst xs=>obtain⟨a,vs,its,rfl,_,_,p⟩:=he.isLst hZ I rw';exact⟨RcAt.none_list p hu,EqAt.none_list p hu⟩
   |dct _ _=>cases ce
   |exc _=>cases ce
  |bl b0=>
   cases hd.bl;cases rv;cases e with
   |non=>cases he.non;cases rw';exact⟨RcAt.bool_none b0,EqAt.bool_none b0⟩
   |bl b=>cases he.bl;cases rw';exact⟨RcAt.bool_bool b0 b,EqAt.bool_bool b0 b⟩
   |int i=>cases he.int;obtain⟨t,rfl⟩:=rw';exact⟨RcAt.bool_int b0 i t,EqAt.bool_int b0 i t⟩
   |str x=>cases he.str;obtain⟨t,rfl⟩:=rw';exact⟨RcAt.bool_str b0 x t,EqAt.bool_str b0 x t⟩
   |tup xs=>obtain⟨a,vs,its,rfl,_,_,p⟩:=he.isTup hZ I rw';exact⟨RcAt.bool_tuple b0 p hu,EqAt.bool_tuple b0 p hu⟩
   |lst xs=>obtain⟨a,vs,its,rfl,_,_,p⟩:=he.isLst hZ I rw';exact⟨RcAt.bool_list b0 p hu,EqAt.bool_list b0 p hu⟩
   |dct _ _=>cases ce
   |exc _=>cases ce
  |int i0=>
   cases hd.int;obtain⟨t0,rfl⟩:=rv;cases e with
   |non=>cases he.non;cases rw';exact⟨RcAt.int_none i0 t0,EqAt.int_none i0 t0⟩
   |bl b=>cases he.bl;cases rw';exact⟨RcAt.int_bool i0 t0 b,EqAt.int_bool i0 t0 b⟩
   |int i=>cases he.int;obtain⟨t,rfl⟩:=rw';exact⟨RcAt.int_int i0 t0 i t,EqAt.int_int i0 t0 i t⟩
   |str x=>cases he.str;obtain⟨t,rfl⟩:=rw';exact⟨RcAt.int_str i0 t0 x t,EqAt.int_str i0 t0 x t⟩
   |tup xs=>obtain⟨a,vs,its,rfl,_,_,p⟩:=he.isTup hZ I rw';exact⟨RcAt.int_tuple i0 t0 p hu,EqAt.int_tuple i0 t0 p hu⟩
   |lst xs=>obtain⟨a,vs,its,rfl,_,_,p⟩:=he.isLst hZ I rw';exact⟨RcAt.int_list i0 t0 p hu,EqAt.int_list i0 t0 p hu⟩
   |dct _ _=>cases ce
   |exc _=>cases ce
  |str i0=>
   cases hd.str;obtain⟨t0,rfl⟩:=rv;cases e with
   |non=>cases he.non;cases rw';exact⟨RcAt.str_none i0 t0,EqAt.str_none i0 t0⟩
   |bl b=>cases he.bl;cases rw';exact⟨RcAt.str_bool i0 t0 b,EqAt.str_bool i0 t0 b⟩
   |int i=>cases he.int;obtain⟨t,rfl⟩:=rw';exact⟨RcAt.str_int i0 t0 i t,EqAt.str_int i0 t0 i t⟩
   |str x=>cases he.str;obtain⟨t,rfl⟩:=rw';exact⟨RcAt.str_str i0 t0 x t,EqAt.str_str i0 t0 x t⟩
   |tup xs=>obtain⟨a,vs,its,rfl,_,_,p⟩:=he.isTup hZ I rw';exact⟨RcAt.str_tuple i0 t0 p hu,EqAt.str_tuple i0 t0 p hu⟩
   |lst xs=>obtain⟨a,vs,its,rfl,_,_,p⟩:=he.isLst hZ I rw';exact⟨RcAt.str_list i0 t0 p hu,EqAt.str_list i0 t0 p hu⟩
   |dct _ _=>cases ce
   |exc _=>cases ce
  |tup _=>simp[jcP]at hn
  |lst _=>simp[jcP]at hn
  |dct _ _=>cases cd
  |exc _=>cases cd
 |succ n ih=>
  intro A d e v w u u' hn hu hd he rv rw' cd ce;have hu0:A.units < cLine:=by omega
  have hu1:A.in1.units + n < cLine:=by show A.units + 1 + n < cLine;omega
  have flat:jcP d=0->RcAt A s u u' (eqD d e)/\EqAt A s u u' (eqD d e):=fun h0=>ih (by omega) (by omega) hd he rv rw' cd ce
  cases d with
  |non=>exact flat rfl
  |bl _=>exact flat rfl
  |int _=>exact flat rfl
  |str _=>exact flat rfl
  |dct _ _=>cases cd
  |exc _=>cases cd
  |tup ds=>
   obtain⟨a,vs,its,rfl,rr,rs,p⟩:=hd.isTup hZ I rv;cases e with
   |non=>cases he.non;cases rw';exact⟨RcAt.tuple_none p hu0,EqAt.tuple_none p hu0⟩
   |bl b=>cases he.bl;cases rw';exact⟨RcAt.tuple_bool b p hu0,EqAt.tuple_bool b p hu0⟩
   |int i=>cases he.int;obtain⟨t,rfl⟩:=rw';exact⟨RcAt.tuple_int i t p hu0,EqAt.tuple_int i t p hu0⟩
   |str x=>cases he.str;obtain⟨t,rfl⟩:=rw';exact⟨RcAt.tuple_str x t p hu0,EqAt.tuple_str x t p hu0⟩
   |lst xs=>obtain⟨b,vs',its',rfl,_,_,p'⟩:=he.isLst hZ I rw';exact⟨RcAt.tuple_list p p' hu0,EqAt.tuple_list p p' hu0⟩
   |dct _ _=>cases ce
   |exc _=>cases ce
   |tup es=>
    obtain⟨b,vs',its',rfl,rr',rs',p'⟩:=he.isTup hZ I rw';simp only[jbF]at cd ce;simp only[jcP]at hn;have l1:ds.length=its.length:=by rw[rr.length,rs.length]
    have l2:es.length=its'.length:=by rw[rr'.length,rs'.length]
    have key:RcAt A s (.ref a) (.ref b) (eqD (.tup ds) (.tup es)):=by
     have:=RcAt.tuples (A:=A) (e:=fun j=>eqD (ds.getD j .non) (es.getD j .non)) p p' hu0 fun j h1 h2=>by
      obtain⟨v1,q1,q2,_⟩:=rr.vals rs (j:=j) (by simpa using h1)
      obtain⟨v2,q3,q4,_⟩:=rr'.vals rs' (j:=j) (by simpa using h2)
      exact(ih (jvt jbH (by omega)) hu1 (.inl q1) (.inl q3) (by simpa using q2) (by simpa using q4) (jaQ cd) (jaQ ce)).2
     simp only[eqD];rw[jbw,Bool.and_comm];simp only[juO,<-l1,<-l2]at this;have e2:(ds.length == es.length)=decide (ds.length=es.length):=by rw[Bool.beq_eq_decide_eq]
     rw[<-e2];exact this
    refine⟨key,?_⟩;by_cases hab:a=b
    ·subst hab;rw[jcY hZ I hd he rv rw' (by simpa only[jbF] using cd) (by simpa only[jbF] using ce),jex (by simpa only[jbF] using ce)]
     exact EqAt.same _
    ·exact EqAt.of_refs hab key
  |lst ds=>
   obtain⟨a,vs,its,rfl,rr,rs,p⟩:=hd.isLst hZ I rv;cases e with
   |non=>cases he.non;cases rw';exact⟨RcAt.list_none p hu0,EqAt.list_none p hu0⟩
   |bl b=>cases he.bl;cases rw';exact⟨RcAt.list_bool b p hu0,EqAt.list_bool b p hu0⟩
   |int i=>cases he.int;obtain⟨t,rfl⟩:=rw';exact⟨RcAt.list_int i t p hu0,EqAt.list_int i t p hu0⟩
   |str x=>cases he.str;obtain⟨t,rfl⟩:=rw';exact⟨RcAt.list_str x t p hu0,EqAt.list_str x t p hu0⟩
   |tup xs=>obtain⟨b,vs',its',rfl,_,_,p'⟩:=he.isTup hZ I rw';exact⟨RcAt.list_tuple p p' hu0,EqAt.list_tuple p p' hu0⟩
   |dct _ _=>cases ce
   |exc _=>cases ce
   |lst es=>
    obtain⟨b,vs',its',rfl,rr',rs',p'⟩:=he.isLst hZ I rw';simp only[jbF]at cd ce;simp only[jcP]at hn;have l1:ds.length=its.length:=by rw[rr.length,rs.length]
    have l2:es.length=its'.length:=by rw[rr'.length,rs'.length]
    have key:RcAt A s (.ref a) (.ref b) (eqD (.lst ds) (.lst es)):=by
     by_cases hsz:its.length=its'.length
     ·have:=RcAt.lists (A:=A) (e:=fun j=>eqD (ds.getD j .non) (es.getD j .non)) p p' (by simpa using hsz) hu0 fun j h1 h2=>by
       obtain⟨v1,q1,q2,_⟩:=rr.vals rs (j:=j) (by simpa using h1)
       obtain⟨v2,q3,q4,_⟩:=rr'.vals rs' (j:=j) (by simpa using h2)
       exact(ih (jvt jbH (by omega)) hu1 (.inl q1) (.inl q3) (by simpa using q2) (by simpa using q4) (jaQ cd) (jaQ ce)).2
      simp only[eqD];have hl:ds.length=es.length:=by omega
      rw[jbw,decide_eq_true hl,Bool.true_and,<-hl,Nat.min_self];simp only[juO,<-l1]at this;exact this
     ·have:=RcAt.lists_lengths (A:=A) p p' (by simpa using hsz) hu0
      simp only[eqD];rw[jbw,decide_eq_false (by omega),Bool.false_and]
      exact this
    refine⟨key,?_⟩;by_cases hab:a=b
    ·subst hab;rw[jcY hZ I hd he rv rw' (by simpa only[jbF] using cd) (by simpa only[jbF] using ce),jex (by simpa only[jbF] using ce)]
     exact EqAt.same _
    ·exact EqAt.of_refs hab key
end
end DJ
namespace DJ
open PySem PySem.Spec PyProof.Rows L2
noncomputable def bD (g:D->D->R Bool):D->D->R Vl:=fun x y=>(g x y).bind fun c=>.ok (.dat (.bl c))
noncomputable def Cm.py:Cm->CmpOp
 |.eq=>.Eq | .ne=>.NotEq | .lt=>.Lt | .le=>.LtE | .gt=>.Gt | .ge=>.GtE | .isn=>.Is | .notn=>.IsNot | .isin=>.In | .notin=>.NotIn
theorem jhy:∀x y:List Int,lexLt x y=HT.lexLt x y
 |[],[]=>rfl
 |[],_::_=>rfl
 |_::_,[]=>rfl
 |x::xs,y::ys=>by
  rw[HT.jdI];simp only[lexLt];rw[jhy xs ys]
theorem jcf {Z:Kn}{F:Addr->Prop}{H:Hp}:∀{ds:List D}{ns:List Int}{vs:List V},jaY ds=some ns->Reps Z F H ds vs->vs=ns.map V.int
 |[],ns,vs,h,r=>by simp only[Reps]at r;cases h;exact r
 |d::ds,ns,vs,h,r=>by
  simp only[Reps]at r;obtain⟨v,us,rfl,r1,r2⟩:=r;cases d with
  |int i=>
   simp only[jaY]at h;cases q:jaY ds with
   |none=>rw[q]at h;cases h
   |some ms=>
    rw[q]at h;cases h;simp only[Rep]at r1;rw[r1,jcf q r2];rfl
  |_=>cases h
theorem jka {d:D}{c:Nat}:jaA d≠.err c:=by cases d <;> (intro z;cases z)
theorem jkb {x y:D}{c:Nat}:eqR x y≠.err c:=by unfold eqR;split <;> (intro z;cases z)
theorem jkc {x y:D}{c:Nat}:inR x y≠.err c:=by
 intro h;unfold inR at h;cases e:jaA y with
 |ok ys=>rw[e,R.bind_ok']at h;split at h <;> cases h
 |err c=>exact jka e
 |stk=>rw[e]at h;cases h
theorem jo6 {x y:D}{c:Nat}:ltD x y≠.err c:=by
 intro h;unfold ltD at h;split at h <;> first | cases h | (split at h <;> cases h)
theorem jey {f:Int->Int->Bool}{x y:D}{c:Nat}:jrn f x y≠.err c:=by
 intro h;cases x with
 |int a=>cases y with
  |int b=>cases h
  |_=>cases h
 |_=>cases h
theorem jgy {f:Int->Int->Bool}{x y:D}{c:Bool}(h:jrn f x y=.ok c):∃a b,x=.int a/\y=.int b/\c=f a b:=by
 cases x with
 |int a=>cases y with
  |int b=>cases h;exact⟨a,b,rfl,rfl,rfl⟩
  |_=>cases h
 |_=>cases h
theorem jkd {r:R Bool}{c:Nat}(hr:r≠.err c):(r.bind fun c=>(.ok (!c):R Bool))≠.err c:=by
 intro h;cases r with
 |ok b=>cases h
 |err c'=>cases h;exact hr rfl
 |stk=>cases h
theorem jnN {x:D}(h:isN x=true):x=.non:=by
 cases x with
 |non=>rfl
 |_=>cases h
theorem jo7 {o:Cm}{x y:D}{c:Nat}:cmD o x y≠.err c:=by
 cases o with
 |eq=>exact jkb
 |ne=>exact jkd jkb
 |lt=>exact jo6
 |gt=>exact jey
 |le=>exact jey
 |ge=>exact jey
 |isn=>intro h;unfold cmD at h;dsimp only at h;split at h <;> cases h
 |notn=>intro h;unfold cmD at h;dsimp only at h;split at h <;> cases h
 |isin=>exact jkc
 |notin=>exact jkd jkc
section
variable {Z:Kn}{X:Cx}{pins:List (Addr×Obj)}{s:Shared}{σ:L2.St}{H:Hp}{F:Addr->Prop}
theorem jnO {d e:D}{b:Bool}(h:eqR d e=.ok b):b=eqD d e/\jbF d=true/\jbF e=true/\jcP d<=12/\jcP e<=12:=by
 unfold eqR at h;split at h
 ·rename_i hc;simp only[jvv,decide_eq_true_eq]at hc;cases h;exact⟨rfl,hc.1.1.1,hc.1.1.2,hc.1.2,hc.2⟩
 ·cases h
theorem jrp (hZ:X.K=Z.K)(hu:X.A.units + 64 < cLine)(I:Inv X pins σ H s){d e:D}{x y:V}{u w:Value}{b:Bool}(hd:RepB Z F H d x)(he:RepB Z F H e y)(rx:RelV x u)(ry:RelV y w)(hb:eqR d e=.ok b){Q:Value->Shared->Prop}{E:Value->Shared->Prop}(q:Q (.bool b) s) :
  wpAny (model X.prog X.w) X.A (compareOp .Eq u w) Q E s:=by
 obtain⟨rfl,c1,c2,d1,d2⟩:=jnO hb;exact(jgx hZ I 12 (A:=X.A) d1 (by omega) hd he rx ry c1 c2).1 X.prog X.w E Q q
theorem jnP (hZ:X.K=Z.K)(hu:X.A.units + 64 < cLine)(I:Inv X pins σ H s){d e:D}{x y:V}{u w:Value}{b:Bool}(hd:RepB Z F H d x)(he:RepB Z F H e y)(rx:RelV x u)(ry:RelV y w)(hb:inR d e=.ok b)(neg:Bool){Q:Value->Shared->Prop}{E:Value->Shared->Prop}(q:Q (.bool (if neg then !b else b)) s) :
  wpAny (model X.prog X.w) X.A (compareOp (if neg then .NotIn else .In) u w) Q E s:=by
 unfold inR at hb;obtain⟨ys,hs,hb⟩:=R.bind_ok hb;split at hb
 ·rename_i hc;simp only[jvv,decide_eq_true_eq]at hc;obtain⟨⟨⟨c1,c2⟩,d1⟩,d2⟩:=hc;cases hb;obtain⟨p,vs,rfl,hq,rr⟩:=jb4 he hs;cases ry;have hj:∀(its:List Value),Vals vs its->∃ef:Value->Bool,(∀z,z∈its.toArray->SeqAt.EqAt X.A.in1 s z u (ef z))/\its.toArray.any ef=ys.any fun z=>eqD z d:=fun its rv=>by
   classical
   let Pz:Value->D->Prop:=fun z e0=>jbF e0=true/\jcP e0<=12/\∃v0,Rep Z F H e0 v0/\RelV v0 z
   have uq:∀{z:Value}{e1 e2:D},Pz z e1->Pz z e2->e1=e2:=fun ⟨a1,_,v1,a3,a4⟩ ⟨b1,_,v2,b3,b4⟩=>jcY hZ I (.inl a3) (.inl b3) a4 b4 a1 b1;let ef:Value->Bool:=fun z=>if h:∃e0,Pz z e0 then eqD h.choose d else false;have efE:∀{z:Value}{e0:D},Pz z e0->ef z=eqD e0 d:=fun {z e0} h=>by
    have hx:∃e0,Pz z e0:=⟨e0,h⟩;simp only[ef,dif_pos hx];rw[uq hx.choose_spec h]
   have l1:ys.length=its.length:=by rw[rr.length,rv.length]
   have at_:∀j (hj:j < its.length),Pz its[j] (ys.getD j .non):=fun j hj=>by
    obtain⟨v1,q1,q2,_⟩:=rr.vals rv hj;exact⟨jaQ c2,jvt jbH d2,v1,q1,q2⟩
   refine⟨ef,fun z hz=>?_,?_⟩
   ·have hz:z∈its:=by simpa using hz
    obtain⟨j,hj,rfl⟩:=List.getElem_of_mem hz;have hp:=at_ j hj;rw[efE hp];obtain⟨a1,a2,v0,a3,a4⟩:=hp;exact(jgx hZ I 12 (A:=X.A.in1) a2 (by show X.A.units + 1 + 12 < cLine;omega) (.inl a3) hd a4 rx a1 c1).2
   ·rw[<-Array.any_toList];have hmap:its.map ef=ys.map fun z=>eqD z d:=by
     apply List.ext_getElem
     ·simp[l1]
     ·intro j h1 h2;rw[List.getElem_map,List.getElem_map];have h1:j < its.length:=by simpa using h1
      have:=efE (at_ j h1);rw[this,juS,juK (by omega)]
      rfl
    have e1:its.any ef=(its.map ef).any id:=by rw[List.any_map];rfl
    have e2:(ys.any fun z=>eqD z d)=(ys.map fun z=>eqD z d).any id:=by rw[List.any_map];rfl
    rw[e2,<-hmap,<-e1]
  rcases hq with hq | hq
  ·obtain⟨its,rv,pl,_⟩:=I.list (show SqL X.K H p vs by rw[hZ];exact hq)
   obtain⟨ef,f1,f2⟩:=hj its rv;cases neg with
   |false=>exact SeqAt.in_listAt ef pl.isList f1 (by rw[f2];exact q)
   |true=>exact SeqAt.notIn_listAt ef pl.isList f1 (by rw[f2];exact q)
  ·obtain⟨its,rv,pl,_⟩:=I.tuple (show SqT X.K H p vs by rw[hZ];exact hq)
   obtain⟨ef,f1,f2⟩:=hj its rv;cases neg with
   |false=>exact SeqAt.in_tupleAt ef (show s.heap.IsTuple p its.toArray from pl) f1 (by rw[f2];exact q)
   |true=>exact SeqAt.notIn_tupleAt ef (show s.heap.IsTuple p its.toArray from pl) f1 (by rw[f2];exact q)
 ·cases hb
open SeqAt in
theorem jsZ (hZ:X.K=Z.K)(I:Inv X pins σ H s){A:Around}{d e:D}{v w:V}{u u':Value}(hn:jcP d<=12)(hu:A.units + 13 < cLine)(hd:RepB Z F H d v)(he:RepB Z F H e w)(rv:RelV v u)(rw':RelV w u')(cd:jbF d=true)(ce:jbF e=true):RcNeAt A s u u' (!eqD d e):=by
 have hu0:A.units < cLine:=by omega
 have items:∀{ds es:List D}{vs vs':List V}{its its':List Value},Reps Z F H ds vs->Vals vs its->Reps Z F H es vs'->Vals vs' its'->deeps ds<=12->cmpDs ds=true->cmpDs es=true->∀j (h1:j < its.toArray.size) (h2:j < its'.toArray.size),EqAt A.in1 s its.toArray[j] its'.toArray[j] (eqD (ds.getD j .non) (es.getD j .non)):=fun rr rs rr' rs' hdp cds ces j h1 h2=>by
  obtain⟨v1,q1,q2,_⟩:=rr.vals rs (j:=j) (by simpa using h1)
  obtain⟨v2,q3,q4,_⟩:=rr'.vals rs' (j:=j) (by simpa using h2)
  exact(jgx hZ I 12 (jvt jbH hdp) (by show A.units + 1 + 12 < cLine;omega) (.inl q1) (.inl q3) (by simpa using q2) (by simpa using q4) (jaQ cds) (jaQ ces)).2
 cases d with
 |non=>
  cases hd.non;cases rv;cases e with
  |non=>
   cases he.non;cases rw';exact RcNeAt.none_none
  |bl y=>
   cases he.bl;cases rw';exact RcNeAt.none_bool y
  |int y=>
   cases he.int;obtain⟨t2,rfl⟩:=rw';exact RcNeAt.none_int y t2
  |str y=>
   cases he.str;obtain⟨t2,rfl⟩:=rw';exact RcNeAt.none_str y t2
  |tup y=>
   obtain⟨a2,vs2,its2,rfl,rr2,rs2,p2⟩:=he.isTup hZ I rw';exact RcNeAt.none_tuple p2 hu0
  |lst y=>
   obtain⟨a2,vs2,its2,rfl,rr2,rs2,p2⟩:=he.isLst hZ I rw';exact RcNeAt.none_list p2 hu0
  |dct _ _=>cases ce
  |exc _=>cases ce
 |bl x=>
  cases hd.bl;cases rv;cases e with
  |non=>
   cases he.non;cases rw';exact RcNeAt.bool_none x
  |bl y=>
   cases he.bl;cases rw';exact RcNeAt.bool_bool x y
  |int y=>
   cases he.int;obtain⟨t2,rfl⟩:=rw';exact RcNeAt.bool_int x y t2
  |str y=>
   cases he.str;obtain⟨t2,rfl⟩:=rw';exact RcNeAt.bool_str x y t2
  |tup y=>
   obtain⟨a2,vs2,its2,rfl,rr2,rs2,p2⟩:=he.isTup hZ I rw';exact RcNeAt.bool_tuple x p2 hu0
  |lst y=>
   obtain⟨a2,vs2,its2,rfl,rr2,rs2,p2⟩:=he.isLst hZ I rw';exact RcNeAt.bool_list x p2 hu0
  |dct _ _=>cases ce
  |exc _=>cases ce
 |int x=>
  cases hd.int;obtain⟨t1,rfl⟩:=rv;cases e with
  |non=>
   cases he.non;cases rw';exact RcNeAt.int_none x t1
  |bl y=>
   cases he.bl;cases rw';exact RcNeAt.int_bool x t1 y
  |int y=>
   cases he.int;obtain⟨t2,rfl⟩:=rw';exact RcNeAt.int_int x t1 y t2
  |str y=>
   cases he.str;obtain⟨t2,rfl⟩:=rw';exact RcNeAt.int_str x t1 y t2
  |tup y=>
   obtain⟨a2,vs2,its2,rfl,rr2,rs2,p2⟩:=he.isTup hZ I rw';exact RcNeAt.int_tuple x t1 p2 hu0
  |lst y=>
   obtain⟨a2,vs2,its2,rfl,rr2,rs2,p2⟩:=he.isLst hZ I rw';exact RcNeAt.int_list x t1 p2 hu0
  |dct _ _=>cases ce
  |exc _=>cases ce
 |str x=>
  cases hd.str;obtain⟨t1,rfl⟩:=rv;cases e with
  |non=>
   cases he.non;cases rw';exact RcNeAt.str_none x t1
  |bl y=>
   cases he.bl;cases rw';exact RcNeAt.str_bool x t1 y
  |int y=>
   cases he.int;obtain⟨t2,rfl⟩:=rw';exact RcNeAt.str_int x t1 y t2
  |str y=>
   cases he.str;obtain⟨t2,rfl⟩:=rw';exact RcNeAt.str_str x t1 y t2
  |tup y=>
   obtain⟨a2,vs2,its2,rfl,rr2,rs2,p2⟩:=he.isTup hZ I rw';exact RcNeAt.str_tuple x t1 p2 hu0
  |lst y=>
   obtain⟨a2,vs2,its2,rfl,rr2,rs2,p2⟩:=he.isLst hZ I rw';exact RcNeAt.str_list x t1 p2 hu0
  |dct _ _=>cases ce
  |exc _=>cases ce
 |tup x=>
  obtain⟨a1,vs1,its1,rfl,rr1,rs1,p1⟩:=hd.isTup hZ I rv;cases e with
  |non=>
   cases he.non;cases rw';exact RcNeAt.tuple_none p1 hu0
  |bl y=>
   cases he.bl;cases rw';exact RcNeAt.tuple_bool y p1 hu0
  |int y=>
   cases he.int;obtain⟨t2,rfl⟩:=rw';exact RcNeAt.tuple_int y t2 p1 hu0
  |str y=>
   cases he.str;obtain⟨t2,rfl⟩:=rw';exact RcNeAt.tuple_str y t2 p1 hu0
  |tup y=>
   obtain⟨a2,vs2,its2,rfl,rr2,rs2,p2⟩:=he.isTup hZ I rw';simp only[jbF]at cd ce;simp only[jcP]at hn;have l1:x.length=its1.length:=by rw[rr1.length,rs1.length]
   have l2:y.length=its2.length:=by rw[rr2.length,rs2.length]
   have:=RcNeAt.tuples (A:=A) (e:=fun j=>eqD (x.getD j .non) (y.getD j .non)) p1 p2 hu0 (items rr1 rs1 rr2 rs2 (by omega) cd ce)
   simp only[eqD];rw[jbw,Bool.and_comm];simp only[juO,<-l1,<-l2]at this;have e2:(x.length == y.length)=decide (x.length=y.length):=by rw[Bool.beq_eq_decide_eq]
   rw[<-e2];exact this
  |lst y=>
   obtain⟨a2,vs2,its2,rfl,rr2,rs2,p2⟩:=he.isLst hZ I rw';exact RcNeAt.tuple_list p1 p2 hu0
  |dct _ _=>cases ce
  |exc _=>cases ce
 |lst x=>
  obtain⟨a1,vs1,its1,rfl,rr1,rs1,p1⟩:=hd.isLst hZ I rv;cases e with
  |non=>
   cases he.non;cases rw';exact RcNeAt.list_none p1 hu0
  |bl y=>
   cases he.bl;cases rw';exact RcNeAt.list_bool y p1 hu0
  |int y=>
   cases he.int;obtain⟨t2,rfl⟩:=rw';exact RcNeAt.list_int y t2 p1 hu0
  |str y=>
   cases he.str;obtain⟨t2,rfl⟩:=rw';exact RcNeAt.list_str y t2 p1 hu0
  |tup y=>
   obtain⟨a2,vs2,its2,rfl,rr2,rs2,p2⟩:=he.isTup hZ I rw';exact RcNeAt.list_tuple p1 p2 hu0
  |lst y=>
   obtain⟨a2,vs2,its2,rfl,rr2,rs2,p2⟩:=he.isLst hZ I rw';simp only[jbF]at cd ce;simp only[jcP]at hn;have l1:x.length=its1.length:=by rw[rr1.length,rs1.length]
   have l2:y.length=its2.length:=by rw[rr2.length,rs2.length]
   by_cases hsz:its1.length=its2.length
   ·have:=RcNeAt.lists (A:=A) (e:=fun j=>eqD (x.getD j .non) (y.getD j .non)) p1 p2 (by simpa using hsz) hu0 (items rr1 rs1 rr2 rs2 (by omega) cd ce)
    simp only[eqD];have hl:x.length=y.length:=by omega
    rw[jbw,decide_eq_true hl,Bool.true_and,<-hl,Nat.min_self];simp only[juO,<-l1]at this;exact this
   ·have:=RcNeAt.lists_lengths (A:=A) p1 p2 (by simpa using hsz) hu0
    simp only[eqD];rw[jbw,decide_eq_false (by omega),Bool.false_and]
    exact this
  |dct _ _=>cases ce
  |exc _=>cases ce
 |dct _ _=>cases cd
 |exc _=>cases cd
theorem jrq (hZ:X.K=Z.K)(hu:X.A.units + 64 < cLine)(I:Inv X pins σ H s){d e:D}{x y:V}{u w:Value}{b:Bool}(hd:RepB Z F H d x)(he:RepB Z F H e y)(rx:RelV x u)(ry:RelV y w)(hb:eqR d e=.ok b){Q:Value->Shared->Prop}{E:Value->Shared->Prop}(q:Q (.bool (!b)) s) :
  wpAny (model X.prog X.w) X.A (compareOp .NotEq u w) Q E s:=by
 obtain⟨rfl,c1,c2,d1,d2⟩:=jnO hb;exact jsZ hZ I d1 (by omega) hd he rx ry c1 c2 X.prog X.w E Q q
theorem js0 (hZ:X.K=Z.K)(hu:X.A.units + 64 < cLine)(o:Cm):OpR X (compareOp o.py) (rD2 Z (bD (cmD o))):=by
 intro pins s σ H x y v u Q I rx ry h;obtain⟨F,dx,dy,w,dm,bx,by_,hw,h⟩:=h;unfold bD at hw;obtain⟨c,hc,hw⟩:=R.bind_ok hw;cases hw;have fin:∀k:Bool,k=c->EP X pins σ Q (.bool k) s:=fun k e=>by subst e;exact⟨.bl k,H,I,rfl,h.bl dm⟩
 have isn:isN dx=decide (x=.non):=by
  cases dx with
  |non=>cases bx.non;rfl
  |bl b=>cases bx.bl;rfl
  |int b=>cases bx.int;rfl
  |str b=>cases bx.str;rfl
  |tup b=>obtain⟨a,vs,rfl,_⟩:=bx.tup;rfl
  |lst b=>obtain⟨a,vs,rfl,_⟩:=bx.lst;rfl
  |dct ks vs=>obtain⟨a,rfl,_⟩:=bx.dct;rfl
  |exc b=>
   have:=bx.flat (fun o z=>by cases o <;> cases z)
   simp only[Rep]at this;obtain⟨a,C,rfl,_⟩:=this;rfl
 cases o with
 |eq=>exact jrp hZ hu I bx by_ rx ry hc (fin _ rfl)
 |ne=>
  obtain⟨b,hb,hc⟩:=R.bind_ok hc;cases hc;exact jrq hZ hu I bx by_ rx ry hb (fin _ rfl)
 |lt=>
  have hc:ltD dx dy=.ok c:=hc;unfold ltD at hc;split at hc
  ·cases hc;cases bx.int;cases by_.int;exact jsF pins s σ H _ _ v u Q I rx ry ⟨_,_,rfl,rfl,h.bl dm⟩
  ·split at hc
   ·rename_i as bs ns ms e1 e2;cases hc;obtain⟨a,vs,rfl,ft,ra⟩:=bx.tup;obtain⟨b,us,rfl,fu,rb⟩:=by_.tup;cases jcf e1 ra;cases jcf e2 rb;refine jqY (by omega) pins s σ H _ _ v u Q I rx ry ⟨a,b,ns,ms,rfl,rfl,(by rw[hZ];exact ft.sq),(by rw[hZ];exact fu.sq),?_⟩
    rw[<-jhy];exact h.bl dm
   ·cases hc
  ·cases hc
 |gt=>
  obtain⟨_,_,rfl,rfl,rfl⟩:=jgy hc;cases bx.int;cases by_.int;exact jsH pins s σ H _ _ v u Q I rx ry ⟨_,_,rfl,rfl,h.bl dm⟩
 |le=>
  obtain⟨_,_,rfl,rfl,rfl⟩:=jgy hc;cases bx.int;cases by_.int;exact jsG pins s σ H _ _ v u Q I rx ry ⟨_,_,rfl,rfl,h.bl dm⟩
 |ge=>
  obtain⟨_,_,rfl,rfl,rfl⟩:=jgy hc;cases bx.int;cases by_.int;exact jsI pins s σ H _ _ v u Q I rx ry ⟨_,_,rfl,rfl,h.bl dm⟩
 |isn=>
  have hc:(if isN dy then .ok (isN dx)else .stk:R Bool)=.ok c:=hc;split at hc
  ·rename_i hn;cases jnN hn;cases hc;cases by_.non;refine jqT pins s σ H _ _ v u Q I rx ry ⟨rfl,?_⟩;rw[<-isn];exact h.bl dm
  ·cases hc
 |notn=>
  have hc:(if isN dy then .ok (!isN dx)else .stk:R Bool)=.ok c:=hc;split at hc
  ·rename_i hn;cases jnN hn;cases hc;cases by_.non;refine jol pins s σ H _ _ v u Q I rx ry ⟨rfl,?_⟩;rw[<-isn];exact h.bl dm
  ·cases hc
 |isin=>exact jnP hZ hu I bx by_ rx ry hc false (fin _ rfl)
 |notin=>
  obtain⟨b,hb,hc⟩:=R.bind_ok hc;cases hc;exact jnP hZ hu I bx by_ rx ry hb true (fin _ rfl)
end
end DJ
namespace L2
open PySem PySem.Spec PyProof.Rows
section
variable {X:Cx}
theorem jgz {ns:List Int}{its:List Value}(rv:Vals (ns.map V.int) its):∀i v,its[i]?=some v->∃t,v=Value.int (ns.getD i 0) t:=fun i v hP=>by
 have hlen:=rv.length;have hi:i < ns.length:=by have:=(List.getElem?_eq_some_iff.mp hP).1;rw[juT]at hlen;omega
 obtain⟨u,e1,e2⟩:=rv.get (i:=i) (x:=.int ns[i]) (by rw[juQ,juK hi];rfl)
 rw[hP]at e1;cases e1;obtain⟨t,e⟩:=e2;refine⟨t,?_⟩;rw[e,juS,juK hi];rfl
theorem jdi (ns:List Int):∀k,k<=ns.length->preSum (fun i=>ns.getD i 0) k=(ns.take k).sum
 |0,_=>by simp[preSum]
 |k + 1,h=>by
  rw[preSum,jdi ns k (by omega),List.take_succ_eq_append_getElem (by omega),List.sum_append]
  simp[juS,juK (show k < ns.length by omega)]
theorem jmn (hc:X.calm=true):CallR X (.builtin "sum") (fun xs H Q=>∃(p:Addr) (ns:List Int),xs=[.ref p]/\(SqL X.K H p (ns.map V.int)\/SqT X.K H p (ns.map V.int))/\Q (.int ns.sum) H):=by
 intro pins s σ H xs us Q I r h;obtain⟨p,ns,rfl,hq,q⟩:=h;obtain⟨u,rfl,rx⟩:=jcz r;cases rx;have hA:X.A.in1.handled=none:=I.ok.hd hc;refine call_sum_walkG (jed hc I hq hA fun its I' fp wr St h2 rv W st hfp back=>⟨I',fp,wr,_,_,St,fun i=>ns.getD i 0,rfl,W,st,hfp,jgz rv,fun h' tk t' kp=>?_⟩);refine⟨.int ns.sum,H,back h' tk kp,⟨t',?_⟩,q⟩;rw[juT,jdi ns _ (jvq _),List.take_length]
end
end L2
namespace DJ
open PySem PySem.Spec PyProof.Rows L2
theorem jcg {Z:Kn}{F:Addr->Prop}{H:Hp}:∀{ds:List D}{bs:List Bool}{vs:List V},jau ds=some bs->Reps Z F H ds vs->vs.map trV=bs.map some
 |[],ns,vs,h,r=>by simp only[Reps]at r;subst r;cases h;rfl
 |d::ds,ns,vs,h,r=>by
  simp only[Reps]at r;obtain⟨v,us,rfl,r1,r2⟩:=r;cases d with
  |int i=>
   simp only[jau]at h;cases q:jau ds with
   |none=>rw[q]at h;cases h
   |some ms=>
    rw[q]at h;cases h;simp only[Rep]at r1;subst r1;rw[juR,juR,jcg q r2];rfl
  |bl i=>
   simp only[jau]at h;cases q:jau ds with
   |none=>rw[q]at h;cases h
   |some ms=>
    rw[q]at h;cases h;simp only[Rep]at r1;subst r1;rw[juR,juR,jcg q r2];rfl
  |_=>cases h
section
variable {Z:Kn}{X:Cx}
theorem jim (hZ:X.K=Z.K){H:Hp}{p:Addr}{vs:List V}(h:SqL Z.K H p vs\/SqT Z.K H p vs):SqL X.K H p vs\/SqT X.K H p vs:=by rw[hZ];exact h
theorem jrr (hZ:X.K=Z.K):∀x H Q,rD1 Z (bfD .len) x H Q->(fun xs H Q=>(∃p ys,xs=[.ref p]/\(SqL X.K H p ys\/SqT X.K H p ys)/\Q (.int ys.length) H)\/(∃z,xs=[.str z]/\z.length<=sizeLine/\Q (.int z.length) H):List V->Hp->VK->Prop) [x] H Q:=by
 intro x H Q hz1;obtain⟨F,d,w,dm,rp,hw,h⟩:=hz1;have key:∀xs,jaA d=.ok xs->w=.dat (.int xs.length)->(fun xs H Q=>(∃p ys,xs=[.ref p]/\(SqL X.K H p ys\/SqT X.K H p ys)/\Q (.int ys.length) H)\/(∃z,xs=[.str z]/\z.length<=sizeLine/\Q (.int z.length) H):List V->Hp->VK->Prop) [x] H Q:=fun xs hs e=>by
  subst e;obtain⟨p,vs,rfl,q,r⟩:=jb4 rp hs;refine .inl ⟨p,vs,rfl,jim hZ q,?_⟩;rw[<-r.length];exact h.int dm
 cases d with
 |str z=>
  simp only[bfD]at hw;split at hw
  ·rename_i hf;cases hw;cases rp.str;exact .inr ⟨z,rfl,jbj hf,h.int dm⟩
  ·cases hw
 |tup xs=>simp only[bfD,jaA,R.bind_ok']at hw;cases hw;exact key xs rfl rfl
 |lst xs=>simp only[bfD,jaA,R.bind_ok']at hw;cases hw;exact key xs rfl rfl
 |_=>simp only[bfD,jaA]at hw;cases hw
theorem jmo (hZ:X.K=Z.K):∀x H Q,rD1 Z (bfD .tuple) x H Q->(fun xs H Q=>∃p ys,xs=[.ref p]/\((SqL X.K H p ys/\∀l,H l=none->Q (.ref l) (upd H l (.tup ys)))\/(SqT X.K H p ys/\Q (.ref p) H)):List V->Hp->VK->Prop) [x] H Q:=by
 intro x H Q hz1;obtain⟨F,d,w,dm,rp,hw,h⟩:=hz1;simp only[bfD]at hw;obtain⟨xs,hs,hw⟩:=R.bind_ok hw;cases hw;cases d with
 |tup ds=>
  cases hs;obtain⟨a,vs,rfl,ft,r⟩:=rp.tup;exact⟨a,vs,rfl,.inr ⟨by rw[hZ];exact ft.sq,h.tupOld dm ft r⟩⟩
 |lst ds=>
  cases hs;obtain⟨a,vs,rfl,ft,r⟩:=rp.lst;exact⟨a,vs,rfl,.inl ⟨by rw[hZ];exact ft,h.tup dm r⟩⟩
 |_=>cases hs
theorem jo8 (hZ:X.K=Z.K):∀x H Q,rD1 Z (bfD .list) x H Q->(fun xs H Q=>∃p ys,xs=[.ref p]/\(SqL X.K H p ys\/SqT X.K H p ys)/\∀l,H l=none->Q (.ref l) (upd H l (.lst ys)):List V->Hp->VK->Prop) [x] H Q:=by
 intro x H Q hz1;obtain⟨F,d,w,dm,rp,hw,h⟩:=hz1;simp only[bfD]at hw;obtain⟨xs,hs,hw⟩:=R.bind_ok hw;cases hw;obtain⟨p,vs,rfl,q,r⟩:=jb4 rp hs;exact⟨p,vs,rfl,jim hZ q,h.lst dm r⟩
theorem jnQ (hZ:X.K=Z.K)(all:Bool):∀x H Q,rD1 Z (bfD (if all then .all else .any)) x H Q->(fun xs H Q=>∃(p:Addr) (ys:List V) (bs:List Bool),xs=[.ref p]/\(SqL X.K H p ys\/SqT X.K H p ys)/\ys.map trV=bs.map some/\Q (.bl (if all then bs.all id else bs.any id)) H:List V->Hp->VK->Prop) [x] H Q:=by
 intro x H Q hz1;obtain⟨F,d,w,dm,rp,hw,h⟩:=hz1;cases all with
 |true=>
  simp only[if_true,bfD]at hw;obtain⟨xs,hs,hw⟩:=R.bind_ok hw;obtain⟨p,vs,rfl,q,r⟩:=jb4 rp hs;cases e:jau xs with
  |none=>rw[e]at hw;cases hw
  |some bs=>rw[e]at hw;cases hw;exact⟨p,vs,bs,rfl,jim hZ q,jcg e r,h.bl dm⟩
 |false=>
  simp only[jvw,if_false,bfD]at hw;obtain⟨xs,hs,hw⟩:=R.bind_ok hw;obtain⟨p,vs,rfl,q,r⟩:=jb4 rp hs;cases e:jau xs with
  |none=>rw[e]at hw;cases hw
  |some bs=>rw[e]at hw;cases hw;exact⟨p,vs,bs,rfl,jim hZ q,jcg e r,h.bl dm⟩
theorem jrs (hZ:X.K=Z.K):∀x H Q,rD1 Z (bfD .sum) x H Q->(fun xs H Q=>∃(p:Addr) (ns:List Int),xs=[.ref p]/\(SqL X.K H p (ns.map V.int)\/SqT X.K H p (ns.map V.int))/\Q (.int ns.sum) H:List V->Hp->VK->Prop) [x] H Q:=by
 intro x H Q hz1;obtain⟨F,d,w,dm,rp,hw,h⟩:=hz1;simp only[bfD]at hw;obtain⟨xs,hs,hw⟩:=R.bind_ok hw;obtain⟨p,vs,rfl,q,r⟩:=jb4 rp hs;cases e:jaY xs with
 |none=>rw[e]at hw;cases hw
 |some ns=>
  rw[e]at hw;cases hw;cases jcf e r;exact⟨p,ns,rfl,jim hZ q,h.int dm⟩
noncomputable def jgA:R Vl->Prop
 |.ok (.slot _)=>False
 |.err _=>False
 |_=>True
theorem jdX (kss:List (List Int)):jgA (jet kss):=by
 unfold jet;split <;> trivial
theorem jfE {c:Prop}[Decidable c]{r:R Vl}(h:jgA r):jgA (if c then r else .stk):=by
 split
 ·exact h
 ·trivial
theorem jaR {d:D}{f:List D->R Vl}(h:∀xs,jgA (f xs)):jgA ((jaA d).bind f):=by
 cases d with
 |tup xs=>exact h xs
 |lst xs=>exact h xs
 |_=>trivial
theorem jfF (f:Bf)(x:D):jgA (bfD f x):=by
 cases f with
 |abs=>cases x <;> trivial
 |int=>cases x <;> trivial
 |len=>cases x with
  |str x=>exact jfE trivial
  |_=>trivial
 |tuple=>exact jaR fun _=>trivial
 |list=>exact jaR fun _=>trivial
 |all=>
  refine jaR fun xs=>?_;cases jau xs <;> trivial
 |any=>
  refine jaR fun xs=>?_;cases jau xs <;> trivial
 |sum=>
  refine jaR fun xs=>?_;cases jaY xs <;> trivial
 |min=>
  refine jaR fun xs=>?_;cases jaY xs with
  |none=>trivial
  |some ns=>cases ns <;> trivial
 |max=>
  refine jaR fun xs=>?_;cases jaY xs with
  |none=>trivial
  |some ns=>cases ns <;> trivial
 |sorted=>cases x with
  |lst xs=>
   show jgA (match jbc xs with | some kss=>jet kss | none=>.stk)
   cases jbc xs with
   |none=>trivial
   |some k=>exact jdX k
  |_=>trivial
 |ssorted=>
  refine jaR fun xs=>?_;cases jbc xs with
  |none=>trivial
  |some k=>exact jfE (jdX _)
 |revl=>cases x <;> trivial
 |revt=>cases x <;> trivial
theorem jo9 {f:Bf}{x:D}{c:Nat}:bfD f x≠.err c:=by
 intro h;have:=jfF f x;rw[h]at this;exact this
theorem jmp {f:Bf}{x:D}{i:Nat}:bfD f x≠.ok (.slot i):=by
 intro h;have:=jfF f x;rw[h]at this;exact this
end
end DJ
namespace DJ
open PySem PySem.Spec PyProof.Rows L2
structure Tab where
 defs:List Str
 flags:List (List Bool)
 cons:List (Str×D)
 excs:List Str
 quiet:Bool
noncomputable def knd (sc:List (Str×NameKind))(x:Str):Nat:=match sc.lookup x with
 |some .local=>1
 |some .cell=>1
 |some .free=>1
 |some .globalImplicit=>2
 |_=>0
noncomputable def jdx (N:List Str)(x:Str):Option Nat:=N.findIdx? (· == x)
noncomputable def mapO {α β:Type}(f:α->Option β):List α->Option (List β)
 |[]=>some []
 |a::as=>match f a,mapO f as with
  |some b,some bs=>some (b::bs)
  |_,_=>none
section
variable {α β γ δ ε:Type}
theorem jaf {a:α}{p:Prop}(h:(none:Option α)=some a):p:=nomatch h
theorem jap {a:Option α}{f:α->γ}{c:γ}(h:a.map f=some c):∃x,a=some x/\f x=c:=Option.map_eq_some_iff.mp h
theorem jae {a:Option α}{f:α->Option γ}{c:γ}(h:a.bind f=some c):∃x,a=some x/\f x=some c:=Option.bind_eq_some_iff.mp h
noncomputable def o2 (a:Option α)(b:Option β)(f:α->β->γ):Option γ:=a.bind fun x=>b.map (f x)
theorem jbI {a:Option α}{b:Option β}{f:α->β->γ}{c:γ}(h:o2 a b f=some c):∃x y,a=some x/\b=some y/\f x y=c:=by
 obtain⟨x,h1,h⟩:=jae h;obtain⟨y,h2,h⟩:=jap h;exact⟨x,y,h1,h2,h⟩
noncomputable def o3 (a:Option α)(b:Option β)(c:Option γ)(f:α->β->γ->δ):Option δ:=a.bind fun x=>o2 b c (f x)
theorem jcS {a:Option α}{b:Option β}{c:Option γ}{f:α->β->γ->δ}{d:δ}(h:o3 a b c f=some d):∃x y z,a=some x/\b=some y/\c=some z/\f x y z=d:=by
 obtain⟨x,h1,h⟩:=jae h;obtain⟨y,z,h⟩:=jbI h;exact⟨x,y,z,h1,h⟩
noncomputable def o4 (a:Option α)(b:Option β)(c:Option γ)(d:Option δ)(f:α->β->γ->δ->ε):Option ε:=a.bind fun x=>o3 b c d (f x)
theorem jnR {a:Option α}{b:Option β}{c:Option γ}{d:Option δ}{f:α->β->γ->δ->ε}{e:ε}(h:o4 a b c d f=some e):∃x y z w,a=some x/\b=some y/\c=some z/\d=some w/\f x y z w=e:=by
 obtain⟨x,h1,h⟩:=jae h;obtain⟨y,z,w,h⟩:=jcS h;exact⟨x,y,z,w,h1,h⟩
noncomputable def gd (b:Bool)(o:Option α):Option α:=if b then none else o
theorem jak {b:Bool}{o:Option α}{c:α}(h:gd b o=some c):b=false/\o=some c:=by
 cases b with
 |true=>exact jaf h
 |false=>exact⟨rfl,h⟩
noncomputable def alt (b:Bool)(o o':Option α):Option α:=if b then o else o'
theorem jaw {b:Bool}{o o':Option α}{c:α}(h:alt b o o'=some c):b=true/\o=some c\/o'=some c:=by
 cases b with
 |true=>exact .inl ⟨rfl,h⟩
 |false=>exact .inr h
noncomputable def jpa (a:Option α)(f:α->Option β)(r:Option β):Option β:=match a with
 |some x=>f x
 |none=>r
theorem jbQ {a:Option α}{f:α->Option β}{r:Option β}{c:β}(h:jpa a f r=some c):(∃x,a=some x/\f x=some c)\/r=some c:=by
 cases a with
 |some x=>exact .inl ⟨x,rfl,h⟩
 |none=>exact .inr h
noncomputable def ji0:List α->Option α
 |[a]=>some a
 |_=>none
theorem jaL {as:List α}{a:α}(h:ji0 as=some a):as=[a]:=by
 cases as with
 |nil=>exact jaf h
 |cons x r=>
  cases r with
  |nil=>cases h;rfl
  |cons y r=>exact jaf h
noncomputable def js1:List α->Option (α×α)
 |[a,b]=>some (a,b)
 |_=>none
theorem jhz {as:List α}{p:α×α}(h:js1 as=some p):as=[p.1,p.2]:=by
 cases as with
 |nil=>exact jaf h
 |cons x r=>
  cases r with
  |nil=>exact jaf h
  |cons y r=>
   cases r with
   |nil=>cases h;rfl
   |cons z r=>exact jaf h
theorem jbe {as:List α}(h:(!as.isEmpty)=false):as=[]:=by
 cases as with
 |nil=>rfl
 |cons a r=>cases h
theorem jbE {a b:Bool}(h:(a || b)=false):a=false/\b=false:=by
 cases a with
 |true=>cases h
 |false=>exact⟨rfl,h⟩
theorem jch {a:Bool}(h:(!a)=false):a=true:=by
 cases a with
 |true=>rfl
 |false=>cases h
end
theorem jgB {a b:Nat}(h:(a != b)=false):a=b:=by simpa using h
theorem jdj {a b:Str}(h:(a == b)=true):a=b:=by simpa using h
noncomputable def jin:Expr->Option Str
 |.Name x _=>some x
 |_=>none
theorem ja3 {e:Expr}{x:Str}(h:jin e=some x):∃p,e=.Name x p:=by
 cases e with
 |Name y p=>cases h;exact⟨p,rfl⟩
 |_=>exact jaf h
noncomputable def jmq:Expr->Option (List Expr)
 |.Tuple es _ _=>some es
 |_=>none
theorem jdk {e:Expr}{p:List Expr}(h:jmq e=some p):∃k q,e=.Tuple p k q:=by
 cases e with
 |Tuple es k q=>cases h;exact⟨k,q,rfl⟩
 |_=>exact jaf h
noncomputable def jhA:List E->Es
 |[]=>.nil
 |e::es=>.cons e (jhA es)
noncomputable def jdY (x:Str):Bool:=x == "__debug__" || x == "__classdict__" || x == "__name__"
noncomputable def bltNames:List Str:=["isinstance","len","tuple","list","all","any","range","int","bool","str","dict","sum","min","max","sorted","set","abs","reversed","zip","ValueError"]
inductive CXD_I (P:Program) (w:World) (outer:List PySem.Env) (H:L2.Hp) (s:PySem.Shared) (E:L2.XK) (e:PySem.Value) (s':PySem.Shared):Prop
 |mk (ea:Addr) (cls:Value) (a0:Value) (H':Hp) (B:Heap):(e=.ref ea)->(s'.os=s.os)->(AllBare s'.gens)->(Un (frs outer) [] H H' s.heap s'.heap)->(HOk P w H' s'.heap)->(Heap.FlyingW B outer ea cls a0 s'.heap)->((∀b o,s.heap.get? b=some o->b ∉ frs outer->∃o',B.get? b=some o'))->((∀a o,H' a=some o->∃o',B.get? a=some o'))->(H' ea=none)->(E cls none H')->CXD_I P w outer H s E e s'
noncomputable def CXD (P:Program)(w:World):CXT:=fun outer H s E e s'=>CXD_I P w outer H s E e s'
inductive spD_I (Z:Kn) (G:Calls) (i:Nat) (vs:List L2.V) (H:L2.Hp) (Q:L2.VK) (E:L2.XK):Prop
 |mk (B:Bs) (F:Addr->Prop) (sls:List Sl):(SR Z B F H (vs.map some) sls)->(B.hp=H)->((∀(k:Nat) (l:Addr),B.lent k=some l->(vs.map some)[k]?=some (some (.ref l))))->(Ok (fun c=>∀C H',Z.cl[c]?=some C->Stl (vs.map some) sls H H'->E (.ref C) none H') (G i sls) fun r=>∀v F' H',(∀i,r.1≠.slot i)->Go (vs.map some) sls F H (vs.map some) r.2 F' H'->SR Z B F' H' (vs.map some) r.2->RV Z F' H H' (vs.map some) r.2 r.1 v->Q v H')->spD_I Z G i vs H Q E
noncomputable def spD (Z:Kn)(G:Calls)(i:Nat):Sp:=fun vs H Q E=>spD_I Z G i vs H Q E
structure XD (T:Tab)(G:Calls)(U:Nat->Nat->Bool)(Z:Kn)(n:Nat)(X:Cx)(sc:List (Str×NameKind)):Prop where
 hK:X.K=Z.K
 calm:T.quiet=false->X.calm=true
 nd:X.N.Nodup
 room:T.quiet=false->Room n X.A
 un:X.A.units + 64 < cLine
 sc:∀x,X.env.scope.names.lookup x=sc.lookup x\/(sc.lookup x=some .free/\X.env.scope.names.lookup x=some .cell)
 blt:∀x∈bltNames,X.mg x=none
 defs:∀(i:Nat) (nm:Str),T.defs[i]?=some nm->∃f fd ps,X.mg nm=some (.ref f)/\jvB X.K (.ref f)=true/\Binds X.K fd ps []/\FnOk X.prog X.w X.K X.mg X.base (CXD X.prog X.w) n f fd ps (spD Z G i)
 cons:∀x d,T.cons.lookup x=some d->∃u v,X.mg x=some u/\RelV v u/\∀F H,Rep Z F H d v
 excs:∀(i:Nat) (nm:Str),T.excs[i]?=some nm->∃C,Z.cl[i]?=some C/\X.mg nm=some (.ref C)
 ecl:∀C∈Z.cl,ECls X.K C
 sub:∀(i j:Nat) (C D:Addr),Z.cl[i]?=some C->Z.cl[j]?=some D->jvy X.K C (.ref D)=some (U i j)
section
variable {T:Tab}{G:Calls}{U:Nat->Nat->Bool}{Z:Kn}{n:Nat}{X:Cx}{sc:List (Str×NameKind)}
theorem XD.vis (D:XD T G U Z n X sc){x:Str}(h:knd sc x=1):Vis X.env.scope x:=by
 have h':sc.lookup x=some .local\/sc.lookup x=some .cell\/sc.lookup x=some .free:=by
  unfold knd at h;split at h <;> simp_all
 unfold Vis;rcases D.sc x with e | ⟨_,e⟩
 ·rw[e];exact h'
 ·exact .inr (.inl e)
theorem XD.gl (D:XD T G U Z n X sc){x:Str}(h:knd sc x=2):Gl X x:=by
 have h':sc.lookup x=some .globalImplicit:=by
  unfold knd at h;split at h <;> simp_all
 show X.env.scope.names.lookup x=some .globalImplicit;rcases D.sc x with e | ⟨e,_⟩
 ·rw[e];exact h'
 ·rw[h']at e;cases e
end
theorem jaE {N:List Str}{x:Str}{i:Nat}(h:jdx N x=some i):N[i]?=some x:=by
 unfold jdx at h;obtain⟨hi,h1,_⟩:=List.findIdx?_eq_some_iff_getElem.mp h;rw[juK hi];simpa using h1
theorem jay {α β:Type}{f:α->Option β}{a:α}{as:List α}{bs:List β}(h:mapO f (a::as)=some bs):∃b bs',f a=some b/\mapO f as=some bs'/\bs=b::bs':=by
 simp only[mapO]at h;split at h
 ·rename_i b bs' h1 h2;cases h;exact⟨b,bs',h1,h2,rfl⟩
 ·cases h
theorem jad {e:Expr}{es:List Expr}{env:Env}(h:∀a p,e≠.Starred a p):starEach (e::es) env=(false,eval e env)::starEach es env:=by
 cases e <;> first | rfl | exact absurd rfl (h _ _)
theorem jcZ {pos:Pos}:∀{l:List (Bool×Sem Value)},l.any (·.1)=false->(backTo pos l).any (·.1)=false:=by
 intro l h;unfold backTo;rw[List.any_map];exact h
theorem jci {env:Env}:∀{es:List Expr},(∀e∈es,∀a p,e≠.Starred a p)->(starEach es env).any (·.1)=false
 |[],_=>rfl
 |e::es,h=>by
  rw[jad (h e juM),List.any_cons];exact jci fun x hx=>h x (juL _ hx)
theorem jez {x:Str}(h:jdY x=false):(x == ("__debug__":Str))=false/\x≠"__name__":=by
 unfold jdY at h;simp only[Bool.or_eq_false_iff]at h;refine⟨h.1.1,fun z=>?_⟩;subst z;exact absurd h.2 (by decide)
theorem jpb {x:Str}(h:jdY x=false):(x == ("__classdict__":Str))=false:=by
 unfold jdY at h;simp only[Bool.or_eq_false_iff]at h;exact h.1.2
section
variable {Z:Kn}{X:Cx}{B:Bs}{σ:L2.St}{ρ ρ1:Rho}{F F1:Addr->Prop}{H H1:Hp}
theorem tT.toE {f:Rho->R (Bool×Rho)}{Q:Bool->Hp->Prop}(h:tT Z X B f σ H Q):tE Z X B (fun ρ=>(f ρ).bind fun b=>.ok (.dat (.bl b.1),b.2)) σ H (fun x H'=>∃k,x=.bl k/\Q k H'):=by
 obtain⟨F,ρ,r,h⟩:=h;refine⟨F,ρ,r,?_⟩;show Ok _ ((f ρ).bind _) _;cases e:f ρ with
 |ok b=>
  rw[e]at h;intro v F' H' g r' q;have q:Rep Z F' H' (.bl b.1) v:=q;simp only[Rep]at q;exact⟨b.1,q,h F' H' g r'⟩
 |err c=>rw[e]at h;exact h
 |stk=>rw[e]at h;exact h
theorem jrt {K:Frag}(hK:K=Z.K){d:D}{v:V}{b:Bool}(h:RepB Z F H d v)(ht:jbD d=.ok b):jsK K v H b:=by
 cases d with
 |non=>cases h.non;cases ht;rfl
 |bl c=>cases h.bl;cases ht;rfl
 |int i=>cases h.int;cases ht;rfl
 |str s=>cases ht
 |tup ds=>
  obtain⟨a,vs,rfl,ft,r⟩:=h.tup;cases ht;refine .inr (.inl ⟨vs,(by rw[hK];exact ft.sq),?_⟩)
  have:=r.length;cases vs <;> cases ds <;> simp_all
 |lst ds=>
  obtain⟨a,vs,rfl,ft,r⟩:=h.lst;cases ht;refine .inl ⟨vs,(by rw[hK];exact ft),?_⟩
  have:=r.length;cases vs <;> cases ds <;> simp_all
 |dct _ _=>cases ht
 |exc c=>cases ht
theorem jke {d:D}{c:Nat}:jbD d≠.err c:=by cases d <;> (intro z;cases z)
noncomputable def trF (f:Rho->R (Vl×Rho))(ρ:Rho):R (Bool×Rho):=(f ρ).bind fun p=>(deref p.1 p.2).bind fun d=>(jbD d).bind fun b=>.ok (b,p.2)
theorem js2 (hK:X.K=Z.K){e:Expr}{f:Rho->R (Vl×Rho)}(h:PE X e (tE Z X B f))(he:∀whole,isTrue e X.env whole=(do let v <-whole;standAt e.pos;holding [v] (truthy v))):PT X e (tT Z X B (trF f)):=by
 refine PT.imp (jlA h he) fun σ H Q q=>?_;obtain⟨F,ρ,r,q⟩:=q;refine⟨F,ρ,r,q.bind.imp (fun _ w=>w) fun p h1 v F' H' g r' rp=>?_⟩;obtain⟨d,hd,h2⟩:=h1.bind.pure fun c=>jaO;obtain⟨b,hb,h3⟩:=h2.bind.pure fun c=>jke;exact⟨b,jrt hK (jbd rp r' hd) hb,h3 F' H' g r'⟩
theorem jru {e:Expr}:PT X e (tT Z X B fun _=>.stk):=fun _ _ _ _ _ _ h=>by
 obtain⟨_,_,_,h⟩:=h;exact False.elim h
theorem jpc {fa fb:Rho->R (Vl×Rho)}{Q:VK}(h:tE Z X B (fun ρ=>(fa ρ).bind fun p=>(jcB p.1).bind fun t=>if t then (fb p.2).bind fun q=>(jcB q.1).bind fun u=>.ok (.dat (.bl u),q.2)else .ok (.dat (.bl false),p.2)) σ H Q):jqD (tE Z X B fa) (tE Z X B fb) σ H Q:=by
 obtain⟨F,ρ,r,h⟩:=h;refine⟨F,ρ,r,h.bind.imp (fun _ w=>w) fun p h1 v F1 H1 g1 r1 q1=>?_⟩;obtain⟨w,ρ1⟩:=p;cases w with
 |dat d=>
  cases d with
  |bl b=>
   have q1:Rep Z F1 H1 (.bl b) v:=q1;simp only[Rep]at q1;subst q1;refine⟨b,rfl,?_⟩;cases b with
   |true=>
    rw[if_pos rfl];refine⟨F1,ρ1,r1,(show Ok (XW Z X σ ρ H) ((fb ρ1).bind _) _ from h1).bind.imp (fun c w=>w.mono g1) fun q h2 u F2 H2 g2 r2 q2=>?_⟩;obtain⟨w2,ρ2⟩:=q;cases w2 with
    |dat d2=>
     cases d2 with
     |bl c=>exact h2 u F2 H2 (g1.trans g2) r2 q2
     |_=>exact False.elim h2
    |_=>exact False.elim h2
   |false=>
    rw[if_neg (by decide)]
    exact h1 _ F1 H1 g1 r1 (show Rep Z F1 H1 (.bl false) _ by simp only[Rep])
  |_=>exact False.elim h1
 |_=>exact False.elim h1
theorem jrv {fa fb:Rho->R (Vl×Rho)}{Q:VK}(h:tE Z X B (fun ρ=>(fa ρ).bind fun p=>(jcB p.1).bind fun t=>if t then .ok (.dat (.bl true),p.2)else (fb p.2).bind fun q=>(jcB q.1).bind fun u=>.ok (.dat (.bl u),q.2)) σ H Q):jtN (tE Z X B fa) (tE Z X B fb) σ H Q:=by
 obtain⟨F,ρ,r,h⟩:=h;refine⟨F,ρ,r,h.bind.imp (fun _ w=>w) fun p h1 v F1 H1 g1 r1 q1=>?_⟩;obtain⟨w,ρ1⟩:=p;cases w with
 |dat d=>
  cases d with
  |bl b=>
   have q1:Rep Z F1 H1 (.bl b) v:=q1;simp only[Rep]at q1;subst q1;refine⟨b,rfl,?_⟩;cases b with
   |false=>
    rw[if_neg (by decide)]
    refine⟨F1,ρ1,r1,(show Ok (XW Z X σ ρ H) ((fb ρ1).bind _) _ from h1).bind.imp (fun c w=>w.mono g1) fun q h2 u F2 H2 g2 r2 q2=>?_⟩;obtain⟨w2,ρ2⟩:=q;cases w2 with
    |dat d2=>
     cases d2 with
     |bl c=>exact h2 u F2 H2 (g1.trans g2) r2 q2
     |_=>exact False.elim h2
    |_=>exact False.elim h2
   |true=>
    rw[if_pos rfl];exact h1 _ F1 H1 g1 r1 (show Rep Z F1 H1 (.bl true) _ by simp only[Rep])
  |_=>exact False.elim h1
 |_=>exact False.elim h1
theorem jpd {fa:Rho->R (Vl×Rho)}{Q:VK}(h:tE Z X B (fun ρ=>(fa ρ).bind fun p=>(jcB p.1).bind fun t=>.ok (.dat (.bl (!t)),p.2)) σ H Q):jqE (tE Z X B fa) σ H Q:=by
 obtain⟨F,ρ,r,h⟩:=h;refine⟨F,ρ,r,h.bind.imp (fun _ w=>w) fun p h1 v F1 H1 g1 r1 q1=>?_⟩;obtain⟨w,ρ1⟩:=p;cases w with
 |dat d=>
  cases d with
  |bl b=>
   have q1:Rep Z F1 H1 (.bl b) v:=q1;simp only[Rep]at q1;subst q1;exact⟨b,rfl,h1 _ F1 H1 g1 r1 (show Rep Z F1 H1 (.bl (!b)) _ by simp only[Rep])⟩
  |_=>exact False.elim h1
 |_=>exact False.elim h1
theorem jmr {fa fb:Rho->R (Bool×Rho)}{Q:Bool->Hp->Prop}(h:tT Z X B (fun ρ=>(fa ρ).bind fun p=>if p.1 then fb p.2 else .ok (false,p.2)) σ H Q):jtL (tT Z X B fa) (tT Z X B fb) σ H Q:=by
 obtain⟨F,ρ,r,h⟩:=h;refine⟨F,ρ,r,h.bind.imp (fun _ w=>w) fun p h1 F1 H1 g1 r1=>?_⟩;obtain⟨b,ρ1⟩:=p;cases b with
 |true=>rw[if_pos rfl]at h1 ⊢;exact⟨F1,ρ1,r1,h1.imp (fun c w=>w.mono g1) fun y h2 F2 H2 g2 r2=>h2 F2 H2 (g1.trans g2) r2⟩
 |false=>rw[if_neg jvx]at h1 ⊢;exact h1 F1 H1 g1 r1
theorem jpe {fa fb:Rho->R (Bool×Rho)}{Q:Bool->Hp->Prop}(h:tT Z X B (fun ρ=>(fa ρ).bind fun p=>if p.1 then .ok (true,p.2)else fb p.2) σ H Q):tOr (tT Z X B fa) (tT Z X B fb) σ H Q:=by
 obtain⟨F,ρ,r,h⟩:=h;refine⟨F,ρ,r,h.bind.imp (fun _ w=>w) fun p h1 F1 H1 g1 r1=>?_⟩;obtain⟨b,ρ1⟩:=p;cases b with
 |false=>rw[if_neg jvx]at h1 ⊢;exact⟨F1,ρ1,r1,h1.imp (fun c w=>w.mono g1) fun y h2 F2 H2 g2 r2=>h2 F2 H2 (g1.trans g2) r2⟩
 |true=>rw[if_pos rfl]at h1 ⊢;exact h1 F1 H1 g1 r1
theorem jms {fa:Rho->R (Bool×Rho)}{Q:Bool->Hp->Prop}(h:tT Z X B (fun ρ=>(fa ρ).bind fun p=>.ok (!p.1,p.2)) σ H Q):jtM (tT Z X B fa) σ H Q:=by
 obtain⟨F,ρ,r,h⟩:=h;exact⟨F,ρ,r,h.bind.imp (fun _ w=>w) fun b h1 F1 H1 g1 r1=>h1 F1 H1 g1 r1⟩
theorem jrw {fc:Rho->R (Bool×Rho)}{fa fb:Rho->R (Vl×Rho)}{Q:VK}(h:tE Z X B (fun ρ=>(fc ρ).bind fun t=>if t.1 then fa t.2 else fb t.2) σ H Q):tIf (tT Z X B fc) (tE Z X B fa) (tE Z X B fb) σ H Q:=by
 obtain⟨F,ρ,r,h⟩:=h;refine⟨F,ρ,r,h.bind.imp (fun _ w=>w) fun p h1 F1 H1 g1 r1=>?_⟩;obtain⟨b,ρ1⟩:=p;cases b with
 |true=>rw[if_pos rfl]at h1 ⊢;exact⟨F1,ρ1,r1,h1.imp (fun c w=>w.mono g1) fun y h2=>Post.ext h2 g1⟩
 |false=>rw[if_neg jvx]at h1 ⊢;exact⟨F1,ρ1,r1,h1.imp (fun c w=>w.mono g1) fun y h2=>Post.ext h2 g1⟩
end
noncomputable def jfG (f:E->E->E):List E->Option E
 |[]=>none
 |[e]=>some e
 |e::es=>(jfG f es).map (f e)
section
variable {G:Calls}{U:Nat->Nat->Bool}{Z:Kn}{X:Cx}{B:Bs}
theorem jkf {vs:List Expr}{es:List E}{E':E}{pos:Pos}(h:Paired (fun e E'=>PE X e (tE Z X B (evE G U E'))/\PT X e (tT Z X B (evT G U E'))) vs es)(hf:jfG .and es=some E') :
  PE X (.BoolOp .And vs pos) (tE Z X B (evE G U E'))/\PW X (.BoolOp .And vs pos) (tT Z X B (evT G U E')):=by
 induction h generalizing E' with
 |nil=>cases hf
 |@cons e E1 vs es h1 hr ih=>
  cases hr with
  |nil=>cases hf;exact⟨jny h1.1,jof h1.2⟩
  |@cons e2 E2 vs es h2 hr=>
   simp only[jfG]at hf;cases q:jfG .and (E2::es)with
   |none=>rw[q]at hf;cases hf
   |some E3=>
    have hf':E'=.and E1 E3:=by
     rw[q]at hf;exact(Option.some.inj hf).symm
    subst hf';obtain⟨i1,i2⟩:=ih q;refine⟨PE.imp (jqF h1.1 i1) fun σ H Q z=>jpc (by simpa only[evE] using z),fun whole pins s σ H Q I z=>jqB h1.2 i2 whole pins s σ H Q I (jmr (by simpa only[evT] using z))⟩
theorem jnS {vs:List Expr}{es:List E}{E':E}{pos:Pos}(h:Paired (fun e E'=>PE X e (tE Z X B (evE G U E'))/\PT X e (tT Z X B (evT G U E'))) vs es)(hf:jfG .or es=some E') :
  PE X (.BoolOp .Or vs pos) (tE Z X B (evE G U E'))/\PW X (.BoolOp .Or vs pos) (tT Z X B (evT G U E')):=by
 induction h generalizing E' with
 |nil=>cases hf
 |@cons e E1 vs es h1 hr ih=>
  cases hr with
  |nil=>cases hf;exact⟨jny h1.1,jqA h1.2⟩
  |@cons e2 E2 vs es h2 hr=>
   simp only[jfG]at hf;cases q:jfG .or (E2::es)with
   |none=>rw[q]at hf;cases hf
   |some E3=>
    have hf':E'=.or E1 E3:=by
     rw[q]at hf;exact(Option.some.inj hf).symm
    subst hf';obtain⟨i1,i2⟩:=ih q;refine⟨PE.imp (jsv h1.1 i1) fun σ H Q z=>jrv (by simpa only[evE] using z),fun whole pins s σ H Q I z=>jsu h1.2 i2 whole pins s σ H Q I (jpe (by simpa only[evT] using z))⟩
end
end DJ
namespace DJ
open PySem PySem.Spec PyProof.Rows L2
section
variable {Z:Kn}{X:Cx}{B:Bs}{σ:L2.St}{ρ ρ0 ρ1 ρ2:Rho}{F F0 F1 F2:Addr->Prop}{H H0 H1 H2:Hp}{w:Vl}{v:V}
noncomputable def RW (Z:Kn)(F':Addr->Prop)(H0 H':Hp)(σ:L2.St)(ρ':Rho):Vl->V->Prop
 |.dat d,v=>Rep Z F' H' d v
 |.tmp o,v=>∃l,v=.ref l/\¬Ow σ ρ' l/\H0 l=none/\HasO Z F' H' l o
 |.slot i,v=>σ[i]?=some (some v)
theorem RV.weak (h:RV Z F H0 H σ ρ w v):RW Z F H0 H σ ρ w v:=by
 cases w with
 |dat d=>exact h
 |tmp o=>obtain⟨l,a,_,b,c,d⟩:=h;exact⟨l,a,b,c,d⟩
 |slot i=>exact h
theorem RW.go (h:RW Z F1 H0 H1 σ ρ1 w v)(r:SR Z B F1 H1 σ ρ1)(g:Go σ ρ1 F1 H1 σ ρ2 F2 H2):RW Z F2 H0 H2 σ ρ2 w v:=by
 cases w with
 |dat d=>exact Rep.mono (g.keep r) h
 |tmp o=>
  obtain⟨l,e,h2,h3,h4⟩:=h;obtain⟨u,hu⟩:=h4.some;refine⟨l,e,fun z=>?_,h3,h4.mono (g.keep r) ((g.stay l u hu fun m=>h2 m.ow).trans hu.symm)⟩;rcases g.owA z with q | q
  ·exact h2 q
  ·rw[hu]at q;cases q
 |slot i=>exact h
theorem RW.keep (h:RW Z F1 H0 H1 σ ρ1 w v)(k:Keep F1 F2 H1 H1)(hO:∀b,Ow σ ρ2 b->Ow σ ρ1 b):RW Z F2 H0 H1 σ ρ2 w v:=by
 cases w with
 |dat d=>exact Rep.mono k h
 |tmp o=>obtain⟨l,e,h2,h3,h4⟩:=h;exact⟨l,e,fun z=>h2 (hO l z),h3,h4.mono k rfl⟩
 |slot i=>exact h
theorem RW.base (h:RW Z F1 H0 H1 σ ρ1 w v)(k:∀l,H0 l=none->H l=none):RW Z F1 H H1 σ ρ1 w v:=by
 cases w with
 |dat d=>exact h
 |tmp o=>obtain⟨l,e,h2,h3,h4⟩:=h;exact⟨l,e,h2,k l h3,h4⟩
 |slot i=>exact h
noncomputable def Sub (ρ' ρ:Rho):Prop:=∀(i:Nat) o f k,ρ'[i]?=some (.own o f k)->ρ[i]?=some (.own o f k)
theorem Sub.set {i:Nat}{s:Sl}(hs:∀o f k,s≠.own o f k):Sub (ρ.set i s) ρ:=fun j o f k h=>by
 rw[juP]at h;by_cases e:i=j
 ·rw[if_pos e]at h;split at h
  ·cases h;exact absurd rfl (hs _ _ _)
  ·cases h
 ·rw[if_neg e]at h;exact h
theorem Sub.trans (a:Sub ρ2 ρ1)(b:Sub ρ1 ρ):Sub ρ2 ρ:=fun i o f k h=>b i o f k (a i o f k h)
theorem Sub.ow (a:Sub ρ1 ρ){b:Addr}(h:Ow σ ρ1 b):Ow σ ρ b:=let ⟨i,o,f,k,h1,h2⟩:=h;⟨i,o,f,k,a i o f k h1,h2⟩
theorem jpf {ρ':Rho}{d:D}(h:RW Z F1 H H1 σ ρ' w v)(sb:Sub ρ1 ρ')(r:SR Z B F1 H1 σ ρ1)(g:Go σ ρ F H σ ρ1 F1 H1)(hd:toD w ρ1=.ok (d,ρ2)) :
  ∃F2,Go σ ρ F H σ ρ2 F2 H1/\SR Z B F2 H1 σ ρ2/\Rep Z F2 H1 d v/\Keep F1 F2 H1 H1/\Sub ρ2 ρ1/\(∀j:Nat,ρ1[j]?=some .no->ρ2[j]?=some .no)/\(∀a,F2 a->F1 a\/¬Ow σ ρ' a\/∃(j:Nat) (o:O),ρ1[j]?=some (.own o false false)/\σ[j]?=some (some (.ref a))):=by
 cases w with
 |dat d'=>cases hd;exact⟨F1,g,r,h,Keep.refl,fun _ _ _ _ h=>h,fun _ h=>h,fun a h1=>.inl h1⟩
 |tmp o=>
  cases hd;obtain⟨l,rfl,h2,h3,h4⟩:=h;obtain⟨a,b⟩:=r.frzT (fun z=>h2 (sb.ow z)) h4;refine⟨_,g.frzT h3,a,b,fun a q=>⟨.inl q,rfl⟩,fun _ _ _ _ h=>h,fun _ h=>h,fun x h5=>?_⟩;rcases h5 with h5 | h5
  ·exact .inl h5
  ·rw[h5];exact .inr (.inl h2)
 |slot i=>
  have h:σ[i]?=some (some v):=h;simp only[toD]at hd;split at hd
  ·rename_i o e;cases hd;obtain⟨l,e1,_⟩:=r.own i o _ _ e;rw[h]at e1;cases e1;obtain⟨a,b,c⟩:=r.frz e h;refine⟨_,g.trans (Go.frz e h),b,c,a,Sub.set (fun _ _ _ z=>by cases z),fun j hj=>?_,fun x h5=>?_⟩
   ·rw[juP];split
    ·rename_i z;subst z;rw[e]at hj;cases hj
    ·exact hj
   ·rcases h5 with h5 | h5
    ·exact .inl h5
    ·rw[h5];exact .inr (.inr ⟨i,o,e,h⟩)
  ·cases hd
end
inductive tL_I (Z:Kn) (X:Cx) (B:Bs) (f:Rho->R (List D×Rho)) (σ:L2.St) (H:L2.Hp) (Q:(List L2.V->L2.Hp->Prop)):Prop
 |mk (F:_) (ρ:_):(SR Z B F H σ ρ)->(Ok (XW Z X σ ρ H) (f ρ) fun p=>∀vs F' H',Go σ ρ F H σ p.2 F' H'->SR Z B F' H' σ p.2->Reps Z F' H' p.1 vs->Q vs H')->tL_I Z X B f σ H Q
noncomputable def tL (Z:Kn)(X:Cx)(B:Bs)(f:Rho->R (List D×Rho)):TA:=fun σ H Q=>tL_I Z X B f σ H Q
noncomputable def RWs (Z:Kn)(F':Addr->Prop)(H0 H':Hp)(σ:L2.St)(ρ':Rho):List Vl->List V->Prop:=Paired (RW Z F' H0 H' σ ρ')
inductive tAs_I (Z:Kn) (X:Cx) (B:Bs) (f:Rho->R (List Vl×Rho)) (σ:L2.St) (H:L2.Hp) (Q:(List L2.V->L2.Hp->Prop)):Prop
 |mk (F:_) (ρ:_):(SR Z B F H σ ρ)->(Ok (XW Z X σ ρ H) (f ρ) fun p=>∀vs F' H',Go σ ρ F H σ p.2 F' H'->SR Z B F' H' σ p.2->RWs Z F' H H' σ p.2 p.1 vs->Q vs H')->tAs_I Z X B f σ H Q
noncomputable def tAs (Z:Kn)(X:Cx)(B:Bs)(f:Rho->R (List Vl×Rho)):TA:=fun σ H Q=>tAs_I Z X B f σ H Q
section
variable {Z:Kn}{X:Cx}{B:Bs}{G:Calls}{U:Nat->Nat->Bool}
theorem jkg {es:List Expr}{Es':List E}(hp:Paired (fun e E'=>PE X e (tE Z X B (evE G U E'))/\∀a p,e≠.Starred a p) es Es'):PA X es (tL Z X B (evEs G U (jhA Es'))):=by
 induction hp with
 |nil=>
  intro pos pins s σ H Q I h;obtain⟨F,ρ,r,h⟩:=h;exact jba pos pins s σ H Q I (h [] F H Go.refl r .nil)
 |cons h1 h2 ih=>
  intro pos pins s σ H Q I h;refine jat h1.1 ih (jad h1.2) pos pins s σ H Q I ?_;obtain⟨F,ρ,r,h⟩:=h;simp only[jhA,evEs]at h;refine⟨F,ρ,r,h.bind.imp (fun _ w=>w) fun p h1 v F1 H1 g1 r1 q1=>?_⟩;obtain⟨q,hq,h2⟩:=h1.bind.pure fun c=>jcC;obtain⟨F2,g2,r2,rp,_⟩:=jdW q1 r1 g1 hq;refine⟨F2,q.2,r2,h2.bind.imp (fun c w=>w.mono g2) fun s3 h3 vs F3 H3 g3 r3 q3=>?_⟩;exact h3 (v::vs) F3 H3 (g2.trans g3) r3 (.cons (rp.mono (g3.keep r2)) q3)
theorem RWs.base {σ:L2.St}{ρ1:Rho}{F1:Addr->Prop}{H H0 H1:Hp}{ws:List Vl}{vs:List V}(h:RWs Z F1 H0 H1 σ ρ1 ws vs)(k:∀l,H0 l=none->H l=none):RWs Z F1 H H1 σ ρ1 ws vs:=Paired.mapP h fun _ _ x=>x.base k
theorem RWs.keep {σ:L2.St}{ρ1:Rho}{F1 F2:Addr->Prop}{H0 H1:Hp}{ws:List Vl}{vs:List V}(h:RWs Z F1 H0 H1 σ ρ1 ws vs)(k:Keep F1 F2 H1 H1):RWs Z F2 H0 H1 σ ρ1 ws vs:=Paired.mapP h fun _ _ x=>x.keep k fun _ z=>z
theorem jpg {es:List Expr}{Es':List E}(hp:Paired (fun e E'=>PE X e (tE Z X B (evE G U E'))/\∀a p,e≠.Starred a p) es Es'):PA X es (tAs Z X B (evAs G U (jhA Es'))):=by
 induction hp with
 |nil=>
  intro pos pins s σ H Q I h;obtain⟨F,ρ,r,h⟩:=h;exact jba pos pins s σ H Q I (h [] F H Go.refl r .nil)
 |cons h1 h2 ih=>
  intro pos pins s σ H Q I h;refine jat h1.1 ih (jad h1.2) pos pins s σ H Q I ?_;obtain⟨F,ρ,r,h⟩:=h;simp only[jhA,evAs]at h;refine⟨F,ρ,r,h.bind.imp (fun _ w=>w) fun p h1 v F1 H1 g1 r1 q1=>⟨F1,p.2,r1,h1.bind.imp (fun c w=>w.mono g1) fun s3 h3 vs F3 H3 g3 r3 q3=>?_⟩⟩;exact h3 (v::vs) F3 H3 (g1.trans g3) r3 (.cons (q1.weak.go r1 g3) (q3.base fun l z=>g1.free z))
end
section
variable {Z:Kn}{B:Bs}{σ:L2.St}{ρ ρ0 ρ1 ρ2:Rho}{F F0 F1 F2:Addr->Prop}{H H0:Hp}
inductive PassR (Z:Kn) (F2:Addr->Prop) (H:Hp) (σ:L2.St) (ρ ρ2:Rho):Sl->Option (Nat×Bool×Bool)->V->Prop where
 |dat {d:D}{v:V}:Rep Z F2 H d v->PassR Z F2 H σ ρ ρ2 (.dat d) none v
 |own {o:O}{i:Nat}{f k:Bool}{l:Addr}:σ[i]?=some (some (.ref l))->ρ[i]?=some (.own o f k)->ρ2[i]?=some .no->¬F2 l->HasO Z F2 H l o->PassR Z F2 H σ ρ ρ2 (.own o true k) (some (i,f,k)) (.ref l)
noncomputable def lentIx:List (Option (Nat×Bool×Bool))->List Nat
 |[]=>[]
 |some (i,_,_)::r=>i::lentIx r
 |none::r=>lentIx r
inductive PassRs (Z:Kn) (F2:Addr->Prop) (H:Hp) (σ:L2.St) (ρ ρ2:Rho):List Sl->List (Option (Nat×Bool×Bool))->List V->Prop where
 |nil:PassRs Z F2 H σ ρ ρ2 [] [] []
 |cons {s:Sl}{b:Option (Nat×Bool×Bool)}{v:V}{ss:List Sl}{bs:List (Option (Nat×Bool×Bool))}{vs:List V}:PassR Z F2 H σ ρ ρ2 s b v->PassRs Z F2 H σ ρ ρ2 ss bs vs->PassRs Z F2 H σ ρ ρ2 (s::ss) (b::bs) (v::vs)
theorem jkh {l:Bool}{w:Vl}{c:Nat}:jii l w ρ≠.err c:=by
 intro h;unfold jii at h;split at h
 ·split at h <;> cases h
 ·cases q:toD w ρ with
  |ok p=>rw[q]at h;cases h
  |err c=>exact absurd q jcC
  |stk=>rw[q]at h;cases h
theorem jdl:∀{fl:List Bool}{ws:List Vl}{ρ:Rho}{c:Nat},jaD fl ws ρ≠.err c
 |_,[],_,_=>by simp[jaD]
 |fl,w::ws,ρ,c=>by
  intro h;simp only[jaD]at h;cases q:jii (fl.headD false) w ρ with
  |ok p=>
   rw[q,R.bind_ok']at h;cases q2:jaD fl.tail ws p.2.2 with
   |ok r=>rw[q2]at h;cases h
   |err c=>exact jdl q2
   |stk=>rw[q2]at h;cases h
  |err c=>exact jkh q
  |stk=>rw[q]at h;cases h
inductive PassO (Z:Kn) (B:Bs) (F0:Addr->Prop) (H0 H:Hp) (σ:L2.St) (ρ ρ0 ρ1 ρ2:Rho) (F1:Addr->Prop) (sls:List Sl) (back:List (Option (Nat×Bool×Bool))) (vs:List V):Prop
 |mk (F2:Addr->Prop):(Go σ ρ0 F0 H0 σ ρ2 F2 H)->(SR Z B F2 H σ ρ2)->(Keep F1 F2 H H)->(Sub ρ2 ρ)->(PassRs Z F2 H σ ρ ρ2 sls back vs)->((lentIx back).Nodup)->((∀i∈lentIx back,∃o f k,ρ1[i]?=some (.own o f k)))->((∀i:Nat,ρ1[i]?=some .no->ρ2[i]?=some .no))->((∀l,(∃(i:Nat) (o:O) (f kk:Bool),ρ[i]?=some (Sl.own o f kk)/\σ[i]?=some (some (V.ref l))/\ρ1[i]?=some Sl.no)->¬F1 l->¬F2 l))->PassO Z B F0 H0 H σ ρ ρ0 ρ1 ρ2 F1 sls back vs
theorem jgC:∀{fl:List Bool}{ws:List Vl}{vs:List V}{ρ1 ρ2:Rho}{F1:Addr->Prop}{sls:List Sl}{back:List (Option (Nat×Bool×Bool))},RWs Z F1 H0 H σ ρ ws vs->SR Z B F1 H σ ρ1->Go σ ρ0 F0 H0 σ ρ1 F1 H->SR Z B F H σ ρ->Keep F F1 H H->Sub ρ1 ρ ->
  jaD fl ws ρ1=.ok (sls,back,ρ2) ->
  PassO Z B F0 H0 H σ ρ ρ0 ρ1 ρ2 F1 sls back vs
 |fl,[],vs,ρ1,ρ2,F1,sls,back,rw',r1,g1,r,kp,sb,h=>by
  cases rw';simp only[jaD]at h;cases h;exact⟨F1,g1,r1,Keep.refl,sb,.nil,List.nodup_nil,fun _ h=>absurd h (by simp[lentIx]),fun _ h=>h,fun _ _ h=>h⟩
 |fl,w::ws,vs,ρ1,ρ2,F1,sls,back,rw',r1,g1,r,kp,sb,h=>by
  cases rw' with
  |@cons _ v _ vs' q1 q2=>
  simp only[jaD]at h;obtain⟨p,hp,h⟩:=R.bind_ok h;obtain⟨q,hq,h⟩:=R.bind_ok h;cases h;unfold jii at hp;split at hp
  ·
   rename_i i hfl;split at hp
   ·rename_i o f k e;cases hp;have q1:σ[i]?=some (some v):=q1;obtain⟨l,e1,e2,e3,e4⟩:=r1.own i o f k e;rw[q1]at e1;cases e1;have hi:i < ρ1.length:=(List.getElem?_eq_some_iff.mp e).1;have le:Le (ρ1.set i .no) ρ1:=Le.no;have rA:SR Z B F1 H σ (ρ1.set i .no):=r1.weak le;have gA:Go σ ρ0 F0 H0 σ (ρ1.set i .no) F1 H:=g1.trans (Go.weak le);have sbA:Sub (ρ1.set i .no) ρ1:=Sub.set (fun _ _ _ z=>by cases z)
    obtain⟨F2,g2,r2,k2,s2,p2,n2,i2,no2,f2⟩:=jgC q2 rA gA r kp (sbA.trans sb) hq;have ei:=sb i o f k e;have noI:(ρ1.set i .no)[i]?=some .no:=List.getElem?_set_self hi;refine⟨F2,g2,r2,k2,s2,.cons (.own q1 ei (no2 i noI) (f2 l ⟨i,o,f,k,ei,q1,noI⟩ e2) (e3.mono k2 rfl)) p2,?_,?_,?_,?_⟩
    ·simp only[lentIx];refine List.nodup_cons.mpr ⟨fun z=>?_,n2⟩;obtain⟨o',f',k',e'⟩:=i2 i z;rw[noI]at e';cases e'
    ·intro j hj;simp only[lentIx]at hj;rcases List.mem_cons.mp hj with rfl | hj
     ·exact⟨o,f,k,e⟩
     ·obtain⟨o',f',k',e'⟩:=i2 j hj;exact⟨o',f',k',sbA j o' f' k' e'⟩
    ·intro j hj;refine no2 j ?_;rw[juP];split
     ·rename_i z;subst z;exact absurd (e.symm.trans hj) (by simp)
     ·exact hj
    ·rintro l' ⟨j,o',f',kk',a1,a2,a3⟩ hn;refine f2 l' ⟨j,o',f',kk',a1,a2,?_⟩ hn;rw[juP];split
     ·rename_i z;subst z;exact absurd (e.symm.trans a3) (by simp)
     ·exact a3
   ·cases hp
  ·
   obtain⟨t,ht,hp⟩:=R.bind_ok hp;cases hp;obtain⟨FA,gA,rA,rp,kA,sA,noA,nA⟩:=jpf q1 sb r1 g1 ht;have q2A:RWs Z FA H0 H σ ρ ws vs':=RWs.keep q2 kA;have fA:∀l,(∃(i:Nat) (o:O) (f kk:Bool),ρ[i]?=some (Sl.own o f kk)/\σ[i]?=some (some (V.ref l))/\ρ1[i]?=some Sl.no)->¬F1 l->¬FA l:=fun l hx hn z=>by
    obtain⟨i,o,f,kk,a1,a2,a3⟩:=hx;rcases nA l z with z | z | ⟨j,oj,z1,z2⟩
    ·exact hn z
    ·exact z ⟨i,o,f,kk,a1,a2⟩
    ·refine r.one i j _ _ _ _ _ _ l (fun e=>?_) a1 (sb j oj _ _ z1) a2 z2;subst e;rw[a3]at z1;cases z1
   obtain⟨F2,g2,r2,k2,s2,p2,n2,i2,no2,f2⟩:=jgC q2A rA gA r (kp.trans kA) (sA.trans sb) hq;refine⟨F2,g2,r2,kA.trans k2,s2,.cons (.dat (rp.mono k2)) p2,?_,?_,fun j hj=>no2 j (noA j hj),?_⟩
   ·simp only[lentIx];exact n2
   ·intro j hj;simp only[lentIx]at hj;obtain⟨o',f',k',e'⟩:=i2 j hj;exact⟨o',f',k',sA j o' f' k' e'⟩
   ·rintro l ⟨i,o,f,kk,a1,a2,a3⟩ hn;exact f2 l ⟨i,o,f,kk,a1,a2,noA i a3⟩ (fA l ⟨i,o,f,kk,a1,a2,a3⟩ hn)
theorem PassRs.len {sls:List Sl}{back:List (Option (Nat×Bool×Bool))}{vs:List V}(h:PassRs Z F2 H σ ρ ρ2 sls back vs):sls.length=vs.length/\back.length=vs.length:=by
 induction h with
 |nil=>exact⟨rfl,rfl⟩
 |cons _ _ ih=>simp[ih.1,ih.2]
theorem PassRs.get {sls:List Sl}{back:List (Option (Nat×Bool×Bool))}{vs:List V}(h:PassRs Z F2 H σ ρ ρ2 sls back vs):∀{k:Nat}{s:Sl},sls[k]?=some s->∃b v,back[k]?=some b/\vs[k]?=some v/\PassR Z F2 H σ ρ ρ2 s b v:=by
 induction h with
 |nil=>intro k s e;simp at e
 |@cons s0 b0 v0 ss bs vs h1 _ ih=>
  intro k s e;cases k with
  |zero=>simp at e;subst e;exact⟨b0,v0,rfl,rfl,h1⟩
  |succ k=>simp at e;simpa using ih e
theorem jbR:∀{back:List (Option (Nat×Bool×Bool))}{k i:Nat}{f g:Bool},back[k]?=some (some (i,f,g))->i∈lentIx back
 |[],k,i,f,g,h=>by simp at h
 |none::r,0,i,f,g,h=>by simp at h
 |none::r,k + 1,i,f,g,h=>by simp at h;simp only[lentIx];exact jbR h
 |some (j,a,b)::r,0,i,f,g,h=>by
  simp at h;simp[lentIx,h.1]
 |some (j,a,b)::r,k + 1,i,f,g,h=>by simp at h;simp only[lentIx];exact juL _ (jbR h)
theorem jio {back:List (Option (Nat×Bool×Bool))}{k k' i:Nat}{f g f' g':Bool}(n:(lentIx back).Nodup)(h:back[k]?=some (some (i,f,g)))(h':back[k']?=some (some (i,f',g'))):k=k':=by
 induction back generalizing k k' with
 |nil=>cases h
 |cons x r ih=>
  cases x with
  |none=>
   cases k with
   |zero=>cases h
   |succ k=>
    cases k' with
    |zero=>cases h'
    |succ k'=>rw[ih n h h']
  |some x=>
   have n:=List.nodup_cons.mp n;cases k with
   |zero=>
    cases k' with
    |zero=>rfl
    |succ k'=>cases h;exact absurd (jbR (back:=r) h') n.1
   |succ k=>
    cases k' with
    |zero=>cases h';exact absurd (jbR (back:=r) h) n.1
    |succ k'=>rw[ih n.2 h h']
theorem jdm:∀{back:List (Option (Nat×Bool×Bool))}{fin:List Sl}{ρ:Rho},(ja1 back fin ρ).length=ρ.length
 |[],fin,ρ=>by simp[ja1]
 |_::_,[],ρ=>by simp[ja1]
 |none::r,s::fs,ρ=>by simp only[ja1];exact jdm
 |some (i,f,k)::r,s::fs,ρ=>by
  simp only[ja1];rw[jdm];split <;> simp
theorem jbJ:∀{back:List (Option (Nat×Bool×Bool))}{fin:List Sl}{ρ:Rho}{i:Nat}{s:Sl},(ja1 back fin ρ)[i]?=some s->ρ[i]?=some s\/∃(k:Nat) (o:O) (f k' f0 k0:Bool),back[k]?=some (some (i,f0,k0))/\fin[k]?=some (.own o f k')/\s=.own o f0 k0
 |[],fin,ρ,i,s,h=>by simp[ja1]at h;exact .inl h
 |_::_,[],ρ,i,s,h=>by simp[ja1]at h;exact .inl h
 |none::r,s0::fs,ρ,i,s,h=>by
  simp only[ja1]at h;rcases jbJ h with h | ⟨k,o,f,k',f0,k0,h1,h2,h3⟩
  ·exact .inl h
  ·exact .inr ⟨k + 1,o,f,k',f0,k0,by simpa using h1,by simpa using h2,h3⟩
 |some (j,f,g)::r,s0::fs,ρ,i,s,h=>by
  simp only[ja1]at h;rcases jbJ h with hx | ⟨k,o,f,k',f0,k0,h1,h2,h3⟩
  ·clear h;cases s0 with
   |own o f1 k1=>
    simp only at hx;rw[juP]at hx;split at hx
    ·rename_i e;subst e;split at hx
     ·cases hx;exact .inr ⟨0,o,f1,k1,f,g,rfl,rfl,rfl⟩
     ·cases hx
    ·exact .inl hx
   |no=>exact .inl hx
   |dat d=>exact .inl hx
  ·exact .inr ⟨k + 1,o,f,k',f0,k0,by simpa using h1,by simpa using h2,h3⟩
noncomputable def jdn (H:Hp)(sls:List Sl)(vs:List V):Bs:=⟨H,fun k=>match sls[k]?,vs[k]? with
 |some (.own _ _ _),some (.ref l)=>some l
 |_,_=>none⟩
theorem jgD {sls:List Sl}{vs:List V}(k:Nat)(l:Addr)(h:(jdn H sls vs).lent k=some l):(vs.map some)[k]?=some (some (.ref l)):=by
 unfold jdn at h;simp only at h;split at h
 ·rename_i h1 h2;cases h;rw[juQ,h2];rfl
 ·cases h
theorem PassRs.own {sls:List Sl}{back:List (Option (Nat×Bool×Bool))}{vs:List V}(h:PassRs Z F2 H σ ρ ρ2 sls back vs){k:Nat}{o:O}{f g:Bool}(e:sls[k]?=some (.own o f g)) :
  ∃(i:Nat) (f0:Bool) (l:Addr),back[k]?=some (some (i,f0,g))/\vs[k]?=some (.ref l)/\f=true/\σ[i]?=some (some (.ref l))/\ρ[i]?=some (.own o f0 g)/\ρ2[i]?=some .no/\¬F2 l/\HasO Z F2 H l o:=by
 obtain⟨b,v,h1,h2,h3⟩:=h.get e;cases h3 with
 |own a1 a2 a3 a4 a5=>exact⟨_,_,_,h1,h2,rfl,a1,a2,a3,a4,a5⟩
theorem PassRs.backOf {sls:List Sl}{back:List (Option (Nat×Bool×Bool))}{vs:List V}(h:PassRs Z F2 H σ ρ ρ2 sls back vs){k i:Nat}{f0 k0:Bool}(e:back[k]?=some (some (i,f0,k0))) :
  ∃(o:O) (l:Addr),sls[k]?=some (.own o true k0)/\vs[k]?=some (.ref l)/\σ[i]?=some (some (.ref l))/\ρ[i]?=some (.own o f0 k0)/\ρ2[i]?=some .no:=by
 have hl:k < sls.length:=by
  rw[h.len.1,<-h.len.2];exact(List.getElem?_eq_some_iff.mp e).1
 obtain⟨b,v,h1,h2,h3⟩:=h.get (juK hl);rw[e]at h1;cases h1;have es:=juK hl;generalize sls[k]=s at h3 es;cases h3 with
 |own a1 a2 a3 a4 a5=>exact⟨_,_,es,h2,a1,a2,a3⟩
theorem jph {sls:List Sl}{back:List (Option (Nat×Bool×Bool))}{vs:List V}(r:SR Z B F H σ ρ)(r2:SR Z B F2 H σ ρ2)(h:PassRs Z F2 H σ ρ ρ2 sls back vs)(hn:(lentIx back).Nodup):SR Z (jdn H sls vs) F2 H (vs.map some) sls where
 dom:=r2.dom
 len:=by simp[h.len.1]
 dat i d e:=by
  obtain⟨b,v,h1,h2,h3⟩:=h.get e;cases h3 with
  |dat q=>exact⟨v,by rw[juQ,h2];rfl,q⟩
 own i o f k e:=by
  obtain⟨j,f0,l,h1,h2,h3,h4,h5,h6,h7,h8⟩:=h.own e;refine⟨l,by rw[juQ,h2];rfl,h7,h8,fun _=>?_,fun z=>?_⟩
  ·simp only[jdn,e,h2]
  ·rw[h3]at z;cases z
 one i j o o' f k f' k' l ne e e' q q':=by
  obtain⟨a,f0,l1,h1,h2,h3,h4,h5,h6,h7,h8⟩:=h.own e;obtain⟨a',f0',l1',h1',h2',h3',h4',h5',h6',h7',h8'⟩:=h.own e';rw[juQ,h2]at q;rw[juQ,h2']at q';cases q;cases q';refine r.one a a' _ _ _ _ _ _ l (fun z=>ne ?_) h5 h5' h4 h4';subst z;exact jio hn h1 h1'
 base b z:=z
theorem jmt {sls:List Sl}{back:List (Option (Nat×Bool×Bool))}{vs:List V}{H':Hp}(h:PassRs Z F2 H σ ρ ρ2 sls back vs)(st:Stl (vs.map some) sls H H'):Stl σ ρ H H':=
 ⟨fun b o e n=>st.stay b o e fun ⟨k,o',f,e1,e2⟩=>n (by
  obtain⟨i,f0,l,h1,h2,h3,h4,h5,_⟩:=h.own e1;rw[juQ,h2]at e2;cases e2;exact⟨i,o',f0,h5,h4⟩),st.there⟩
theorem jpi {sls fin:List Sl}{back:List (Option (Nat×Bool×Bool))}{vs:List V}{F':Addr->Prop}{H':Hp}(g:Go σ ρ0 F0 H0 σ ρ F H)(r:SR Z B F H σ ρ)(gp:Go σ ρ0 F0 H0 σ ρ2 F2 H)(r2:SR Z B F2 H σ ρ2)(sb:Sub ρ2 ρ)(h:PassRs Z F2 H σ ρ ρ2 sls back vs)
  (gc:Go (vs.map some) sls F2 H (vs.map some) fin F' H') (rc:SR Z (jdn H sls vs) F' H' (vs.map some) fin) (rs:SR Z (jdn H sls vs) F2 H (vs.map some) sls) :
  Go σ ρ0 F0 H0 σ (ja1 back fin ρ2) F' H'/\SR Z B F' H' σ (ja1 back fin ρ2)/\∀w v,(∀i,w≠.slot i)->RV Z F' H H' (vs.map some) fin w v->RV Z F' H0 H' σ (ja1 back fin ρ2) w v:=by
 have own3:∀(i:Nat) (o:O) (f k:Bool),(ja1 back fin ρ2)[i]?=some (.own o f k)->∃o0,ρ[i]?=some (.own o0 f k):=fun i o f k e=>by
  rcases jbJ e with e | ⟨m,o1,f1,k1,f0,k0,h1,h2,h3⟩
  ·exact⟨o,sb i o f k e⟩
  ·cases h3;obtain⟨o2,l,_,_,_,h7,_⟩:=h.backOf h1;exact⟨o2,h7⟩
 have mbC:∀b,Mb (vs.map some) sls b->Mb σ ρ b:=fun b ⟨k,o,f,e1,e2⟩=>by
  obtain⟨i,f0,l,h1,h2,h3,h4,h5,_⟩:=h.own e1;rw[juQ,h2]at e2;cases e2;exact⟨i,o,f0,h5,h4⟩
 have owC:∀b,Ow (vs.map some) sls b->∃(i:Nat) (o:O) (f k:Bool),ρ[i]?=some (.own o f k)/\σ[i]?=some (some (.ref b))/\ρ2[i]?=some .no:=fun b ⟨k,o,f,k',e1,e2⟩=>by
  obtain⟨i,f0,l,h1,h2,h3,h4,h5,h6,_⟩:=h.own e1;rw[juQ,h2]at e2;cases e2;exact⟨i,o,f0,k',h5,h4,h6⟩
 have kp:=gc.keep rs;refine⟨⟨fun b o e n=>?_,fun a q=>gc.sub a (gp.sub a q),fun a q=>?_,fun j o f k b e1 e2=>?_,fun b o e=>?_⟩,⟨rc.dom,?_,fun i d e=>?_,fun i o f k e=>?_,fun i j o o' f k f' k' l ne e e' q=>?_,fun b z=>?_⟩,fun w v hw q=>?_⟩
 ·refine gc.stay b o (g.stay b o e n) fun z=>?_;rcases g.mb (mbC b z)with q | q
  ·exact n q
  ·rw[e]at q;cases q
 ·rcases gc.new a q with q | q | q
  ·exact gp.new a q
  ·exact .inr (.inl (g.free q))
  ·rcases g.mb (mbC a q)with q | q
   ·exact .inr (.inr q)
   ·exact .inr (.inl q)
 ·obtain⟨o0,e0⟩:=own3 j o f k e1;exact g.ow j o0 f k b e0 e2
 ·obtain⟨o1,e1⟩:=g.there b o e;exact gc.there b o1 e1
 ·rw[jdm];exact r2.len
 ·rcases jbJ e with e | ⟨m,o1,f1,k1,f0,k0,h1,h2,h3⟩
  ·obtain⟨v,e1,e2⟩:=r2.dat i d e;exact⟨v,e1,e2.mono kp⟩
  ·cases h3
 ·rcases jbJ e with e | ⟨m,o1,f1,k1,f0,k0,h1,h2,h3⟩
  ·obtain⟨l,e1,e2,e3,e4⟩:=r2.own i o f k e;have no:¬Ow (vs.map some) sls l:=fun z=>by
    obtain⟨j,o',f',k',q1,q2,q3⟩:=owC l z;refine r.one i j _ _ _ _ _ _ l (fun e'=>?_) (sb i o f k e) q1 e1 q2;subst e';rw[e]at q3;cases q3
   obtain⟨u,hu⟩:=e3.some;obtain⟨a,b,_⟩:=gc.side hu e2 no;exact⟨l,e1,b,e3.mono kp (a.trans hu.symm),e4⟩
  ·cases h3;obtain⟨o2,l,h4,h5,h6,h7,_⟩:=h.backOf h1;obtain⟨l',q1,q2,q3,q4⟩:=rc.own m _ _ _ h2;rw[juQ,h5]at q1;cases q1;obtain⟨l2,z1,_,_,z4⟩:=r.own i o2 _ _ h7;rw[h6]at z1;cases z1;exact⟨l,h6,q2,q3,z4⟩
 ·obtain⟨o1,e1⟩:=own3 i o f k e;obtain⟨o2,e2⟩:=own3 j o' f' k' e';exact r.one i j _ _ _ _ _ _ l ne e1 e2 q
 ·exact r.base b (gc.free z)
 ·cases w with
  |dat d=>exact q
  |tmp o=>
   obtain⟨l,e,h1,h2,h3,h4⟩:=q;refine⟨l,e,h1,fun z=>?_,g.free h3,h4⟩;obtain⟨j,o',f',k',z1,z2⟩:=z;obtain⟨o0,z0⟩:=own3 j o' f' k' z1;obtain⟨u,hu⟩:=r.there ⟨j,o0,f',k',z0,z2⟩;rw[h3]at hu;cases hu
  |slot i=>exact absurd rfl (hw i)
end
end DJ
namespace DJ
open PySem PySem.Spec PyProof.Rows L2
noncomputable def EX (X:Cx)(σ:L2.St):XK:=fun cls _ H'=>∀(pins:List (Addr×Obj)) (s':Shared) (ea:Addr),Inv X pins σ H' s'->FlyC X pins ea cls H' s'->X.xe (.ref ea) s'
theorem jrx {X:Cx}{pins:List (Addr×Obj)}{σ:L2.St}{H:Hp}{s s':Shared}{e:Value}{E:XK}(I:Inv X pins σ H s)(h:CXD X.prog X.w X.stack H s E e s'):∃ea cls H',e=.ref ea/\Inv X pins σ H' s'/\FlyC X pins ea cls H' s'/\E cls none H':=by
 obtain⟨ea,cls,a0,H',B,rfl,os,bare,un,hok,fl,hB,hB2,hn,q⟩:=h;refine⟨ea,cls,H',rfl,I.call' os un hok bare fun b z=>absurd z (by simp),⟨⟨a0,B,fl,fun b o e n nx=>?_,fun x c hf hc=>?_,fun p hp=>?_,hB2⟩,hn⟩,q⟩
 ·obtain⟨o',e'⟩:=I.base.there b o e nx;exact hB b o' e' n
 ·obtain⟨v,o,ho,hd⟩:=I.cell x c hc;refine hB c o ho fun z=>?_;rcases List.mem_cons.mp (I.stkSub c z)with z | z
  ·exact I.cne x c hc z
  ·have h1:=I.ok.cab x c hf hc;obtain⟨_,o',h2,_⟩:=I.ok.funs.mem z;exact absurd (jvm h2) (Nat.not_lt.mpr h1)
 ·obtain⟨h1,h2,h3,h4,_⟩:=I.pin p hp;refine hB p.1 p.2 h1 fun z=>?_;rcases List.mem_cons.mp (I.stkSub p.1 z)with z | z
  ·exact h3 z
  ·exact h4 z
noncomputable def jki (X:Cx)(sp:Sp)(t:TA):TE:=fun σ H Q=>t σ H fun vs H1=>sp vs H1 Q (EX X σ)
section
variable {X:Cx}{k:Nat}{f:Addr}{fd:FuncData}{ps:List Str}{sp:Sp}{x:Str}{p pos:Pos}{e:Expr}{es:List Expr}{t:TA}
theorem jkj {pins:List (Addr×Obj)}{σ:L2.St}{H:Hp}{s:Shared}{Q:VK}{us:List Value}{vs:List V}(F:FnOk X.prog X.w X.K X.mg X.base (CXD X.prog X.w) k f fd ps sp)(hr:Room k X.A)(hb:Binds X.K fd ps [])
  (I:Inv X pins σ H s) (r:Vals vs us) (h:sp vs H Q (EX X σ)):wpAny (model X.prog X.w) X.A (call (.ref f) us) (EP X pins σ Q) X.xe s:=by
 have hl:(us++[]).length=ps.length:=by rw[ju9,<-r.length];exact F.len _ _ _ _ h
 have hbt:=hb s us I.kIn hl;rw[ju9]at hbt;refine wpAny_call (codeAny_mono (F.run X.A X.stack s H ⟨us,[]⟩ us vs Q (EX X σ) hr I.env0 hbt r h) fun r s' hq=>?_);cases r with
 |error e=>
  obtain⟨ea,cls,H',rfl,I',fl,q⟩:=jrx I hq;exact q pins s' ea I' fl
 |ok fl=>
  cases fl with
  |ret u=>exact I.after hq
  |next=>exact False.elim hq
  |brk=>exact False.elim hq
  |cont=>exact False.elim hq
theorem jmu (F:FnOk X.prog X.w X.K X.mg X.base (CXD X.prog X.w) k f fd ps sp)(hr:Room k X.A)(hg:Gl X x)(hm:X.mg x=some (.ref f))(hk:jvB X.K (.ref f)=true)(hb:Binds X.K fd ps [])
  (ha:PA X (e::es) t) (hdb:(x == ("__debug__":Str))=false) (he:starEach (e::es) X.env=(false,eval e X.env)::starEach es X.env) (hpl:(backTo pos (starEach es X.env)).any (·.1)=false) :
  PE X (.Call (.Name x p) (e::es) [] pos) (jki X sp t):=by
 intro pins s σ H Q I h;refine wpAny_Call_Name_kw (jc1 I hg hm ?_ hdb);refine PySem.W.callWith_K (h₀:=X.base) I.ok.mod.kin hk (thn (ha pos pins s σ H _ I h) fun us s1 ⟨vs,H1,I1,r,q⟩=>⟨I1.kIn,?_⟩) he hpl;exact jkj F hr hb I1 r q
theorem jkk (F:FnOk X.prog X.w X.K X.mg X.base (CXD X.prog X.w) k f fd ps sp)(hr:Room k X.A)(hg:Gl X x)(hm:X.mg x=some (.ref f))(hk:jvB X.K (.ref f)=true)(hb:Binds X.K fd ps [])
  (hdb:(x == ("__debug__":Str))=false):PE X (.Call (.Name x p) [] [] pos) (jki X sp joo):=by
 intro pins s σ H Q I h;refine wpAny_Call_Name_kw (jc1 I hg hm ?_ hdb);exact PySem.W.callWith_K0 I.kIn hk (jkj (us:=[]) F hr hb I .nil h)
end
section
variable {T:Tab}{G:Calls}{U:Nat->Nat->Bool}{Z:Kn}{m:Nat}{X:Cx}{sc:List (Str×NameKind)}{B:Bs}
theorem jmv (D:XD T G U Z m X sc)(hq:T.quiet=false){f:Str}{k:Nat}{fl:List Bool}{p pos:Pos}{args:List Expr}{es:List E}(hf:knd sc f=2)(hb:jdY f=false)(hk:jdx T.defs f=some k)
  (h:Paired (fun e E'=>PE X e (tE Z X B (evE G U E'))/\∀a p,e≠.Starred a p) args es):PE X (.Call (.Name f p) args [] pos) (tE Z X B (evE G U (.call k fl (jhA es)))):=by
 obtain⟨fa,fd,ps,hm,hkp,hbd,hF⟩:=D.defs k f (jaE hk);have key:∀σ H Q,tE Z X B (evE G U (.call k fl (jhA es))) σ H Q->jki X (spD Z G k) (tAs Z X B (evAs G U (jhA es))) σ H Q:=by
  intro σ H Q hz1;obtain⟨F,ρ,r,q⟩:=hz1;simp only[evE]at q;refine⟨F,ρ,r,q.bind.imp (fun _ w=>w) fun p1 h1 vs F1 H1 g1 r1 w1=>?_⟩;obtain⟨pp,hp,h2⟩:=h1.bind.pure fun c=>jdl;obtain⟨sls,back,ρ2⟩:=pp;obtain⟨F2,g2,r2,k2,s2,p2,n2,_,_,_⟩:=jgC w1 r1 g1 r1 Keep.refl (fun _ _ _ _ h=>h) hp;have rs:=jph r1 r2 p2 n2;refine⟨jdn H1 sls vs,F2,sls,rs,rfl,jgD,h2.bind.imp (fun c w C H' hC hH pins s' ea I' fly=>?_) fun rr h3 v F' H' hns gc rc rv=>?_⟩
  ·exact w pins H' s' ea C hC I' (Stl.go g1 (jmt p2 hH)) fly
  ·obtain⟨a,b,c⟩:=jpi g1 r1 g2 r2 s2 p2 gc rc rs;exact h3 v F' H' a b (c _ _ hns rv)
 have hns:∀e∈args,∀a p,e≠.Starred a p:=by
  clear key;induction h with
  |nil=>intro e he;simp at he
  |cons h1 _ ih=>
   intro e he;rcases List.mem_cons.mp he with rfl | he
   ·exact h1.2
   ·exact ih e he
 have hpa:=jpg h;cases args with
 |nil=>
  cases h;refine PE.imp (jkk hF (D.room hq) (D.gl hf) hm hkp hbd (jez hb).1) fun σ H Q q=>?_;obtain⟨F,ρ,r,z⟩:=key σ H Q q;simp only[jhA,evAs]at z;exact z [] F H Go.refl r .nil
 |cons e es'=>
  exact PE.imp (jmu hF (D.room hq) (D.gl hf) hm hkp hbd hpa (jez hb).1 (jad (hns e juM)) (jcZ (jci fun x hx=>hns x (juL _ hx)))) key
theorem jpj {e:Expr}{d:D}{v:V}(h:PE X e (tC v))(hr:∀F H,Rep Z F H d v):PE X e (tE Z X B (evE G U (.lit d))):=by
 refine PE.imp h fun σ H Q q=>?_;obtain⟨F,ρ,r,q⟩:=q;simp only[evE]at q;exact q v F H Go.refl r (hr F H)
theorem jmw (D:XD T G U Z m X sc){x:Str}{pos:Pos}{i:Nat}(hk:knd sc x=1)(hi:X.N[i]?=some x)(hb:jdY x=false):PE X (.Name x pos) (tE Z X B (evE G U (.var i))):=by
 refine PE.imp (ji4 (X:=X) (pos:=pos) hi (D.vis hk) (jez hb).1 (jpb hb)) fun σ H Q q=>?_;obtain⟨F,ρ,r,q⟩:=q;simp only[evE]at q;split at q
 ·rename_i d e;obtain⟨v,e1,e2⟩:=r.dat i d e;exact⟨v,e1,q v F H Go.refl r e2⟩
 ·rename_i o f k e;obtain⟨l,e1,_⟩:=r.own i o f k e;exact⟨_,e1,q _ F H Go.refl r e1⟩
 ·exact False.elim q
theorem jpk {es:List Expr}{Es':List E}{k:Nat}{pos:Pos}(h:Paired (fun e E'=>PE X e (tE Z X B (evE G U E'))/\∀a p,e≠.Starred a p) es Es'):PE X (.Tuple es k pos) (tE Z X B (evE G U (.tup (jhA Es')))):=by
 refine PE.imp (jnC (jkg h)) fun σ H Q hzz=>?_;obtain⟨F,ρ,r,z⟩:=hzz;simp only[evE]at z;refine⟨F,ρ,r,z.bind.imp (fun _ w=>w) fun p h1 vs F' H' g r' rs=>?_⟩;split at h1
 ·rename_i hf;exact⟨by rw[<-rs.length];exact jbj hf,(Post.toV h1 g r' (fun _ z=>by cases z)).tup r'.dom rs⟩
 ·exact False.elim h1
theorem jpl {es:List Expr}{Es':List E}{pos:Pos}(h:Paired (fun e E'=>PE X e (tE Z X B (evE G U E'))/\∀a p,e≠.Starred a p) es Es'):PE X (.List es pos) (tE Z X B (evE G U (.lst (jhA Es')))):=by
 refine PE.imp (jqW (jkg h)) fun σ H Q hzz=>?_;obtain⟨F,ρ,r,z⟩:=hzz;simp only[evE]at z;refine⟨F,ρ,r,z.bind.imp (fun _ w=>w) fun p h1 vs F' H' g r' rs=>?_⟩;split at h1
 ·rename_i hf;exact⟨by rw[<-rs.length];exact jbj hf,(Post.toV h1 g r' (fun _ z=>by cases z)).lst r'.dom rs⟩
 ·exact False.elim h1
theorem jpm {pos:Pos}:PE X (.Dict [] [] pos) (tE Z X B (evE G U .emp)):=by
 refine PE.imp jlJ fun σ H Q hzz=>?_;obtain⟨F,ρ,r,z⟩:=hzz;simp only[evE]at z;intro p hp;have ex:=Ext.newO (o:=.dK []) r.dom hp;refine z _ _ _ ex.go (r.ext ex) ⟨p,rfl,fun q=>?_,fun q=>?_,hp,rfl,rfl,jaj⟩
 ·obtain⟨o,e⟩:=r.dom p q;rw[hp]at e;cases e
 ·obtain⟨o,e⟩:=r.there q;rw[hp]at e;cases e
end
theorem jnT {Z:Kn}{F:Addr->Prop}{H:Hp}{ds:List D}{vs:List V}{i:Int}{d:D}(r:Reps Z F H ds vs)(h:atI ds i=.ok d):∃v,L2.atI vs i=some v/\Rep Z F H d v:=by
 have hl:=r.length;unfold atI at h;unfold L2.atI ixN;split at h
 ·rename_i h0;split at h
  ·rename_i d' e;cases h;obtain⟨v,e1,e2⟩:=r.get e;have hlt:=(List.getElem?_eq_some_iff.mp e1).1;refine⟨v,?_,e2⟩;rw[if_pos h0,if_pos (by omega)]
   exact e1
  ·cases h
 ·rename_i h0;split at h
  ·rename_i h1;split at h
   ·rename_i d' e;cases h;obtain⟨v,e1,e2⟩:=r.get e;refine⟨v,?_,e2⟩;rw[if_neg h0,if_pos (by omega)]
    rw[hl]at e1;exact e1
   ·cases h
  ·cases h
theorem jkl {ds:List D}{i:Int}{c:Nat}:atI ds i≠.err c:=by
 intro e;unfold atI at e;split at e <;> (try split at e) <;> (try split at e) <;> cases e
theorem jpn {x:Str}{i:Int}{c:Nat}:atC x i≠.err c:=by
 intro e;unfold atC at e;split at e
 ·split at e <;> cases e
 ·cases e
theorem jry {x:Str}{i:Int}{d:D}(h:atC x i=.ok d):∃c,d=.str ⟨#[c]⟩/\x.length<=sizeLine/\L2.atI x.cps.toList i=some c:=by
 unfold atC at h;split at h
 ·rename_i hf;have hl:x.cps.toList.length=x.length:=by simp[Str.length]
  split at h
  ·rename_i c e;cases h;refine⟨c,rfl,jbj hf,?_⟩;unfold L2.atI ixN;rw[hl];by_cases h0:0<=i
   ·rw[if_pos h0]at e;have hlt:=(List.getElem?_eq_some_iff.mp e).1;rw[if_pos h0,if_pos (by omega)]
    exact e
   ·rw[if_neg h0]at e;split at e
    ·rename_i h1;rw[if_neg h0,if_pos (by omega)]
     exact e
    ·cases e
  ·cases h
 ·cases h
theorem jmx {x y:D}{c:Nat}:jmb x y≠.err c:=by
 intro e;unfold jmb at e;split at e
 ·exact jkl e
 ·exact jkl e
 ·exact jpn e
 ·cases e
noncomputable def jsq (x y:D):R Vl:=(jmb x y).bind fun d=>.ok (.dat d)
theorem js3 {Z:Kn}{X:Cx}(hK:X.K=Z.K):IxR X (rD2 Z jsq):=by
 intro value slice pins s σ H x y v u Q I rx ry h hs;obtain⟨F,dx,dy,w,dm,bx,by_,hg,h⟩:=h;refine jq0 value slice pins s σ H x y v u Q I rx ry ?_ hs;obtain⟨d,e,hg⟩:=R.bind_ok hg;cases hg;cases dx with
 |tup ds=>
  cases dy with
  |int i=>
   obtain⟨a,vs,rfl,ft,r⟩:=bx.tup;cases by_.int;obtain⟨w,e1,rp⟩:=jnT r e;exact .inr (.inl ⟨a,vs,i,w,rfl,rfl,(by rw[hK];exact ft.sq),e1,h.sc dm rp⟩)
  |_=>cases e
 |lst ds=>
  cases dy with
  |int i=>
   obtain⟨a,vs,rfl,ft,r⟩:=bx.lst;cases by_.int;obtain⟨w,e1,rp⟩:=jnT r e;exact .inl ⟨a,vs,i,w,rfl,rfl,(by rw[hK];exact ft),e1,h.sc dm rp⟩
  |_=>cases e
 |str z=>
  cases dy with
  |int i=>
   cases bx.str;cases by_.int;obtain⟨c,rfl,e1,e2⟩:=jry e;exact .inr (.inr ⟨z,i,c,rfl,rfl,e1,e2,h.sc dm (by simp only[Rep])⟩)
  |_=>cases e
 |_=>cases e
theorem jmy {i:Expr}(h:∀a b c d,i≠.Slice a b c d):jjf i:=fun o v=>by
 cases i <;> first | rfl | exact absurd rfl (h _ _ _ _)
theorem jhB (n d:Nat)(o:Option Int):sIx n d o=HT.sIx n d o:=by cases o <;> rfl
theorem jkm {Z:Kn}{F:Addr->Prop}{H:Hp}{ds:List D}{vs:List V}(r:Reps Z F H ds vs)(lo hi:Option Int):Reps Z F H (cut ds lo hi) (jnD vs lo hi):=by
 unfold cut jnD;rw[jhB,jhB,r.length];exact(r.drop _).take _
inductive rD3_I (Z:Kn) (g:D->Option Int->Option Int->R Vl) (x:V) (lo:Option Int) (hi:Option Int) (H:Hp) (Q:VK):Prop
 |mk (F:_) (dx:_) (w:_):(Dom F H)->(RepB Z F H dx x)->(g dx lo hi=.ok w)->(PostV Z F H Q w)->rD3_I Z g x lo hi H Q
noncomputable def rD3 (Z:Kn)(g:D->Option Int->Option Int->R Vl):V->Option Int->Option Int->Hp->VK->Prop:=fun x lo hi H Q=>rD3_I Z g x lo hi H Q
theorem js4 {Z:Kn}{X:Cx}(hK:X.K=Z.K):SlR X (rD3 Z jmc):=by
 intro pins s σ H x v vl vu lo hi sl Q I rx hs pl pu h;obtain⟨F,dx,w,dm,bx,hg,h⟩:=h;refine(sl_tup.or (sl_tupW.or jou)) pins s σ H x v vl vu lo hi sl Q I rx hs pl pu ?_;cases dx with
 |tup ds=>
  cases hg;obtain⟨a,vs,rfl,ft,r⟩:=bx.tup;by_cases hw:HT.sIx vs.length 0 lo=0/\HT.sIx vs.length vs.length hi=vs.length
  ·refine .inr (.inl ⟨a,vs,rfl,(by rw[hK];exact ft.sq),hw,?_⟩)
   have e:cut ds lo hi=ds:=by
    unfold cut;rw[jhB,jhB,r.length,hw.1,hw.2,<-r.length];simp
   rw[e]at h;exact h.tupOld dm ft r
  ·exact .inl ⟨a,vs,rfl,(by rw[hK];exact ft.sq),hw,h.tup dm (jkm r lo hi)⟩
 |lst ds=>
  cases hg;obtain⟨a,vs,rfl,ft,r⟩:=bx.lst;exact .inr (.inr ⟨a,vs,rfl,(by rw[hK];exact ft),h.lst dm (jkm r lo hi)⟩)
 |_=>cases hg
inductive tO_I (Z:Kn) (X:Cx) (B:Bs) (f:Rho->R (Option Int×Rho)) (σ:L2.St) (H:L2.Hp) (Q:(Option Int->L2.Hp->Prop)):Prop
 |mk (F:_) (ρ:_):(SR Z B F H σ ρ)->(Ok (XW Z X σ ρ H) (f ρ) fun o=>∀F' H',Go σ ρ F H σ o.2 F' H'->SR Z B F' H' σ o.2->Q o.1 H')->tO_I Z X B f σ H Q
noncomputable def tO (Z:Kn)(X:Cx)(B:Bs)(f:Rho->R (Option Int×Rho)):TO:=fun σ H Q=>tO_I Z X B f σ H Q
section
variable {G:Calls}{U:Nat->Nat->Bool}{Z:Kn}{X:Cx}{B:Bs}
theorem jrz:PO X none (tO Z X B (evO G U .none)):=PO.imp jor fun σ H Q ⟨F,ρ,r,q⟩=>by
 simp only[evO]at q;exact q F H Go.refl r
theorem jrA {e:Expr}{E':E}(h:PE X e (tE Z X B (evE G U E'))):PO X (some e) (tO Z X B (evO G U (.some E'))):=PO.imp (jos h) fun σ H Q ⟨F,ρ,r,q⟩=>by
 simp only[evO]at q;refine⟨F,ρ,r,q.bind.imp (fun _ w=>w) fun p h1 v F' H' g r' rp=>?_⟩;obtain⟨w,ρ'⟩:=p;cases w with
 |dat d=>
  cases d with
  |int i=>
   have rp:Rep Z F' H' (.int i) v:=rp;simp only[Rep]at rp;exact⟨i,rp,h1 F' H' g r'⟩
  |_=>exact False.elim h1
 |_=>exact False.elim h1
theorem jmz {x:D}{l h:Option Int}{c:Nat}:jmc x l h≠.err c:=by cases x <;> (intro z;cases z)
theorem jkn {x:D}{l h:Option Int}{i:Nat}:jmc x l h≠.ok (.slot i):=by cases x <;> (intro z;cases z)
theorem tE.slice {σ:L2.St}{H:Hp}{Q:VK}{fa:Rho->R (Vl×Rho)}{fl fh:Rho->R (Option Int×Rho)}(h:tE Z X B (fun ρ=>(fa ρ).bind fun p=>(fl p.2).bind fun l=>(fh l.2).bind fun h=>(deref p.1 h.2).bind fun x=>(jmc x l.1 h.1).bind fun v=>.ok (v,h.2)) σ H Q):tSl (rD3 Z jmc) (tE Z X B fa) (tO Z X B fl) (tO Z X B fh) σ H Q:=by
 obtain⟨F,ρ,r,h⟩:=h;refine⟨F,ρ,r,h.bind.imp (fun _ w=>w) fun p h1 v F1 H1 g1 r1 rp=>⟨F1,p.2,r1,h1.bind.imp (fun c w=>w.mono g1) fun l h2 F2 H2 g2 r2=>⟨F2,l.2,r2,h2.bind.imp (fun c w=>w.mono (g1.trans g2)) fun u h3 F3 H3 g3 r3=>?_⟩⟩⟩;obtain⟨x,ex,h4⟩:=h3.bind.pure fun c=>jaO;obtain⟨w,ew,h5⟩:=h4.bind.pure fun c=>jmz;exact⟨F3,x,w,r3.dom,jbd (rp.go r1 (g2.trans g3)) r3 ex,ew,Post.toV h5 ((g1.trans g2).trans g3) r3 fun i z=>jkn (by rw[ew,z])⟩
end
end DJ
namespace DJ
open PySem PySem.Spec PyProof.Rows L2
section
variable {Z:Kn}{B:Bs}{F F1 F2:Addr->Prop}{H H0 H1 H2:Hp}{σ σ1 σ2:L2.St}{ρ ρ1 ρ2:Rho}
theorem jeA:∀{lk:List Nat}{ρ:Rho}{j:Nat}{o:O}{f k:Bool},(unlk lk ρ)[j]?=some (.own o f k)->ρ[j]?=some (.own o f k)\/(j∈lk/\k=false/\∃k',ρ[j]?=some (.own o f k'))
 |[],_,_,_,_,_,h=>.inl h
 |i::r,ρ,j,o,f,k,h=>by
  simp only[unlk]at h;have one:∀{k1:Bool},(match ρ[i]? with | some (.own o f _)=>ρ.set i (.own o f false) | _=>ρ)[j]?=some (.own o f k1)->ρ[j]?=some (.own o f k1)\/(j=i/\k1=false/\∃k',ρ[j]?=some (.own o f k')):=fun {k1} h=>by
   split at h
   ·rename_i o' f' k' e;rw[juP]at h;by_cases hij:i=j
    ·subst hij;rw[if_pos rfl]at h;split at h
     ·cases h;exact .inr ⟨rfl,rfl,k',e⟩
     ·cases h
    ·rw[if_neg hij]at h;exact .inl h
   ·exact .inl h
  rcases jeA h with h | ⟨h1,h2,k',h3⟩
  ·rcases one h with h | ⟨h1,h2,h3⟩
   ·exact .inl h
   ·exact .inr ⟨by simp[h1],h2,h3⟩
  ·rcases one h3 with h3 | ⟨_,_,h3⟩
   ·exact .inr ⟨juL _ h1,h2,k',h3⟩
   ·exact .inr ⟨juL _ h1,h2,h3⟩
theorem SR.unlk:∀{lk:List Nat}{ρ:Rho},SR Z B F H σ ρ->SR Z B F H σ (unlk lk ρ)
 |[],_,r=>r
 |i::lk,ρ,r=>by
  simp only[DJ.unlk];refine SR.unlk (lk:=lk) ?_;split
  ·rename_i o f k e;exact r.lock e false
  ·exact r
theorem Ow.unlk {lk:List Nat}{b:Addr}(h:Ow σ (unlk lk ρ) b):Ow σ ρ b:=by
 obtain⟨i,o,f,k,h1,h2⟩:=h;rcases jeA h1 with h | ⟨_,_,k',h⟩
 ·exact⟨i,o,f,k,h,h2⟩
 ·exact⟨i,o,f,k',h,h2⟩
theorem Go.unlk {lk:List Nat}(g:Go σ ρ F H σ2 ρ2 F2 H2)(hl:∀i∈lk,∃o f,ρ[i]?=some (.own o f false)):Go σ ρ F H σ2 (unlk lk ρ2) F2 H2:=by
 refine⟨g.stay,g.sub,g.new,fun j o f k b h1 h2=>?_,g.there⟩;rcases jeA h1 with h | ⟨hj,hk,k',h⟩
 ·exact g.ow j o f k b h h2
 ·rcases g.ow j o f k' b h h2 with ⟨o0,k0,a,c,d⟩ | q
  ·obtain⟨o1,f1,e⟩:=hl j hj;rw[a]at e;cases e;exact .inl ⟨o0,false,a,c,fun z=>by cases z⟩
  ·exact .inr q
structure Wlk (Z:Kn)(B:Bs)(F:Addr->Prop)(H:Hp)(σ:L2.St)(ρ ρ2:Rho)(v:V)(xs:List D)(lk:List Nat)(ls:List Addr)(b:Bool)(a:Addr)(vs:List V):Prop where
 eq:v=.ref a
 sq:SqB Z.K b H a vs
 rp:Reps Z F H xs vs
 sr:SR Z B F H σ ρ2
 go:Go σ ρ F H σ ρ2 F H
 on:∀l∈ls,(∃o,H l=some o)/\¬Mb σ ρ2 l
 lk:∀i∈lk,∃o f,ρ[i]?=some (.own o f false)
 up:∀(i:Nat) o f,ρ2[i]?=some (.own o f false)->ρ[i]?=some (.own o f false)
 good:∀F' H',GK F H ls F' H'->SqB Z.K b H' a vs/\Reps Z F' H' xs vs
theorem SR.notMb (r:SR Z B F H σ ρ){i:Nat}{o:O}{f:Bool}{l:Addr}(e:ρ[i]?=some (.own o f true))(hl:σ[i]?=some (some (.ref l))):¬Mb σ ρ l:=by
 rintro⟨j,o',f',h1,h2⟩;by_cases hij:i=j
 ·subst hij;rw[e]at h1;cases h1
 ·exact r.one i j _ _ _ _ _ _ l hij e h1 hl h2
theorem jdo {w:Vl}{v:V}{xs:List D}{lk:List Nat}(h:RV Z F H0 H σ ρ w v)(r:SR Z B F H σ ρ)(hi:jaB w ρ=.ok (xs,lk,ρ2)):∃ls b a vs,Wlk Z B F H σ ρ ρ2 v xs lk ls b a vs:=by
 cases w with
 |dat d=>
  obtain⟨ys,hs,hi⟩:=R.bind_ok hi;cases hi;have h:Rep Z F H d v:=h;cases d with
  |tup ds=>
   cases hs;simp only[Rep]at h;obtain⟨a,vs,rfl,ft,rs⟩:=h;exact⟨[],false,a,vs,rfl,.inr ⟨rfl,ft.sq⟩,rs,r,Go.refl,fun _ z=>absurd z (by simp),fun _ z=>absurd z (by simp),fun _ _ _ h=>h,fun F' H' g=>⟨.inr ⟨rfl,(ft.keep g.keep).sq⟩,rs.mono g.keep⟩⟩
  |lst ds=>
   cases hs;simp only[Rep]at h;obtain⟨a,vs,rfl,ft,rs⟩:=h;exact⟨[],true,a,vs,rfl,.inl ⟨rfl,ft.sq⟩,rs,r,Go.refl,fun _ z=>absurd z (by simp),fun _ z=>absurd z (by simp),fun _ _ _ h=>h,fun F' H' g=>⟨.inl ⟨rfl,(ft.keep g.keep).sq⟩,rs.mono g.keep⟩⟩
  |_=>cases hs
 |tmp o=>
  cases o with
  |l ys=>
   cases hi;obtain⟨l,rfl,h1,h2,h3,us,h4,h5⟩:=h;refine⟨[l],true,l,us,rfl,.inl ⟨rfl,SqL.of h4⟩,h5,r,Go.refl,fun l' z=>?_,fun _ z=>absurd z (by simp),fun _ _ _ h=>h,fun F' H' g=>⟨.inl ⟨rfl,SqL.of ((g.ls l (by simp)).trans h4)⟩,h5.mono g.keep⟩⟩
   have e:l'=l:=by simpa using z
   subst e;exact⟨⟨_,h4⟩,fun m=>h2 m.ow⟩
  |d ks vs=>cases hi
 |slot i=>
  have h:σ[i]?=some (some v):=h;simp only[jaB]at hi;split at hi
  ·rename_i ys f e;cases hi;obtain⟨l,e1,e2,⟨us,h4,h5⟩,_⟩:=r.own i _ _ _ e;rw[h]at e1;cases e1;refine⟨[l],true,l,us,rfl,.inl ⟨rfl,SqL.of h4⟩,h5,r,Go.refl,fun l' z=>?_,fun _ z=>absurd z (by simp),fun _ _ _ h=>h,fun F' H' g=>⟨.inl ⟨rfl,SqL.of ((g.ls l (by simp)).trans h4)⟩,h5.mono g.keep⟩⟩
   have q:l'=l:=by simpa using z
   subst q;exact⟨⟨_,h4⟩,r.notMb e h⟩
  ·rename_i ys f e;cases hi;obtain⟨l,e1,e2,⟨us,h4,h5⟩,_⟩:=r.own i _ _ _ e;rw[h]at e1;cases e1;have hlt:i < ρ.length:=(List.getElem?_eq_some_iff.mp e).1;have r2:=r.lock e true;refine⟨[l],true,l,us,rfl,.inl ⟨rfl,SqL.of h4⟩,h5,r2,Go.lock e,fun l' z=>?_,fun j z=>?_,fun j o f' hj=>?_,fun F' H' g=>⟨.inl ⟨rfl,SqL.of ((g.ls l (by simp)).trans h4)⟩,h5.mono g.keep⟩⟩
   ·have q:l'=l:=by simpa using z
    subst q;exact⟨⟨_,h4⟩,r2.notMb (List.getElem?_set_self hlt) h⟩
   ·have q:j=i:=by simpa using z
    subst q;exact⟨_,_,e⟩
   ·rw[juP]at hj;split at hj
    ·(first | cases hj | (split at hj <;> cases hj))
    ·exact hj
  ·cases hi
theorem jcD {w:Vl}{c:Nat}:jaB w ρ≠.err c:=by
 cases w with
 |dat d=>cases d <;> (intro z;cases z)
 |tmp o=>cases o <;> (intro z;cases z)
 |slot i=>
  simp only[jaB];split <;> (intro z;cases z)
end
structure ItR (Z:Kn)(B:Bs)(σ:L2.St)(ρ:Rho)(F:Addr->Prop)(H:Hp)(ρ1:Rho)(F1:Addr->Prop)(H1:Hp)(lk:List Nat)(ls:List Addr):Prop where
 go:Go σ ρ F H σ ρ1 F1 H1
 sr:SR Z B F1 H1 σ ρ1
 un:∀σ2 ρ2 F2 H2,Go σ ρ1 F1 H1 σ2 ρ2 F2 H2->Go σ ρ F H σ2 (unlk lk ρ2) F2 H2
 on:∀l∈ls,(∃o,H1 l=some o)/\¬Mb σ ρ1 l
inductive tI_I (Z:Kn) (X:Cx) (B:Bs) (f:Rho->R (List D×List Nat×Rho)) (σ:L2.St) (H:L2.Hp) (R:(L2.It->L2.Hp->Prop)):Prop
 |mk (F:_) (ρ:_):(SR Z B F H σ ρ)->(Ok (XW Z X σ ρ H) (f ρ) fun t=>∀F' H' J ls,ItR Z B σ ρ F H t.2.2 F' H' t.2.1 ls->ItmG Z (GK F' H' ls) J t.1->R J H')->tI_I Z X B f σ H R
noncomputable def tI (Z:Kn)(X:Cx)(B:Bs)(f:Rho->R (List D×List Nat×Rho)):TI:=fun σ H R=>tI_I Z X B f σ H R
noncomputable def jut (K:Frag)(tl:TE):TI:=fun σ H R=>tl σ H fun x H1=>∃a,x=.ref a/\((∃xs,SqL K H1 a xs/\(xs.length<=sizeLine->R (Itl K a) H1))\/(∃xs,SqT K H1 a xs/\(xs.length<=sizeLine->R (Itt K a) H1)))
theorem jrB {X:Cx}{tg l:Expr}{tl:TE}(hl:PE X l tl):PI X tg l (jut X.K tl):=by
 intro pins s σ H R I h;refine thn (hl pins s σ H _ I h) fun v s1 hzz=>?_;obtain⟨x,H1,I1,r1,q1⟩:=hzz;obtain⟨a,e,q1⟩:=q1;subst e;cases r1;rcases q1 with ⟨xs,hq,q⟩ | ⟨xs,hq,q⟩
 ·obtain⟨its,rv,p,hz⟩:=I1.list hq;refine wpAny_pyIter_list p.isList ⟨s1.heap.objs.size,[s1.heap.objs.size],_,_,H1,rfl,I1.kept (t':=s1.toks) fun b o e=>jvl _ e,ji8 a _,⟨_,jvn _ rfl,rfl,rfl⟩,fun b hb=>?_,q hz⟩;obtain rfl:b=s1.heap.objs.size:=by simpa using hb
  exact I1.fpOk (jvq _) (I1.hok.fresh (jvq _))
 ·obtain⟨its,rv,p,hz⟩:=I1.tuple hq;refine wpAny_pyIter_tuple (show s1.heap.IsTuple a its.toArray from p) ⟨s1.heap.objs.size,[s1.heap.objs.size],_,_,H1,rfl,I1.kept (t':=s1.toks) fun b o e=>jvl _ e,jhY a _,⟨_,jvn _ rfl,rfl,rfl⟩,fun b hb=>?_,q hz⟩;obtain rfl:b=s1.heap.objs.size:=by simpa using hb
  exact I1.fpOk (jvq _) (I1.hok.fresh (jvq _))
theorem jpo {Z:Kn}{G:(Addr->Prop)->Hp->Prop}{b1 b2:Bool}{l1 l2:Addr}{xs ys:List D}{vs us:List V}(len:xs.length<=sizeLine)(hG:∀F H,G F H->Dom F H->(SqB Z.K b1 H l1 vs/\Reps Z F H xs vs)/\SqB Z.K b2 H l2 us/\Reps Z F H ys us):ItmG Z G (Itz Z.K b1 b2 l1 l2) (jfz xs ys):=by
 have hz:∀(xs ys:List D),(jfz xs ys).length=min xs.length ys.length:=by
  intro xs;induction xs with
  |nil=>intro ys;simp[jfz]
  |cons x xs ih=>
   intro ys;cases ys with
   |nil=>simp[jfz]
   |cons y ys=>simp only[jfz,juU,ih ys];omega
 have hg:∀(xs ys:List D) (i:Nat) (d:D),(jfz xs ys)[i]?=some d->∃a b,xs[i]?=some a/\ys[i]?=some b/\d=.tup [a,b]:=by
  intro xs;induction xs with
  |nil=>intro ys i d h;simp[jfz]at h
  |cons x xs ih=>
   intro ys i d h;cases ys with
   |nil=>simp[jfz]at h
   |cons y ys=>
    simp only[jfz]at h;cases i with
    |zero=>simp at h;exact⟨x,y,rfl,rfl,h.symm⟩
    |succ i=>simpa using ih ys i d (by simpa using h)
 refine⟨by rw[hz];omega,fun F H g dm=>?_⟩
 obtain⟨⟨q1,r1⟩,q2,r2⟩:=hG F H g dm;refine⟨fun i d hd=>?_,⟨vs,us,q1,q2,?_⟩⟩
 ·obtain⟨a,b,ha,hb,rfl⟩:=hg xs ys i d hd;obtain⟨v,e1,p1⟩:=r1.get ha;obtain⟨u,e2,p2⟩:=r2.get hb;refine⟨⟨vs,us,v,u,q1,q2,e1,e2⟩,fun w H2 y=>?_⟩;obtain⟨p,x',y',rfl,hp,rfl,z1,z2⟩:=y;have e3:=z1 vs q1;rw[e1]at e3;cases e3;have e4:=z2 us q2;rw[e2]at e4;cases e4;have ex:=Ext.newF (o:=.tup [v,u]) dm hp;refine⟨_,ex,?_⟩;simp only[Rep];have kp:=ex.keep dm;exact⟨p,[v,u],rfl,.inl ⟨.inr rfl,.inl jaj⟩,.cons (p1.mono kp) (.one (p2.mono kp))⟩
 ·rw[hz,<-r1.length,<-r2.length];omega
section
variable {T:Tab}{G:Calls}{U:Nat->Nat->Bool}{Z:Kn}{m:Nat}{X:Cx}{sc:List (Str×NameKind)}{B:Bs}
theorem jrC (hK:X.K=Z.K){tg l:Expr}{f:Rho->R (Vl×Rho)}(hl:PE X l (tE Z X B f)):PI X tg l (tI Z X B fun ρ=>(f ρ).bind fun p=>jaB p.1 p.2):=by
 refine PI.imp (jrB hl) fun σ H R hzz=>?_;obtain⟨F,ρ,r,q⟩:=hzz;refine⟨F,ρ,r,q.bind.imp (fun _ w=>w) fun p h1 v F' H' g r' rv=>?_⟩;obtain⟨t,ht,h2⟩:=h1.pure fun c=>jcD;obtain⟨xs,lk,ρ2⟩:=t;obtain⟨ls,b,a,vs,W⟩:=jdo rv r' ht;have ir:ItR Z B σ ρ F H ρ2 F' H' lk ls:=⟨g.trans W.go,W.sr,fun σ2 ρ3 F3 H3 g3=>g.trans ((W.go.trans g3).unlk W.lk),W.on⟩;refine⟨a,W.eq,?_⟩;rw[hK];rcases W.sq with ⟨rfl,sq⟩ | ⟨rfl,sq⟩
 ·refine .inl ⟨vs,sq,fun hz=>h2 F' H' _ ls ir (jme (vs:=vs) (by rw[W.rp.length];exact hz) fun F2 H2 gk _=>?_)⟩
  obtain⟨s1,s2⟩:=W.good F2 H2 gk;rcases s1 with ⟨_,s1⟩ | ⟨z,_⟩
  ·exact⟨s1,s2⟩
  ·cases z
 ·refine .inr ⟨vs,sq,fun hz=>h2 F' H' _ ls ir (jo0 (vs:=vs) (by rw[W.rp.length];exact hz) fun F2 H2 gk _=>?_)⟩
  obtain⟨s1,s2⟩:=W.good F2 H2 gk;rcases s1 with ⟨z,_⟩ | ⟨_,s1⟩
  ·cases z
  ·exact⟨s1,s2⟩
theorem ItR.plain {σ:L2.St}{ρ ρ1:Rho}{F F1:Addr->Prop}{H H1:Hp}(g:Go σ ρ F H σ ρ1 F1 H1)(r:SR Z B F1 H1 σ ρ1):ItR Z B σ ρ F H ρ1 F1 H1 [] []:=⟨g,r,fun σ2 ρ2 F2 H2 g2=>g.trans g2,fun _ z=>absurd z (by simp)⟩
theorem jko {x:D}{c:Nat}:jdd x≠.err c:=by
 cases x <;> (intro z;simp only[jdd]at z;try split at z) <;> cases z
theorem jpp {tg a:Expr}{p pos:Pos}{f:Rho->R (Vl×Rho)}(hg:Gl X "range")(hm:X.mg "range"=none)(h:PE X a (tE Z X B f))(ns:∀e q,a≠.Starred e q) :
  PI X tg (.Call (.Name "range" p) [a] [] pos) (tI Z X B fun ρ=>(f ρ).bind fun p=>(deref p.1 p.2).bind fun x=>(jdd x).bind fun xs=>.ok (xs,[],p.2)):=by
 refine PI.imp (ji9 hg hm (jat h jba (jad ns)) (jad ns)) fun σ H R hzz=>?_;obtain⟨F,ρ,r,q⟩:=hzz;refine⟨F,ρ,r,q.bind.imp (fun _ w=>w) fun p h1 v F' H' g r' rv=>?_⟩;obtain⟨x,ex,h2⟩:=h1.bind.pure fun c=>jaO;obtain⟨xs,exs,h3⟩:=h2.bind.pure fun c=>jko;have rb:=jbd rv r' ex;cases x with
 |int n=>
  simp only[jdd]at exs;split at exs
  ·rename_i hn;cases exs;cases rb.int;exact⟨n,rfl,by omega,by omega,h3 F' H' _ [] (ItR.plain g r') (jo2 (by rw[sizeLine_eq];omega))⟩
  ·cases exs
 |_=>cases exs
theorem jpq (hK:X.K=Z.K){es:List Expr}{n:Nat}{pos':Pos}{a b:Expr}{p pos:Pos}{f f':Rho->R (Vl×Rho)}(hg:Gl X "zip")(hm:X.mg "zip"=none)(h:PE X a (tE Z X B f))(ns:∀e q,a≠.Starred e q)(h':PE X b (tE Z X B f'))(ns':∀e q,b≠.Starred e q) :
  PI X (.Tuple es n pos') (.Call (.Name "zip" p) [a,b] [] pos) (tI Z X B fun ρ=>(f ρ).bind fun p=>(f' p.2).bind fun q=>(jaB p.1 q.2).bind fun x=>(jaB q.1 x.2.2).bind fun y=>.ok (jfz x.1 y.1,x.2.1++y.2.1,y.2.2)):=by
 refine PI.imp (jq5 hg hm (jat h (jat h' jba (jad ns')) (jad ns)) (jad ns) (jcZ (jci fun x hx=>by
  have:x=b:=by simpa using hx
  subst this;exact ns'))) fun σ H R ⟨F,ρ,r,q⟩=>?_
 refine⟨F,ρ,r,q.bind.imp (fun _ w=>w) fun p h1 v F1 H1 g1 r1 rv=>⟨F1,p.2,r1,h1.bind.imp (fun c w=>w.mono g1) fun q h2 u F2 H2 g2 r2 ru=>?_⟩⟩;obtain⟨t,ht,h3⟩:=h2.bind.pure fun c=>jcD;obtain⟨t',ht',h4⟩:=h3.bind.pure fun c=>jcD;obtain⟨xs,lk1,ρ3⟩:=t;obtain⟨ys,lk2,ρ4⟩:=t';obtain⟨ls1,b1,a1,vs1,W1⟩:=jdo (rv.go r1 g2) r2 ht;obtain⟨ls2,b2,a2,vs2,W2⟩:=jdo (ru.go r2 W1.go) W1.sr ht';have g12:=g1.trans g2;have ir:ItR Z B σ ρ F H ρ4 F2 H2 (lk1++lk2) (ls1++ls2):=by
  refine⟨g12.trans (W1.go.trans W2.go),W2.sr,fun σ5 ρ5 F5 H5 g5=>g12.trans (((W1.go.trans W2.go).trans g5).unlk fun i hi=>?_),fun l hl=>?_⟩
  ·rcases List.mem_append.mp hi with hi | hi
   ·exact W1.lk i hi
   ·obtain⟨o,f,e⟩:=W2.lk i hi;exact⟨o,f,W1.up i o f e⟩
  ·rcases List.mem_append.mp hl with hl | hl
   ·obtain⟨⟨o,e⟩,nm⟩:=W1.on l hl;refine⟨⟨o,e⟩,fun z=>?_⟩;rcases W2.go.mb z with z | z
    ·exact nm z
    ·rw[e]at z;cases z
   ·exact W2.on l hl
 refine⟨a1,a2,b1,b2,vs1,vs2,by rw[W1.eq,W2.eq],(by rw[hK];exact W1.sq),(by rw[hK];exact W2.sq),fun z1 z2=>?_⟩
 rw[hK];refine h4 F2 H2 _ (ls1++ls2) ir (jpo (by rw[W1.rp.length];exact z1) fun F5 H5 gk _=>⟨W1.good F5 H5 ⟨gk.keep,fun l hl=>gk.ls l (ju7 _ hl)⟩,W2.good F5 H5 ⟨gk.keep,fun l hl=>gk.ls l (juV _ hl)⟩⟩)
end
end DJ
namespace DJ
open PySem PySem.Spec PyProof.Rows L2
noncomputable def Ty.py:Ty->String
 |.int=>"int" | .bool=>"bool" | .str=>"str" | .tuple=>"tuple" | .list=>"list" | .dict=>"dict" | .exc _=>"?" | .verr=>"ValueError"
noncomputable def clV (Z:Kn):Ty->Option V
 |.exc k=>(Z.cl[k]?).map V.ref
 |t=>some (.ty t.py)
noncomputable def jqo (Z:Kn):List Ty->Option (List V):=mapO (clV Z)
structure Ecs (U:Nat->Nat->Bool)(Z:Kn):Prop where
 ecl:∀C∈Z.cl,ECls Z.K C
 sub:∀(i j:Nat) (C D:Addr),Z.cl[i]?=some C->Z.cl[j]?=some D->jvy Z.K C (.ref D)=some (U i j)
theorem XD.ecs {T:Tab}{G:Calls}{U:Nat->Nat->Bool}{Z:Kn}{n:Nat}{X:Cx}{sc:List (Str×NameKind)}(D:XD T G U Z n X sc):Ecs U Z:=⟨by rw[<-D.hK];exact D.ecl,by rw[<-D.hK];exact D.sub⟩
section
variable {U:Nat->Nat->Bool}{Z:Kn}
theorem jpr (S:Ecs U Z){i j:Nat}{C D:Addr}(hi:Z.cl[i]?=some C)(hj:Z.cl[j]?=some D):PySem.W.kitOne Z.K (.ref C) (.ref D)=some (U i j):=by
 have hs:=S.sub i j C D hi hj;have e':=S.ecl D (juW hj);unfold PySem.W.kitOne;split
 ·rename_i z;cases beq_iff_eq.mp z;rw[(S.ecl C (juW hi)).ms]at hs;exact hs
 ·unfold PySem.W.kitCls;simp only;rw[if_pos (by rw[jvv];exact⟨e'.cd,by rw[e'.ty];rfl⟩)]
  exact hs
theorem jmA (S:Ecs U Z){i:Nat}{C:Addr}(hi:Z.cl[i]?=some C):PySem.W.kitOne Z.K (.ref C) (.type "ValueError")=some true:=by
 have e:=S.ecl C (juW hi);unfold PySem.W.kitOne;split
 ·rfl
 ·unfold PySem.W.kitCls;simp only;rw[if_pos (by decide +kernel)]
  exact e.mv
noncomputable def nmT:Ty->String
 |.int=>"int"
 |.bool=>"bool"
 |.str=>"str"
 |.tuple=>"tuple"
 |.list=>"list"
 |_=>"dict"
noncomputable def juu:Ty->Bool
 |.exc _=>false
 |.verr=>false
 |_=>true
theorem jdp {K:Frag}{t:Value}{d:D}(ht:∀k,juu k=true->PySem.W.kitOne K t (.type (nmT k))=some (tyB d k))(k:Ty)(c:V)(cv:Value)(b:Bool)(hb:tyP d k=.ok b)(hc:clV Z k=some c)(rc:RelV c cv):PySem.W.kitOne K t cv=some b:=by
 cases k with
 |exc _=>cases hb
 |verr=>cases hb
 |int=>cases hb;cases hc;cases (show cv=Value.type _ from rc);exact ht .int rfl
 |bool=>cases hb;cases hc;cases (show cv=Value.type _ from rc);exact ht .bool rfl
 |str=>cases hb;cases hc;cases (show cv=Value.type _ from rc);exact ht .str rfl
 |tuple=>cases hb;cases hc;cases (show cv=Value.type _ from rc);exact ht .tuple rfl
 |list=>cases hb;cases hc;cases (show cv=Value.type _ from rc);exact ht .list rfl
 |dict=>cases hb;cases hc;cases (show cv=Value.type _ from rc);exact ht .dict rfl
theorem jrD (S:Ecs U Z){X:Cx}(hK:X.K=Z.K){pins:List (Addr×Obj)}{s:Shared}{σ:L2.St}{F:Addr->Prop}{H:Hp}{d:D}{x:V}{u:Value}(I:Inv X pins σ H s)(rp:RepB Z F H d x)(rx:RelV x u) :
  ∃(t:Value) (P:Heap->Prop),PySem.W.KitX X.K u t P/\P s.heap/\u≠.builtin "__main__.__loader__#opaque"/\∀(k:Ty) (c:V) (cv:Value) (b:Bool),jqn U d k=.ok b->clV Z k=some c->RelV c cv->PySem.W.kitOne X.K t cv=some b:=by
 cases d with
 |non=>
  cases rp.non;cases (show u=Value.none from rx);refine⟨_,_,PySem.W.kitx_none,True.intro,(fun z=>nomatch z),jdp fun k hk=>by cases k <;> first | rfl | cases hk⟩
 |bl y=>
  cases rp.bl;cases (show u=Value.bool y from rx);refine⟨_,_,PySem.W.kitx_bool,True.intro,(fun z=>nomatch z),jdp fun k hk=>by cases k <;> first | rfl | cases hk⟩
 |int i=>
  cases rp.int;obtain⟨t',rfl⟩:=(show ∃t,u=Value.int i t from rx);refine⟨_,_,PySem.W.kitx_int,True.intro,(fun z=>nomatch z),jdp fun k hk=>by cases k <;> first | rfl | cases hk⟩
 |str y=>
  cases rp.str;obtain⟨t',rfl⟩:=(show ∃t,u=Value.str y t from rx);refine⟨_,_,PySem.W.kitx_str,True.intro,(fun z=>nomatch z),jdp fun k hk=>by cases k <;> first | rfl | cases hk⟩
 |tup ds=>
  obtain⟨a,vs,rfl,ft,r⟩:=rp.tup;cases (show u=Value.ref a from rx);obtain⟨its,_,p,_⟩:=I.tuple (by rw[hK];exact ft.sq)
  obtain⟨o,h1,h2,_⟩:=p;refine⟨_,_,PySem.W.kitx_tuple,⟨o,h1,h2⟩,(fun z=>nomatch z),jdp fun k hk=>by cases k <;> first | rfl | cases hk⟩
 |lst ds=>
  obtain⟨a,vs,rfl,ft,r⟩:=rp.lst;cases (show u=Value.ref a from rx);obtain⟨its,_,⟨o,n,h1,h2,_⟩,_⟩:=I.list (by rw[hK];exact ft)
  refine⟨_,_,PySem.W.kitx_list,⟨o,h1,h2⟩,(fun z=>nomatch z),jdp fun k hk=>by cases k <;> first | rfl | cases hk⟩
 |dct ks vs=>
  obtain⟨a,rfl,_,_,e⟩:=rp.dct;cases (show u=Value.ref a from rx);obtain⟨_,_,vs,_,p⟩:=(show ObjOk X.prog X.w H s.heap a (.dK [])from I.hok a _ e);obtain⟨o,es,ep,h1,h2,_⟩:=p;refine⟨_,_,PySem.W.kitx_dict,⟨o,h1,h2.1⟩,(fun z=>nomatch z),jdp fun k hk=>by cases k <;> first | rfl | cases hk⟩
 |exc c=>
  have rp:=rp.flat (fun o z=>by cases o <;> cases z)
  simp only[Rep]at rp;obtain⟨a,C,rfl,_,hC,e⟩:=rp;cases (show u=Value.ref a from rx);obtain⟨⟨o,vs,h1,h2,_⟩,_⟩:=(show ObjOk X.prog X.w H s.heap a (.ext (jhs a C))from I.hok a _ e);have ec:=S.ecl C (juW hC);refine⟨_,_,jlL (K:=X.K) (by rw[hK];exact ec),⟨o,h1,h2⟩,(fun z=>nomatch z),fun k c' cv b hb hc rc=>?_⟩
  rw[hK];cases k with
  |exc j=>
   cases hb;simp only[clV]at hc;cases hj:Z.cl[j]? with
   |none=>rw[hj]at hc;cases hc
   |some D=>
    rw[hj]at hc;cases hc;cases (show cv=Value.ref D from rc);exact jpr S hC hj
  |verr=>
   cases hb;cases hc;cases (show cv=Value.type _ from rc);exact jmA S hC
  |_=>cases hb
theorem jkp {K:Frag}{t:Value}{d:D}(h:∀(k:Ty) (c:V) (cv:Value) (b:Bool),jqn U d k=.ok b->clV Z k=some c->RelV c cv->PySem.W.kitOne K t cv=some b):∀{ks:List Ty}{cs:List V}{cvs:List Value}{b:Bool},jal U d ks=.ok b->jqo Z ks=some cs->Vals cs cvs->PySem.W.kitAny K t cvs=some b
 |[],cs,cvs,b,h1,h2,h3=>by
  cases h2;cases h3;cases h1;rfl
 |k::ks,cs,cvs,b,h1,h2,h3=>by
  obtain⟨c,cs',e1,e2,rfl⟩:=jay h2;cases h3 with
  |@cons _ cv _ cvs' r1 r2=>
   simp only[jal]at h1;obtain⟨b1,q1,h1⟩:=R.bind_ok h1;have z:=h k c cv b1 q1 e1 r1;unfold PySem.W.kitAny;rw[z];cases b1 with
   |true=>cases h1;rfl
   |false=>exact jkp h h1 e2 r2
theorem jps {d:D}{t:Ty}{c:Nat}:tyP d t≠.err c:=by cases t <;> (intro z;cases z)
theorem jmB {d:D}{t:Ty}{c:Nat}:jqn U d t≠.err c:=by
 cases d with
 |exc e=>cases t <;> (intro z;cases z)
 |_=>exact jps
theorem jfH {d:D}{c:Nat}:∀{ks:List Ty},jal U d ks≠.err c
 |[],z=>by cases z
 |k::ks,z=>by
  simp only[jal]at z;cases e:jqn U d k with
  |ok b=>
   rw[e,R.bind_ok']at z;cases b with
   |true=>cases z
   |false=>exact jfH z
  |err c'=>exact jmB e
  |stk=>rw[e]at z;cases z
noncomputable def jnU (Z:Kn)(ks:List Ty)(y:V)(H:Hp):Prop:=(∃k,ks=[k]/\clV Z k=some y)\/∃p cs,y=.ref p/\jqo Z ks=some cs/\H p=some (.tup cs)
theorem jmC (S:Ecs U Z){X:Cx}(hK:X.K=Z.K){ks:List Ty}:CallR X (.builtin "isinstance") (fun xs H Q=>∃x y F d b,xs=[x,y]/\jnU Z ks y H/\RepB Z F H d x/\jal U d ks=.ok b/\Q (.bl b) H):=by
 intro pins s σ H xs us Q I r h;obtain⟨x,y,F,d,b,rfl,hy,rp,hb,q⟩:=h;obtain⟨u,w',rfl,rx,ry⟩:=jqV r;obtain⟨t,P,kx,hp,hne,ho⟩:=jrD S hK I rp rx;rcases hy with ⟨k,rfl,hc⟩ | ⟨p,cs,rfl,hc,hH⟩
 ·have hb1:jqn U d k=.ok b:=by
   simp only[jal]at hb;obtain⟨b1,e,hb⟩:=R.bind_ok hb;cases b1 <;> cases hb <;> exact e
  exact PySem.W.kia_one kx I.kIn hp (ho k y w' b hb1 hc ry) hne fun tk=>⟨.bl b,H,I.tok tk,rfl,q⟩
 ·cases (show w'=Value.ref p from ry);obtain⟨_,its,rv,o,h1,h2,n,h3⟩:=(show ObjOk X.prog X.w H s.heap p (.tup cs)from I.hok p _ hH);obtain⟨ocls,odict,odata,oslots⟩:=o;cases h2;cases h3;exact PySem.W.kia_tup kx I.kIn hp h1 (jkp ho hb hc rv) hne fun tk=>⟨.bl b,H,I.tok tk,rfl,q⟩
end
noncomputable def js5 (T:Tab)(x:Str):Option Ty:=if x="int" then some .int else if x="bool" then some .bool else if x="str" then some .str else if x="tuple" then some .tuple else if x="list" then some .list else if x="dict" then some .dict else if x="ValueError" then some .verr else (jdx T.excs x).map .exc
section
variable {T:Tab}{G:Calls}{U:Nat->Nat->Bool}{Z:Kn}{m:Nat}{X:Cx}{sc:List (Str×NameKind)}{B:Bs}
theorem jrE (D:XD T G U Z m X sc){x:Str}{t:Ty}{pos:Pos}(hk:knd sc x=2)(hb:jdY x=false)(h:js5 T x=some t):∃v,clV Z t=some v/\PE X (.Name x pos) (tC v):=by
 have blt:∀{n:String}{y:Str},y∈bltNames->bootBuiltins y=some (.type n)->x=y->PE X (.Name x pos) (tC (.ty n)):=fun {n y} h1 h2 e=>by
  subst e;exact joe (D.gl hk) (D.blt _ h1) h2 rfl (jez hb).2 (jez hb).1
 unfold js5 at h;split at h
 ·rename_i e;cases h;exact⟨_,rfl,blt (by decide +kernel) (by decide +kernel) e⟩
 ·split at h
  ·rename_i e;cases h;exact⟨_,rfl,blt (by decide +kernel) (by decide +kernel) e⟩
  ·split at h
   ·rename_i e;cases h;exact⟨_,rfl,blt (by decide +kernel) (by decide +kernel) e⟩
   ·split at h
    ·rename_i e;cases h;exact⟨_,rfl,blt (by decide +kernel) (by decide +kernel) e⟩
    ·split at h
     ·rename_i e;cases h;exact⟨_,rfl,blt (by decide +kernel) (by decide +kernel) e⟩
     ·split at h
      ·rename_i e;cases h;exact⟨_,rfl,blt (by decide +kernel) (by decide +kernel) e⟩
      ·split at h
       ·rename_i e;cases h;exact⟨_,rfl,blt (by decide +kernel) (by decide +kernel) e⟩
       ·cases q:jdx T.excs x with
        |none=>rw[q]at h;cases h
        |some i=>
         rw[q]at h;cases h;obtain⟨C,h1,h2⟩:=D.excs i x (jaE q);exact⟨.ref C,by simp[clV,h1],ji5 (D.gl hk) h2 rfl (jez hb).1⟩
noncomputable def jmD (T:Tab)(sc:List (Str×NameKind))(e:Expr):Option Ty:=(jin e).bind fun x=>gd (jdY x || knd sc x != 2) (js5 T x)
noncomputable def jkq (T:Tab)(sc:List (Str×NameKind))(e:Expr):Option (List Ty):=jpa (jmq e) (mapO (jmD T sc)) ((jmD T sc e).map fun t=>[t])
theorem jhC (D:XD T G U Z m X sc){e:Expr}{t:Ty}(h:jmD T sc e=some t):(∃v,clV Z t=some v/\PE X e (tC v))/\∀a p,e≠.Starred a p:=by
 replace h:=jae h;obtain⟨x,hx,h⟩:=h;obtain⟨p,rfl⟩:=ja3 hx;replace h:=jak h;obtain⟨hc,h⟩:=h;obtain⟨c1,c2⟩:=jbE hc;exact⟨jrE D (jgB c2) c1 h,fun _ _ z=>by cases z⟩
noncomputable def tCs:List V->TA
 |[]=>joo
 |v::vs=>jgj (tC v) (tCs vs)
theorem jnV:∀{vs:List V}{σ:L2.St}{H:Hp}{Q:List V->Hp->Prop},Q vs H->tCs vs σ H Q
 |[],_,_,_,q=>q
 |v::vs,σ,H,Q,q=>jnV (vs:=vs) (Q:=fun xs H1=>Q (v::xs) H1) q
theorem jkr (D:XD T G U Z m X sc):∀{es:List Expr}{ks:List Ty},mapO (jmD T sc) es=some ks->∃cs,jqo Z ks=some cs/\PA X es (tCs cs)
 |[],ks,h=>by cases h;exact⟨[],rfl,jba⟩
 |e::es,ks,h=>by
  obtain⟨k,ks',h1,h2,rfl⟩:=jay h;obtain⟨⟨v,e1,e2⟩,ns⟩:=jhC D h1;obtain⟨cs,e3,e4⟩:=jkr D h2;refine⟨v::cs,?_,jat e2 e4 (jad ns)⟩;simp only[jqo,mapO]at e3 ⊢;rw[e1,e3]
theorem jhD:∀{ks:List Ty}{cs:List V},jqo Z ks=some cs->cs.length=ks.length
 |[],cs,h=>by cases h;rfl
 |k::ks,cs,h=>by
  obtain⟨c,cs',_,q2,rfl⟩:=jay h;rw[juU,juU,jhD q2]
noncomputable def tCA (Z:Kn)(ks:List Ty):TE:=fun σ H Q=>(∀y,jnU Z ks y H->Q y H)/\∀p cs,H p=none->jqo Z ks=some cs->Q (.ref p) (upd H p (.tup cs))
theorem jpt (D:XD T G U Z m X sc){e:Expr}{ks:List Ty}(hl:ks.length<=100)(h:jkq T sc e=some ks):PE X e (tCA Z ks)/\∀a p,e≠.Starred a p:=by
 replace h:=jbQ h;rcases h with ⟨es,he,h⟩ | h
 ·obtain⟨k,p,rfl⟩:=jdk he;obtain⟨cs,e1,e2⟩:=jkr D h;refine⟨PE.imp (jnC e2) fun σ H Q q=>jnV ⟨?_,fun p hp=>q.2 p cs hp e1⟩,fun _ _ z=>by cases z⟩
  rw[jhD e1,sizeLine_eq];omega
 ·replace h:=jap h;obtain⟨t,q,rfl⟩:=h;obtain⟨⟨v,e1,e2⟩,ns⟩:=jhC D q;exact⟨PE.imp e2 fun σ H Q z=>z.1 v (.inl ⟨t,rfl,e1⟩),ns⟩
theorem jpu (D:XD T G U Z m X sc){a e:Expr}{E1:E}{ks:List Ty}{p pos:Pos}(hf:knd sc "isinstance"=2)(hl:ks.length<=100)(h:PE X a (tE Z X B (evE G U E1)))(ns:∀e q,a≠.Starred e q)(hks:jkq T sc e=some ks) :
  PE X (.Call (.Name "isinstance" p) [a,e] [] pos) (tE Z X B (evE G U (.isi E1 ks))):=by
 obtain⟨hp,ns2⟩:=jpt D hl hks;refine PE.imp (jbb (jmC D.ecs D.hK (ks:=ks)) (D.gl hf) (D.blt _ (by decide +kernel)) (by decide +kernel) (jat h (jat hp jba (jad ns2)) (jad ns)) (by decide) (by decide) (jad ns) (jcZ (jci fun x hx=>by
  have:x=e:=by simpa using hx
  subst this;exact ns2))) fun σ H Q ⟨F,ρ,r,q⟩=>?_
 simp only[evE]at q;refine⟨F,ρ,r,q.bind.imp (fun _ w=>w) fun p1 h1 v F' H' g r' rv=>?_⟩;obtain⟨x,ex,h2⟩:=h1.bind.pure fun c=>jaO;obtain⟨b,eb,h3⟩:=h2.bind.pure fun c=>jfH;have rb:=jbd rv r' ex;refine⟨fun y hy=>⟨v,y,F',x,b,rfl,hy,rb,eb,h3 _ F' H' g r' (by show Rep _ _ _ _ _;simp only[Rep])⟩,fun p cs hp hcs=>?_⟩
 have e:=Ext.newO (o:=.tup cs) r'.dom hp;have kp:=e.keep r'.dom;refine⟨v,.ref p,F',x,b,rfl,.inr ⟨p,cs,rfl,hcs,jaj⟩,?_,eb,h3 _ F' _ (g.trans e.go) (r'.ext e) (by show Rep _ _ _ _ _;simp only[Rep])⟩
 rcases rb with rb | ⟨l,o,e1,e2,e3⟩
 ·exact .inl (rb.mono kp)
 ·obtain⟨w,hw⟩:=e3.some;exact .inr ⟨l,o,e1,e2,e3.mono kp (by rw[jac (jab hw hp)])⟩
end
end DJ
namespace DJ
open PySem PySem.Spec PyProof.Rows L2
theorem Un.sameBut {fs ex:List Addr}{H H':Hp}{h h1 h2:Heap}{C:Addr}(u:Un fs ex H H' h h1)(hC:h.objs.size<=C)(s:Heap.SameBut C h1 h2):Un fs ex H H' h h2:=by
 have ne:∀b o,h.get? b=some o->b≠C:=fun b o e=>jvs (jvr (jvm e) hC);refine⟨fun b o e n hb hx=>(s.2 b (ne b o e)).trans (u.keep b o e n hb hx),fun b o e n hb hx=>?_,u.free,fun b o e hx=>?_,u.tups,u.frzs,u.tbls⟩
 ·obtain⟨sl,q⟩:=u.slot b o e n hb hx;exact⟨sl,(s.2 b (ne b o e)).trans q⟩
 ·obtain⟨o',q⟩:=u.there b o e hx;exact⟨o',(s.2 b (ne b o e)).trans q⟩
theorem HOk.sameBut {P:Program}{w:World}{H:Hp}{h1 h2:Heap}{C:Addr}(k:HOk P w H h1)(n:H C=none)(s:Heap.SameBut C h1 h2):HOk P w H h2:=fun b ob e=>by
 refine(k b ob e).stay (fun c w' hc q=>(s.2 c ?_).trans q) (fun _ q=>q) fun _ _ q=>q;rintro rfl;rcases hc with rfl | hc
 ·rw[n]at e;cases e
 ·rw[n]at hc;cases hc
section
variable {X:Cx}{scope:Scope}{N cn:List Str}{nt:Nat}{caps:List Nat}{B:Bs}{Z:Kn}{elt tg iter:Expr}{ks:List Expr}{pos:Pos}{tgs:List Nat}{one:Bool}{fi:Rho->R (List D×List Nat×Rho)}{fc:Option (Rho->R (Bool×Rho))}{fe:Rho->R (Vl×Rho)}
theorem jhE {pins:List (Addr×Obj)}{σ:L2.St}{H1:Hp}{s3:Shared}{fp:List Addr}(I3:Inv X pins σ H1 s3)(fo:∀b∈fp,(b∈X.ex\/X.s₀.heap.objs.size<=b)/\b≠X.env.locals/\(∀x c,X.env.cells.lookup x=some c->c≠b)/\∀p∈X.pn++pins,p.1≠b)
  {σ':L2.St}{H':Hp}{s':Shared} (IY:Inv (cxComp X N scope s3 H1 fp) [] σ' H' s') {h':Heap} (sb:Heap.SameBut s3.heap.objs.size s'.heap h'):Inv X pins σ H' { s' with heap:=h' }:=
 I3.call' IY.os (Un.sameBut IY.base (jvq _) sb) (HOk.sameBut IY.hok IY.free sb) IY.bare fo
theorem CompOk.capLt (C:CompOk X scope N cn nt caps):∀j∈caps,j < X.N.length:=fun j hj=>by
 obtain⟨k,hk,e⟩:=List.getElem_of_mem hj;have hk':k < cn.length:=by rw[C.clen];exact hk
 obtain⟨h1,_⟩:=C.at_ k j cn[k] (juK hk') (by rw[juK hk,e])
 exact(List.getElem?_eq_some_iff.mp h1).1
theorem jpv (hK:X.K=Z.K)(hc:X.calm=true)(C:CompOk X scope N cn nt caps)(hi:PI X tg iter (tI Z X B fi))
  (hT:∀s' H' fp,TgOk (cxComp X N scope s' H' fp) tg tgs one) (hlow:∀i∈tgs,i < nt)
  (hE:∀s' H' fp B',PE (cxComp X N scope s' H' fp) elt (tE Z (cxComp X N scope s' H' fp) B' fe))
  (hk:(ks=[]/\fc=none)\/∃k g,ks=[k]/\fc=some g/\∀s' H' fp B',PT (cxComp X N scope s' H' fp) k (tT Z (cxComp X N scope s' H' fp) B' g)) (hs:∀x,foldedSetIterable iter X.env x=pure x) :
  PE X (.ListComp elt [⟨tg,iter,ks,0⟩] scope pos) (tE Z X B fun ρ=>(fi ρ).bind fun t=>((compGo (jdh tgs one nt caps fc fe) t.1 t.2.2).noErr).bind fun ys=>.ok (.tmp (.l ys.1),unlk t.2.1 ys.2)):=by
 intro pins s σ H Q I hz1;obtain⟨F,ρ,r,h⟩:=hz1;rw[eval_ListComp];refine wpAny_comprehension_free (use:=none) rfl hs (jjW (C.cells I)) C.kind C.names ?_;refine thn (hi pins s σ H (fun J H'=>∃(F':Addr->Prop) (t:List D×List Nat×Rho) (ls:List Addr),ItR Z B σ ρ F H t.2.2 F' H' t.2.1 ls/\ItmG Z (GK F' H' ls) J t.1/\Ok (XW Z X σ ρ H) (((compGo (jdh tgs one nt caps fc fe) t.1 t.2.2).noErr).bind fun ys=>.ok (.tmp (.l ys.1),unlk t.2.1 ys.2)) (Post Z B σ ρ F H Q)) I
  ⟨F,ρ,r,h.bind.imp (fun _ w=>w) fun t h1 F' H' J ls ir im=>⟨F',t,ls,ir,im,h1⟩⟩) fun v s1 h1=>thn h1 fun itv s2 hzz=>?_
 obtain⟨it,fp,tn,J,H2,e,I2,Tn,st2,f2,F2,t,ls,ir,im,q2⟩:=hzz;subst e;cases hY:compGo (jdh tgs one nt caps fc fe) t.1 t.2.2 with
 |err c=>rw[hY]at q2;exact False.elim q2
 |stk=>rw[hY]at q2;exact False.elim q2
 |ok ys=>
  rw[hY]at q2;have q2:Post Z B σ ρ F H Q (.tmp (.l ys.1),unlk t.2.1 ys.2):=q2;refine jhw (RR:=fun acc C'=>compPost (model X.prog X.w) X.A X.xe none (EP X pins σ Q) acc C') hK hc C I2 ir.sr (im.wk hK (fun l hl=>(ir.on l hl).1) Tn) (fun l hl=>(ir.on l hl).2) st2 f2 (fun s' H'=>hT s' H' fp) hlow (fun j hj=>?_) (fun s' H' B'=>hE s' H' fp B') ?_ hY ?_
  ·rw[ir.sr.len,I2.len];exact C.capLt j hj
  ·rcases hk with z | ⟨k,g,e1,e2,hk⟩
   ·exact .inl z
   ·exact .inr ⟨k,g,e1,e2,fun s' H' B'=>hk s' H' fp B'⟩
  ·intro s3 l σ' F' H' s' vs hl I3 IY gE rE nF nO hl' rp;obtain⟨m,hn,_⟩:=IY.loc;refine⟨m,hn,fun h' sb=>?_⟩;refine⟨.ref l,H',jhE I3 (fun b hb=>?_) IY sb,rfl,q2 _ F' H' (ir.un σ ys.2 F' H' gE) rE.unlk ⟨l,rfl,nF,fun z=>nO z.unlk,ir.go.free hl,vs,hl',rp⟩⟩;obtain⟨f0,f1,f3,f4,f5,f6⟩:=f2 b hb;exact⟨f4,f1,f5,f6⟩
end
theorem XD.comp {T:Tab}{G:Calls}{U:Nat->Nat->Bool}{Z:Kn}{n:Nat}{X:Cx}{sc:List (Str×NameKind)}(D:XD T G U Z n X sc){scope:Scope}{N:List Str}{s:Shared}{H:Hp}{fp:List Addr}(nd:N.Nodup):XD T G U Z n (cxComp X N scope s H fp) scope.names where
 hK:=D.hK
 calm:=D.calm
 nd:=nd
 room:=D.room
 un:=D.un
 sc:=fun x=>by
  show (relabel scope X.env).names.lookup x=_\/_/\(relabel scope X.env).names.lookup x=_;unfold relabel;simp only;rw[ja4 (c:=fun n k=>k == .free && X.env.scope.kind == .function && X.env.kindOf n == some .cell)];cases e:scope.names.lookup x with
  |none=>exact .inl rfl
  |some k=>
   simp only[Option.map_some];split
   ·rename_i h;simp only[jvv,beq_iff_eq]at h;exact .inr ⟨by rw[h.1.1],rfl⟩
   ·exact .inl rfl
 blt:=D.blt
 defs:=D.defs
 cons:=D.cons
 excs:=D.excs
 ecl:=D.ecl
 sub:=D.sub
section
variable {T:Tab}{G:Calls}{U:Nat->Nat->Bool}{Z:Kn}{m:Nat}{X:Cx}{sc:List (Str×NameKind)}{B:Bs}
theorem tE.blt {f:Bf}{E1:E}{σ:L2.St}{H:Hp}{Q:VK}{rr:List V->Hp->VK->Prop}(hr:∀x H Q,rD1 Z (bfD f) x H Q->rr [x] H Q)(h:tE Z X B (evE G U (.blt f E1)) σ H Q):tCB rr (jgj (tE Z X B (evE G U E1)) joo) σ H Q:=by
 have h2:tE Z X B (fun ρ=>(evE G U E1 ρ).bind fun p=>(deref p.1 p.2).bind fun x=>(bfD f x).bind fun v=>.ok (v,p.2)) σ H Q:=by simpa only[evE] using h
 obtain⟨F,ρ,r,h3⟩:=tE.one (fun x c=>jo9) (fun x i=>jmp) h2;exact⟨F,ρ,r,h3.imp (fun _ w=>w) fun p q v F' H' g r' rv=>hr v H' Q (q v F' H' g r' rv)⟩
theorem jks:∀(a b:List Int),lexLt a b=HS.lx a b
 |[],[]=>rfl
 |[],_::_=>rfl
 |_::_,[]=>rfl
 |x::xs,y::ys=>by simp only[lexLt,HS.lx,jks xs ys]
theorem jdq (x:List Int):∀(l:List (List Int)),(jfy x l).Perm (x::l)
 |[]=>.refl _
 |y::r=>by
  simp only[jfy];split
  ·exact((jdq x r).cons y).trans (.swap x y r)
  ·exact .refl _
theorem jcE:∀(l:List (List Int)),(ja9 l).Perm l
 |[]=>.refl _
 |x::r=>(jdq x (ja9 r)).trans ((jcE r).cons x)
theorem jfI {x:List Int}:∀{l:List (List Int)},HS.Rise l->HS.Rise (jfy x l)
 |[],_=>List.pairwise_singleton _ _
 |y::r,h=>by
  obtain⟨h1,h2⟩:=List.pairwise_cons.mp h;simp only[jfy];split
  ·rename_i e;refine List.pairwise_cons.mpr ⟨fun z hz=>?_,jfI h2⟩;rcases List.mem_cons.mp ((jdq x r).mem_iff.mp hz)with rfl | hz
   ·rw[jks]at e;exact HS.jgt e
   ·exact h1 z hz
  ·rename_i e;have e:HS.lx y x=false:=by rw[<-jks];simpa using e
   refine List.pairwise_cons.mpr ⟨fun z hz=>?_,h⟩;rcases List.mem_cons.mp hz with rfl | hz
   ·exact e
   ·exact HS.jes e (h1 z hz)
theorem jcF:∀(l:List (List Int)),HS.Rise (ja9 l)
 |[]=>List.Pairwise.nil
 |x::r=>jfI (jcF r)
theorem onceK_mem {y:List Int}:∀{l:List (List Int)},y∈jbX l↔y∈l
 |[]=>Iff.rfl
 |x::r=>by
  simp only[jbX];split
  ·rename_i h;rw[onceK_mem,juN];have hx:x∈r:=by simpa using h
   exact⟨.inr,fun z=>z.elim (fun z=>z ▸ hx) id⟩
  ·rw[juN,juN,onceK_mem]
theorem jb7:∀(l:List (List Int)),(jbX l).Nodup
 |[]=>List.nodup_nil
 |x::r=>by
  simp only[jbX];split
  ·exact jb7 r
  ·rename_i h;refine List.nodup_cons.mpr ⟨fun z=>?_,jb7 r⟩;rw[onceK_mem]at z;exact h (by simpa using z)
noncomputable def Zf (Z:Kn)(F:Addr->Prop)(H:Hp)(k:List Int)(b:Addr):Prop:=FT Z.K F H b (k.map V.int)
theorem jeB {F:Addr->Prop}{H:Hp}:∀{ds:List D}{kss:List (List Int)}{vs:List V},jbc ds=some kss->Reps Z F H ds vs->KysV (Zf Z F H) kss vs
 |[],kss,vs,h,r=>by simp only[Reps]at r;subst r;cases h;exact .nil
 |d::ds,kss,vs,h,r=>by
  obtain⟨v,us,rfl,r1,r2⟩:=r.uncons;cases d with
  |tup xs=>
   simp only[jbc]at h;split at h
   ·rename_i k ks e1 e2;cases h;simp only[Rep]at r1;obtain⟨a,ws,rfl,ft,rr⟩:=r1;cases jcf e1 rr;exact .cons ⟨a,rfl,ft⟩ (jeB e2 r2)
   ·cases h
  |_=>cases h
theorem jfJ {F:Addr->Prop}{H:Hp}{kss:List (List Int)}{vs:List V}(h:KysV (Zf Z F H) kss vs):Reps Z F H (kss.map jso) vs:=by
 induction h with
 |nil=>exact .nil
 |@cons k _ _ _ h p ih=>
  obtain⟨b,e,h⟩:=h;subst e;refine .cons ?_ ih;simp only[jso,Rep];refine⟨b,_,rfl,h,?_⟩;clear h p ih;induction k with
  |nil=>exact .nil
  |cons i k ih=>exact .cons (by simp only[Rep]) ih
theorem jeC:∀{ds:List D}{kss:List (List Int)},jbc ds=some kss->kss.length=ds.length
 |[],kss,h=>by cases h;rfl
 |d::ds,kss,h=>by
  cases d with
  |tup xs=>
   simp only[jbc]at h;split at h
   ·rename_i k ks e1 e2;cases h;rw[juU,juU,jeC e2]
   ·cases h
  |_=>cases h
theorem jfK {kss:List (List Int)}{w:Vl}(h:jet kss=.ok w):w=.tmp (.l ((ja9 kss).map jso))/\(∀k∈kss,k≠[])/\kss.length < 64:=by
 unfold jet at h;split at h
 ·rename_i hc;cases h;simp only[jvv,ju3,decide_eq_true_eq]at hc;refine⟨rfl,fun k hk z=>?_,hc.2⟩;have:=hc.1 k hk;rw[z]at this;cases this
 ·cases h
theorem jkt (hZ:X.K=Z.K){F:Addr->Prop}{H:Hp}:Zok X.K H (Zf Z F H):=fun k b h=>by rw[hZ];exact h.sq
theorem jku (hZ:X.K=Z.K):∀x H Q,rD1 Z (bfD .sorted) x H Q->jrm X [x] H Q:=by
 intro x H Q hz1;obtain⟨F,d,w,dm,rp,hw,h⟩:=hz1;cases d with
 |lst xs=>
  simp only[bfD]at hw;cases e:jbc xs with
  |none=>rw[e]at hw;cases hw
  |some kss=>
   rw[e]at hw;obtain⟨rfl,h1,h2⟩:=jfK hw;obtain⟨a,vs,rfl,ft,r⟩:=rp.lst;refine⟨a,vs,kss,Zf Z F H,rfl,by rw[hZ];exact ft,jkt hZ,jeB e r,h1,by rw[<-r.length,<-jeC e];exact h2,fun kss' ws hp hr hk l hl=>?_⟩
   rw[HS.jdc (hp.trans (jcE kss).symm) hr (jcF kss)]at hk;exact h.lst dm (jfJ hk) l hl
 |_=>simp only[bfD,jaA]at hw;cases hw
theorem jip (hZ:X.K=Z.K):∀x H Q,rD1 Z (bfD .ssorted) x H Q->joW X [x] H fun v H'=>joY X [v] H' Q:=by
 intro x H Q hz1;obtain⟨F,d,w,dm,rp,hw,h⟩:=hz1;simp only[bfD]at hw;obtain⟨xs,hs,hw⟩:=R.bind_ok hw;obtain⟨p,vs,rfl,sq,r⟩:=jb4 rp hs;cases e:jbc xs with
 |none=>rw[e]at hw;cases hw
 |some kss=>
  rw[e]at hw;dsimp only at hw;split at hw
  ·rename_i h4;obtain⟨rfl,h1,h2⟩:=jfK hw;refine⟨p,vs,kss,Zf Z F H,rfl,jim hZ sq,jkt hZ,jeB e r,by rw[<-r.length,<-jeC e];exact h4,fun S ks hS hm hn hl=>?_⟩
   have hperm:ks.Perm (jbX kss):=(List.perm_ext_iff_of_nodup hn (jb7 kss)).mpr fun y=>by rw[hm,onceK_mem]
   refine⟨S,Zf Z F H,ks,rfl,jaj,by rw[jeg hS];exact jkt hZ,fun k hk=>h1 k (hperm.mem_iff.mp hk),by rw[hperm.length_eq];exact h2,fun kss' ws hp hr hk l hl=>?_⟩
   rw[HS.jdc ((hp.trans hperm).trans (jcE (jbX kss)).symm) hr (jcF _)]at hk;rw[jeg hS]at hl ⊢;exact h.lst dm (jfJ hk) l hl
  ·cases hw
noncomputable def jtZ (quiet:Bool)(f:Str):Option Bf:=
 alt (f == "len") (some .len) <|
 alt (f == "tuple") (some .tuple) <|
 alt (f == "list") (some .list) <|
 gd quiet <|
 alt (f == "all") (some .all) <|
 alt (f == "any") (some .any) <|
 alt (f == "sum") (some .sum) <|
 alt (f == "sorted") (some .sorted) <|
 none
theorem jpw (D:XD T G U Z m X sc){f:Str}{g:Bf}{a:Expr}{E1:E}{p pos:Pos}(hf:knd sc f=2)(hb:jdY f=false)(S:PE X a (tE Z X B (evE G U E1)))(ns:∀e q,a≠.Starred e q)(hg:jtZ T.quiet f=some g) :
  PE X (.Call (.Name f p) [a] [] pos) (tE Z X B (evE G U (.blt g E1))):=by
 have hpa:PA X [a] (jgj (tE Z X B (evE G U E1)) joo):=jat S jba (jad ns);have he:starEach [a] X.env=(false,eval a X.env)::starEach [] X.env:=jad ns;have hd:=(jez hb).1;have hn:=(jez hb).2;rcases jaw hg with ⟨e,hg⟩ | hg
 ·cases hg;cases jdj e;exact PE.imp (jbb (call_len_seq.or jfe) (D.gl hf) (D.blt _ (by decide +kernel)) PySem.boot_len hpa hn hd he rfl) fun σ H Q q=>tE.blt (jrr D.hK) q
 rcases jaw hg with ⟨e,hg⟩ | hg
 ·cases hg;cases jdj e;exact PE.imp (jbG jec (D.gl hf) (D.blt _ (by decide +kernel)) (by decide +kernel) hpa hn hd he rfl) fun σ H Q q=>tE.blt (jmo D.hK) q
 rcases jaw hg with ⟨e,hg⟩ | hg
 ·cases hg;cases jdj e;exact PE.imp (jbG jff (D.gl hf) (D.blt _ (by decide +kernel)) (by decide +kernel) hpa hn hd he rfl) fun σ H Q q=>tE.blt (jo8 D.hK) q
 obtain⟨hq,hg⟩:=jak hg;have hc:X.calm=true:=D.calm hq;rcases jaw hg with ⟨e,hg⟩ | hg
 ·cases hg;cases jdj e;exact PE.imp (jbb (jfj hc true) (D.gl hf) (D.blt _ (by decide +kernel)) (by decide +kernel) hpa hn hd he rfl) fun σ H Q q=>tE.blt (f:=.all) (jnQ D.hK true) q
 rcases jaw hg with ⟨e,hg⟩ | hg
 ·cases hg;cases jdj e;exact PE.imp (jbb (jfj hc false) (D.gl hf) (D.blt _ (by decide +kernel)) (by decide +kernel) hpa hn hd he rfl) fun σ H Q q=>tE.blt (f:=.any) (jnQ D.hK false) q
 rcases jaw hg with ⟨e,hg⟩ | hg
 ·cases hg;cases jdj e;exact PE.imp (jbb (jmn hc) (D.gl hf) (D.blt _ (by decide +kernel)) (by decide +kernel) hpa hn hd he rfl) fun σ H Q q=>tE.blt (jrs D.hK) q
 rcases jaw hg with ⟨e,hg⟩ | hg
 ·cases hg;cases jdj e;exact PE.imp (jbb jfw (D.gl hf) (D.blt _ (by decide +kernel)) (by decide +kernel) hpa hn hd he rfl) fun σ H Q q=>tE.blt (jku D.hK) q
 exact jaf hg
theorem jpx {K:Frag}{H:Hp}{I a:Addr}{o:HO}{vs:List V}(h:SqL K H a vs)(hn:H I=none):SqL K (upd H I o) a vs:=by
 rcases h with (h | ⟨u,h⟩) | h
 ·exact .inl (.inl (by rw[jac (jab h hn)];exact h))
 ·exact .inl (.inr ⟨u,by rw[jac (jab h hn)];exact h⟩)
 ·exact .inr h
noncomputable def jrF (X:Cx):List V->Hp->VK->Prop:=fun xs H Q=>∃p ys,xs=[.ref p]/\SqL X.K H p ys/\∀I,H I=none->Q (.ref I) (upd H I (.ext (jjp X I p ys.length)))
noncomputable def jrG (X:Cx):List V->Hp->VK->Prop:=fun xs H Q=>∃I p ys,xs=[.ref I]/\H I=some (.ext (jjp X I p ys.length))/\SqL X.K H p ys/\∀l,del H I l=none->Q (.ref l) (upd (del H I) l (.tup ys.reverse))
theorem jpy {K:Frag}{H:Hp}{I a:Addr}{o:HO}{vs:List V}(h:SqT K H a vs)(hn:H I=none):SqT K (upd H I o) a vs:=by
 rcases h with (h | ⟨u,h⟩) | h
 ·exact .inl (.inl (by rw[jac (jab h hn)];exact h))
 ·exact .inl (.inr ⟨u,by rw[jac (jab h hn)];exact h⟩)
 ·exact .inr h
noncomputable def jt0 (X:Cx):List V->Hp->VK->Prop:=fun xs H Q=>∃p ys,xs=[.ref p]/\SqT X.K H p ys/\∀I,H I=none->Q (.ref I) (upd H I (.ext (RT.Phi X I p ys.length)))
noncomputable def jt1 (X:Cx):List V->Hp->VK->Prop:=fun xs H Q=>∃I p ys,xs=[.ref I]/\H I=some (.ext (RT.Phi X I p ys.length))/\SqT X.K H p ys/\∀l,del H I l=none->Q (.ref l) (upd (del H I) l (.tup ys.reverse))
noncomputable def rAI (X:Cx):List V->Hp->VK->Prop:=fun xs H Q=>jrF X xs H Q\/jt0 X xs H Q
noncomputable def rAT (X:Cx):List V->Hp->VK->Prop:=fun xs H Q=>jrG X xs H Q\/jt1 X xs H Q
theorem jmE:CallR X (.type "reversed") (rAI X):=(show CallR X (.type "reversed") (jrF X)from jdA).or (show CallR X (.type "reversed") (jt0 X)from RT.jdC)
theorem jmF (hc:X.calm=true):CallR X (.type "tuple") (rAT X):=(show CallR X (.type "tuple") (jrG X)from jdB hc).or (show CallR X (.type "tuple") (jt1 X)from RT.jei hc)
theorem jpz (hZ:X.K=Z.K):∀x H Q,rD1 Z (bfD .revt) x H Q->rAI X [x] H fun v H'=>rAT X [v] H' Q:=by
 intro x H Q hz1;obtain⟨F,d,w,dm,rp,hw,h⟩:=hz1;cases d with
 |lst xs=>
  cases hw;obtain⟨a,vs,rfl,ft,r⟩:=rp.lst;have sq:SqL X.K H a vs:=by rw[hZ];exact ft
  refine .inl ⟨a,vs,rfl,sq,fun I hI=>.inl ⟨I,a,vs,rfl,jaj,jpx sq hI,fun l hl=>?_⟩⟩;rw[jeg hI]at hl ⊢;exact h.tup dm r.reverse l hl
 |tup xs=>
  cases hw;obtain⟨a,vs,rfl,ft,r⟩:=rp.tup;have sq:SqT X.K H a vs:=by rw[hZ];exact ft.sq
  refine .inr ⟨a,vs,rfl,sq,fun I hI=>.inr ⟨I,a,vs,rfl,jaj,jpy sq hI,fun l hl=>?_⟩⟩;rw[jeg hI]at hl ⊢;exact h.tup dm r.reverse l hl
 |_=>cases hw
noncomputable def jpA (f g:Str):Option Bf:=
 alt (f == "tuple" && g == "reversed") (some .revt) <|
 alt (f == "sorted" && g == "set") (some .ssorted) <|
 none
theorem jnW {a b c d:Str}(h:(a == b && c == d)=true):a=b/\c=d:=by simpa using h
theorem jmG (D:XD T G U Z m X sc)(hq:T.quiet=false){f g:Str}{bf:Bf}{b:Expr}{E1:E}{p p2 pos pos2:Pos}(hf:knd sc f=2)(hb:jdY f=false)(hg:knd sc g=2)(hb2:jdY g=false)(S:PE X b (tE Z X B (evE G U E1)))(ns:∀e q,b≠.Starred e q)(hn:jpA f g=some bf) :
  PE X (.Call (.Name f p) [.Call (.Name g p2) [b] [] pos2] [] pos) (tE Z X B (evE G U (.blt bf E1))):=by
 have hc:X.calm=true:=D.calm hq;have hpa:PA X [b] (jgj (tE Z X B (evE G U E1)) joo):=jat S jba (jad ns);have he:starEach [b] X.env=(false,eval b X.env)::starEach [] X.env:=jad ns;have ns2:∀e q,(.Call (.Name g p2) [b] [] pos2:Expr)≠.Starred e q:=fun e q z=>by cases z
 have he2:starEach [.Call (.Name g p2) [b] [] pos2] X.env=(false,eval (.Call (.Name g p2) [b] [] pos2) X.env)::starEach [] X.env:=jad ns2;have hd:=(jez hb).1;have hnm:=(jez hb).2;have hd2:=(jez hb2).1;have hnm2:=(jez hb2).2;rcases jaw hn with ⟨e,hn⟩ | hn
 ·cases hn;obtain⟨rfl,rfl⟩:=jnW e;have pin:=jbG (p:=p2) (pos:=pos2) jmE (D.gl hg) (D.blt _ (by decide +kernel)) (by decide +kernel) hpa hnm2 hd2 he rfl
  exact PE.imp (jbG (p:=p) (pos:=pos) (jmF hc) (D.gl hf) (D.blt _ (by decide +kernel)) (by decide +kernel) (jat pin jba he2) hnm hd he2 rfl) fun σ H Q q=>tE.blt (f:=.revt) (rr:=fun xs H Q=>rAI X xs H fun v H'=>rAT X [v] H' Q) (jpz D.hK) q
 rcases jaw hn with ⟨e,hn⟩ | hn
 ·cases hn;obtain⟨rfl,rfl⟩:=jnW e;have pin:=jbG (p:=p2) (pos:=pos2) (jjT hc D.un) (D.gl hg) (D.blt _ (by decide +kernel)) (by decide +kernel) hpa hnm2 hd2 he rfl
  exact PE.imp (jbb (p:=p) (pos:=pos) (jfx hc) (D.gl hf) (D.blt _ (by decide +kernel)) (by decide +kernel) (jat pin jba he2) hnm hd he2 rfl) fun σ H Q q=>tE.blt (f:=.ssorted) (rr:=fun xs H Q=>joW X xs H fun v H'=>joY X [v] H' Q) (jip D.hK) q
 exact jaf hn
noncomputable def jsr (f:Int->Int->Int)(x y:D):R Vl:=(jsp f x y).bind fun d=>.ok (.dat d)
theorem jkv {f:Int->Int->Int}{x y:D}{w:Vl}(h:jsr f x y=.ok w):∃i j,x=.int i/\y=.int j/\w=.dat (.int (f i j)):=by
 cases x with
 |int i=>cases y with
  |int j=>cases h;exact⟨i,j,rfl,rfl,rfl⟩
  |_=>cases h
 |_=>cases h
theorem jmH {f:Int->Int->Int}{x y:D}{c:Nat}:jsr f x y≠.err c:=by
 intro h;cases x with
 |int i=>cases y <;> cases h
 |_=>cases h
theorem jrH {f:Int->Int->Int}{nm:Str}{id:String}(D:XD T G U Z m X sc)(hcl:CallR X (.builtin id) (fun xs H Q=>∃i j,xs=[.int i,.int j]/\Q (.int (f i j)) H))(hm:X.mg nm=none)(hv:bootBuiltins nm=some (.builtin id))(hb:jdY nm=false){a b:Expr}{E1 E2 E3:E}{p pos:Pos}(hf:knd sc nm=2)(S1:PE X a (tE Z X B (evE G U E1)))(n1:∀e q,a≠.Starred e q)(S2:PE X b (tE Z X B (evE G U E2)))(n2:∀e q,b≠.Starred e q)
  (he:∀ρ,evE G U E3 ρ=(evE G U E1 ρ).bind fun p=>(evE G U E2 p.2).bind fun q=>(deref p.1 q.2).bind fun x=>(deref q.1 q.2).bind fun y=>(jsr f x y).bind fun v=>.ok (v,q.2)):PE X (.Call (.Name nm p) [a,b] [] pos) (tE Z X B (evE G U E3)):=by
 have hpa:PA X [a,b] (jgj (tE Z X B (evE G U E1)) (jgj (tE Z X B (evE G U E2)) joo)):=jat S1 (jat S2 jba (jad n2)) (jad n1);have hpl:(backTo pos (starEach [b] X.env)).any (·.1)=false:=jcZ (jci fun x hx=>by
  have:x=b:=by simpa using hx
  subst this;exact n2)
 refine PE.imp (jbb hcl (D.gl hf) hm hv hpa (jez hb).2 (jez hb).1 (jad n1) hpl) fun σ H Q q=>?_;rw[tE.congr he]at q;obtain⟨F,ρ,r,h⟩:=tE.two (fun x y c=>jmH) (fun x y i z=>by obtain⟨_,_,_,_,z⟩:=jkv z;cases z) q
 refine⟨F,ρ,r,h.imp (fun _ w=>w) fun p1 h1 v F1 H1 g1 r1 rv=>?_⟩;obtain⟨F',ρ',r',h'⟩:=h1 v F1 H1 g1 r1 rv;refine⟨F',ρ',r',h'.imp (fun _ w=>w) fun p2 h2 u F2 H2 g2 r2 ru=>?_⟩;obtain⟨F3,dx,dy,w,dm,bx,by_,hw,hp⟩:=h2 u F2 H2 g2 r2 ru;obtain⟨i,j,rfl,rfl,rfl⟩:=jkv hw;cases bx.int;cases by_.int;exact⟨i,j,rfl,hp.int dm⟩
end
end DJ
namespace DJ
open PySem PySem.Spec PyProof.Rows L2
noncomputable def jt2:Operator->Option Op
 |.Add=>some .add | .Sub=>some .sub | .Mult=>some .mul | .FloorDiv=>some .fdiv | .Mod=>some .mod | .Pow=>some .pow
 |_=>none
noncomputable def jt3:CmpOp->Option Cm
 |.Eq=>some .eq | .NotEq=>some .ne | .Lt=>some .lt | .LtE=>some .le | .Gt=>some .gt | .GtE=>some .ge | .In=>some .isin | .NotIn=>some .notin | .Is=>some .isn | .IsNot=>some .notn
noncomputable def jdr (e:Expr):Option (List Str×Bool):=jpa (jin e) (fun x=>some ([x],true)) ((jmq e).bind fun es=>(mapO jin es).map fun xs=>(xs,false))
theorem jkw {e:Expr}{xs:List Str}{one:Bool}(h:jdr e=some (xs,one)):(∃x p,e=.Name x p/\xs=[x]/\one=true)\/∃es k p,e=.Tuple es k p/\mapO jin es=some xs/\one=false:=by
 replace h:=jbQ h;rcases h with ⟨x,hx,h⟩ | h
 ·obtain⟨p,rfl⟩:=ja3 hx;cases h;exact .inl ⟨x,p,rfl,rfl,rfl⟩
 ·replace h:=jae h;obtain⟨es,he,h⟩:=h;obtain⟨k,p,rfl⟩:=jdk he;replace h:=jap h;obtain⟨ys,hy,h⟩:=h;cases h;exact .inr ⟨es,k,p,rfl,hy,rfl⟩
noncomputable def ndp (xs:List Str):Bool:=match xs with
 |[]=>true
 |x::r=>!r.contains x && ndp r
noncomputable def jfL:Expr->Option (Str×List Expr)
 |.Call f as ks _=>gd (!ks.isEmpty) ((jin f).map fun x=>(x,as))
 |_=>none
theorem jcG {e:Expr}{p:Str×List Expr}(h:jfL e=some p):∃np pos,e=.Call (.Name p.1 np) p.2 [] pos:=by
 cases e with
 |Call f as ks pos=>
  replace h:=jak h;obtain⟨hk,h⟩:=h;replace h:=jap h;obtain⟨x,hx,rfl⟩:=h;obtain⟨np,rfl⟩:=ja3 hx;cases jbe hk;exact⟨np,pos,rfl⟩
 |_=>exact jaf h
section
variable (T:Tab)
noncomputable def js6 (tr:Expr->Option E)(as:List Expr):Option It:=match as with
 |[a]=>(tr a).map .rng1
 |_=>none
noncomputable def isB (sc:List (Str×NameKind))(f:Str):Bool:=knd sc f == 2 && (jdx T.defs f).isNone
noncomputable def jt4 (sc:List (Str×NameKind))(tr:Expr->Option E)(one:Bool)(e:Expr)(c:Str×List Expr):Option It:=
 alt (c.1 == "range" && isB T sc c.1) (js6 tr c.2) <|
 alt (c.1 == "zip" && isB T sc c.1) (gd one ((js1 c.2).bind fun p=>o2 (tr p.1) (tr p.2) .zip)) <|
 (tr e).map .seq
noncomputable def jqp (sc:List (Str×NameKind))(tr:Expr->Option E)(one:Bool)(e:Expr):Option It:=match jfL e with
 |some c=>jt4 T sc tr one e c
 |none=>(tr e).map .seq
noncomputable def js7 (tr:Expr->Option E):Option Expr->Option Oe
 |none=>some Oe.none
 |some e=>(tr e).map Oe.some
noncomputable def jkx (tr:Expr->Option E):List Expr->Option Oe
 |[]=>some Oe.none
 |[k]=>(tr k).map Oe.some
 |_=>none
noncomputable def jky (sc:List (Str×NameKind))(f:Str)(as:List Expr):Option (Bf×Expr):=
 (ji0 as).bind fun c=>(jfL c).bind fun p=>(ji0 p.2).bind fun b=>gd (T.quiet || jdY p.1 || knd sc p.1 != 2 || (jdx T.defs p.1).isSome) ((jpA f p.1).map fun bf=>(bf,b))
noncomputable def juv:Const->Option D
 |.none=>some .non
 |.bool v=>some (.bl v)
 |.int i=>some (.int i)
 |.str x=>some (.str x)
 |_=>none
noncomputable def js8 (sc:List (Str×NameKind))(N:List Str)(x:Str):Option E:=
 gd (jdY x) (alt (knd sc x == 1) ((jdx N x).map .var) (gd (knd sc x != 2) ((T.cons.lookup x).map .lit)))
noncomputable def unE:UnaryOp->Option (E->E)
 |.USub=>some .neg
 |.Not=>some .not
 |_=>none
noncomputable def boE:PySem.BoolOp->E->E->E
 |.And=>.and
 |.Or=>.or
noncomputable def jpB:Expr->Option (Option Expr×Option Expr×Option Expr)
 |.Slice a b c _=>some (a,b,c)
 |_=>none
theorem jkz {e:Expr}{p:Option Expr×Option Expr×Option Expr}(h:jpB e=some p):∃q,e=.Slice p.1 p.2.1 p.2.2 q:=by
 cases e with
 |Slice a b c q=>cases h;exact⟨q,rfl⟩
 |_=>exact jaf h
noncomputable def jt5:Expr->Option (Expr×Str×Pos)
 |.Attribute v m p=>some (v,m,p)
 |_=>none
theorem jmI {e:Expr}{p:Expr×Str×Pos}(h:jt5 e=some p):e=.Attribute p.1 p.2.1 p.2.2:=by
 cases e with
 |Attribute v m p=>cases h;rfl
 |_=>exact jaf h
noncomputable def js9 (tr:Expr->Option E)(a i:Expr):Option E:=match jpB i with
 |none=>o2 (tr a) (tr i) .idx
 |some p=>gd p.2.2.isSome (o3 (tr a) (js7 tr p.1) (js7 tr p.2.1) .slc)
noncomputable def juw (sc:List (Str×NameKind))(tr:Expr->Option E)(f:Str)(a b:Expr):Option E:=
 alt (f == "isinstance") ((jkq T sc b).bind fun ks=>gd (!decide (ks.length<=100)) ((tr a).map fun a=>.isi a ks)) <|
 alt (f == "min") (gd T.quiet (o2 (tr a) (tr b) .min2)) <|
 none
noncomputable def jta (sc:List (Str×NameKind))(tr:Expr->Option E)(f:Str)(as:List Expr):Option E:=match jky T sc f as with
 |some p=>(tr p.2).map (.blt p.1)
 |none=>match as with
  |[a]=>o2 (jtZ T.quiet f) (tr a) .blt
  |[a,b]=>juw T sc tr f a b
  |_=>none
noncomputable def jtb (sc:List (Str×NameKind))(tr:Expr->Option E)(f:Str)(as:List Expr):Option E:=
 gd (jdY f || knd sc f != 2) (match jdx T.defs f with
  |some k=>gd T.quiet ((mapO tr as).map fun es=>.call k ((T.flags[k]?).getD []) (jhA es))
  |none=>jta T sc tr f as)
noncomputable def fnE (sc:List (Str×NameKind))(N:List Str)(tr:Expr->Option E)(as:List Expr)(pos:Pos)(f:Expr):Option E:=
 jpa (jin f) (fun f=>jtb T sc tr f as) <|
 none
noncomputable def jrI (sc:List (Str×NameKind))(scope:Scope)(xs cn:List Str):Bool:=
 T.quiet || !(scope.kind == .function) || !(scope.names.all fun p=>p.2 != .cell || scope.names.lookup p.1 == some .cell) || !(scope.names.all fun p=>p.2 != .local || scope.names.lookup p.1 == some .local)
     || !(ndp (xs++cn)) || !(xs.all fun x=>scope.names.lookup x == some .local || scope.names.lookup x == some .cell) || !(cn.all fun x=>scope.names.lookup x == some .free && (sc.lookup x == some .cell || sc.lookup x == some .free))
noncomputable def jdD (scope:Scope):List Str:=(scope.names.filter fun p=>p.2 == .free).map (·.1)
noncomputable def jrJ (tr:List (Str×NameKind)->List Str->Expr->Option E)(sc:List (Str×NameKind))(N:List Str)(elt:Expr)(scope:Scope)(g:Comprehension):Option E:=
 gd (!(g.is_async == 0)) ((jdr g.target).bind fun p=>gd (jrI T sc scope p.1 (jdD scope)) (o4 (mapO (jdx N) (jdD scope)) (jqp T sc (tr sc N) p.2 g.iter) (tr scope.names (p.1++jdD scope) elt) (jkx (tr scope.names (p.1++jdD scope)) g.ifs)
  fun caps it elt c=>.comp elt (List.range p.1.length) p.2 p.1.length caps it c))
noncomputable def jux (tr:List (Str×NameKind)->List Str->Expr->Option E)(sc:List (Str×NameKind))(N:List Str):Expr->Option E
 |.Constant c _ _=>(juv c).map .lit
 |.Name x _=>js8 T sc N x
 |.BinOp l o r _=>o3 (jt2 o) (tr sc N l) (tr sc N r) .bin
 |.UnaryOp o a _=>o2 (unE o) (tr sc N a) fun f a=>f a
 |.BoolOp o vs _=>(mapO (tr sc N) vs).bind (jfG (boE o))
 |.Compare a os cs _=>o2 (ji0 os) (ji0 cs) Prod.mk |>.bind fun p=>gd (behindInMarks p.1 p.2) (o3 (jt3 p.1) (tr sc N a) (tr sc N p.2) .cmp)
 |.IfExp c a b _=>o3 (tr sc N c) (tr sc N a) (tr sc N b) .ite
 |.Tuple es _ _=>(mapO (tr sc N) es).map fun es=>.tup (jhA es)
 |.List es _=>(mapO (tr sc N) es).map fun es=>.lst (jhA es)
 |.Dict ks vs _=>gd (!ks.isEmpty || !vs.isEmpty) (some .emp)
 |.Subscript a i _=>js9 (tr sc N) a i
 |.Call f as ks pos=>gd (!ks.isEmpty) (fnE T sc N (tr sc N) as pos f)
 |.ListComp elt gens scope _=>(ji0 gens).bind (jrJ T tr sc N elt scope)
 |_=>none
noncomputable def trE:Nat->List (Str×NameKind)->List Str->Expr->Option E
 |0=>fun _ _ _=>none
 |n + 1=>jux T (trE n)
end
theorem jpC {op:Operator}{o:Op}(h:jt2 op=some o):op=o.py:=by cases op <;> cases h <;> rfl
theorem jpD {op:CmpOp}{o:Cm}(h:jt3 op=some o):op=o.py:=by cases op <;> cases h <;> rfl
noncomputable def Lr {α:Type}(r r':R α):Prop:=r=.stk\/r=r'
theorem Lr.refl {α:Type}{r:R α}:Lr r r:=.inr rfl
theorem Lr.bind {α β:Type}{r r':R α}{f g:α->R β}(h:Lr r r')(k:∀a,Lr (f a) (g a)):Lr (r.bind f) (r'.bind g):=by
 rcases h with rfl | rfl
 ·exact .inl rfl
 ·cases r with
  |ok a=>exact k a
  |err c=>exact .inr rfl
  |stk=>exact .inl rfl
theorem Lr.ok {α:Type}{W:Nat->Prop}{r r':R α}{Q:α->Prop}(h:Lr r r')(q:Ok W r Q):Ok W r' Q:=by
 rcases h with rfl | rfl
 ·exact False.elim q
 ·exact q
theorem Lr.deref {v:Vl}{ρ:Rho}:Lr (deref v []) (deref v ρ):=by
 cases v with
 |dat d=>exact .inr rfl
 |tmp o=>exact .inr rfl
 |slot i=>exact .inl (by simp[DJ.deref])
structure Says (G:Calls)(U:Nat->Nat->Bool)(Z:Kn)(X:Cx)(e:Expr)(E':E):Prop where
 pe:∀B,PE X e (tE Z X B (evE G U E'))
 pt:∀B,PT X e (tT Z X B (evT G U E'))
 ns:∀a p,e≠.Starred a p
section
variable {T:Tab}{G:Calls}{U:Nat->Nat->Bool}{Z:Kn}{m:Nat}{X:Cx}{sc:List (Str×NameKind)}
theorem jhF {α β:Type}{f:α->Option β}:∀{as:List α}{bs:List β},mapO f as=some bs->as.length=bs.length
 |[],bs,h=>by cases h;rfl
 |a::as,bs,h=>by
  obtain⟨b,bs',_,h2,rfl⟩:=jay h;rw[juU,juU,jhF h2]
theorem jb8 {α β:Type}{f:α->Option β}{P:α->β->Prop}(k:∀a b,f a=some b->P a b):∀{as:List α}{bs:List β},mapO f as=some bs->Paired P as bs
 |[],bs,h=>by cases h;exact .nil
 |a::as,bs,h=>by
  obtain⟨b,bs',h1,h2,rfl⟩:=jay h;exact .cons (k a b h1) (jb8 k h2)
theorem jhG {α β:Type}{f:α->Option β}:∀{as:List α}{bs:List β}{i:Nat}{a:α}{b:β},mapO f as=some bs->as[i]?=some a->bs[i]?=some b->f a=some b
 |[],_,_,_,_,_,e,_=>by simp at e
 |x::as,bs,i,a,b,h,e1,e2=>by
  obtain⟨y,bs',h1,h2,rfl⟩:=jay h;cases i with
  |zero=>simp at e1 e2;rw[<-e1,<-e2];exact h1
  |succ i=>exact jhG h2 (by simpa using e1) (by simpa using e2)
theorem Says.mk' (hK:X.K=Z.K){e:Expr}{E':E}(pe:∀B,PE X e (tE Z X B (evE G U E')))(he:∀whole,isTrue e X.env whole=(do let v <-whole;standAt e.pos;holding [v] (truthy v)))(ns:∀a p,e≠.Starred a p)(hl:∀ρ,Lr (evT G U E' ρ) (trF (evE G U E') ρ)):Says G U Z X e E':=
 ⟨pe,fun B=>PT.imp (js2 hK (pe B) he) fun σ H Q ⟨F,ρ,r,q⟩=>⟨F,ρ,r,(hl ρ).ok q⟩,ns⟩
theorem Lr.none {α:Type}{r:R α}:Lr .stk r:=.inl rfl
theorem jhH {n:Nat}(D:XD T G U Z m X sc)(ih:∀e E',trE T n sc X.N e=some E'->Says G U Z X e E'){iter tg:Expr}{it:It}{one:Bool}(h1:one=false->∃es k pos,tg=.Tuple es k pos)(h:jqp T sc (trE T n sc X.N) one iter=some it)(B:Bs) :
  PI X tg iter (tI Z X B (evI G U it)):=by
 have gen:∀{e:Expr}{it:It},(trE T n sc X.N e).map It.seq=some it->PI X tg e (tI Z X B (evI G U it)):=fun {e it} h=>by
  cases q:trE T n sc X.N e with
  |none=>rw[q]at h;cases h
  |some E'=>
   rw[q]at h;cases h;have:=jrC (tg:=tg) D.hK ((ih e E' q).pe B);have ev:(fun ρ=>(evE G U E' ρ).bind fun p=>jaB p.1 p.2)=evI G U (.seq E'):=by funext ρ;simp only[evI]
   rwa [ev]at this
 unfold jqp at h;cases hc:jfL iter with
 |none=>rw[hc]at h;exact gen h
 |some c=>
  rw[hc]at h;obtain⟨p,pos,rfl⟩:=jcG hc;obtain⟨f,as⟩:=c;replace h:jt4 T sc (trE T n sc X.N) one _ (f,as)=some it:=h;replace h:=jaw h;rcases h with ⟨hf,h⟩ | h
  ·simp only[isB,jvv,beq_iff_eq]at hf;obtain⟨hf,hk,_⟩:=hf;subst hf;cases as with
   |nil=>exact jaf h
   |cons a r=>
    cases r with
    |nil=>
     replace h:=jap h;obtain⟨E',q,rfl⟩:=h;have S:=ih a E' q;have:=jpp (tg:=tg) (p:=p) (pos:=pos) (D.gl hk) (D.blt _ (by decide +kernel)) (S.pe B) S.ns
     rwa [show (fun ρ=>(evE G U E' ρ).bind fun p=>(deref p.1 p.2).bind fun x=>(jdd x).bind fun xs=>R.ok (xs,([]:List Nat),p.2))=evI G U (.rng1 E')by funext ρ;simp only[evI]]at this
    |cons b r=>
     exact jaf h
  replace h:=jaw h;rcases h with ⟨hf,h⟩ | h
  ·simp only[isB,jvv,beq_iff_eq]at hf;obtain⟨hf,hk,_⟩:=hf;subst hf;replace h:=jak h;obtain⟨ho,h⟩:=h;replace h:=jae h;obtain⟨⟨a,b⟩,h2,h⟩:=h;cases jhz h2;obtain⟨es,k,pos',rfl⟩:=h1 ho;replace h:=jbI h;obtain⟨Ea,Eb,qa,qb,rfl⟩:=h;have Sa:=ih a Ea qa;have Sb:=ih b Eb qb;have:=jpq (es:=es) (n:=k) (pos':=pos') (p:=p) (pos:=pos) D.hK (D.gl hk) (D.blt _ (by decide +kernel)) (Sa.pe B) Sa.ns (Sb.pe B) Sb.ns
   rwa [show (fun ρ=>(evE G U Ea ρ).bind fun p=>(evE G U Eb p.2).bind fun q=>(jaB p.1 q.2).bind fun x=>(jaB q.1 x.2.2).bind fun y=>R.ok (jfz x.1 y.1,x.2.1++y.2.1,y.2.2))=evI G U (.zip Ea Eb)by funext ρ;simp only[evI]]at this
  exact gen h
theorem jdZ {n:Nat}{N:List Str}{one:Bool}{iter:Expr}{it:It}(h:jqp T sc (trE T n sc N) one iter=some it):∀a b c,iter≠.Set a b c:=by
 intro a b c z;subst z;cases n with
 |zero=>exact jaf h
 |succ n=>exact jaf h
theorem jfM:∀{xs:List Str},ndp xs=true->xs.Nodup
 |[],_=>List.nodup_nil
 |x::r,h=>by
  simp only[ndp,jvv,Bool.not_eq_true']at h;refine List.nodup_cons.mpr ⟨fun z=>?_,jfM h.2⟩;rw[List.contains_iff_mem.mpr z]at h;exact absurd h.1 (by decide)
theorem jkA {es:List Expr}{xs:List Str}(h:mapO jin es=some xs):∃ps:List Pos,es.length=xs.length/\ps.length=xs.length/\es=(xs.zip ps).map fun p=>Expr.Name p.1 p.2:=by
 induction es generalizing xs with
 |nil=>cases h;exact⟨[],rfl,rfl,rfl⟩
 |cons e es ih=>
  obtain⟨x,xs',h1,h2,rfl⟩:=jay h;obtain⟨ps,l1,l2,e2⟩:=ih h2;obtain⟨pos,rfl⟩:=ja3 h1;exact⟨pos::ps,by simp[l1],by simp[l2],by simp[e2]⟩
theorem jnX {X:Cx}:∀(xs:List Str) (ps:List Pos) (k:Nat),ps.length=xs.length->(∀(i:Nat) x,xs[i]?=some x->X.N[k + i]?=some x/\L2.Loc X.env.scope x/\(X.fn x=true\/X.env.scope.names.lookup x=some .local)) ->
  TgsOk X ((xs.zip ps).map fun p=>Expr.Name p.1 p.2) ((List.range xs.length).map (k + ·))
 |[],_,_,_,_=>.nil
 |x::xs,[],_,h,_=>by simp at h
 |x::xs,p::ps,k,h,hN=>by
  obtain⟨a,b⟩:=hN 0 x rfl;have ih:=jnX (X:=X) xs ps (k + 1) (by simpa using h) fun i y hy=>by
   have:=hN (i + 1) y (by simpa using hy)
   rwa [show k + (i + 1)=k + 1 + i by omega]at this
  rw[juU,List.range_succ_eq_map,juR,List.map_map];have e:(List.range xs.length).map ((k + ·) ∘ Nat.succ)=(List.range xs.length).map (k + 1 + ·):=by
   apply List.map_congr_left;intro i _;show k + (i + 1)=k + 1 + i;omega
  rw[e];exact .cons a b.1 b.2 ih
theorem jfN {e:Expr}{env:Env}(h:∀a b c,e≠.Set a b c):∀x,foldedSetIterable e env x=pure x:=fun x=>by
 unfold foldedSetIterable;cases e <;> first | rfl | exact absurd rfl (h _ _ _)
theorem jfO {scope:Scope}{env:Env}{x:Str}(h:scope.names.lookup x=some .local):(relabel scope env).names.lookup x=some .local:=by
 unfold relabel;simp only;rw[ja4 (c:=fun n k=>k == .free && env.scope.kind == .function && env.kindOf n == some .cell),h];rfl
theorem jmJ {scope:Scope}{env:Env}{x:Str}(h:scope.names.lookup x=some .cell):(relabel scope env).names.lookup x=some .cell:=by
 unfold relabel;simp only;rw[ja4 (c:=fun n k=>k == .free && env.scope.kind == .function && env.kindOf n == some .cell),h];rfl
structure CompD (X:Cx)(G:Calls)(U:Nat->Nat->Bool)(Z:Kn)(scope:Scope)(N cn:List Str)(nt:Nat)(caps:List Nat)(elt tg iter:Expr)(ks:List Expr)(tgs:List Nat)(one:Bool)(it:It)(fc:Option (Rho->R (Bool×Rho)))(Ee:E):Prop where
 C:CompOk X scope N cn nt caps
 hT:∀s' H' fp,TgOk (cxComp X N scope s' H' fp) tg tgs one
 hlow:∀i∈tgs,i < nt
 hi:∀B,PI X tg iter (tI Z X B (evI G U it))
 hE:∀s' H' fp B',PE (cxComp X N scope s' H' fp) elt (tE Z (cxComp X N scope s' H' fp) B' (evE G U Ee))
 hK:(ks=[]/\fc=none)\/∃k g,ks=[k]/\fc=some g/\∀s' H' fp B',PT (cxComp X N scope s' H' fp) k (tT Z (cxComp X N scope s' H' fp) B' g)
 hs:∀x,foldedSetIterable iter X.env x=pure x
theorem jkB {n:Nat}(D:XD T G U Z m X sc)(ih:∀(X:Cx) (sc:List (Str×NameKind)) (e:Expr) (E':E),XD T G U Z m X sc->trE T n sc X.N e=some E'->Says G U Z X e E')
  {elt tg iter:Expr}{ks:List Expr}{scope:Scope}{xs:List Str}{one:Bool}{caps:List Nat}{it:It}{Ee:E}{Ec:Oe} (htg:jdr tg=some (xs,one))
  (c1:scope.kind=.function) (c2:∀y∈scope.names,y.2=.cell->scope.names.lookup y.1=some .cell) (c3:∀y∈scope.names,y.2=.local->scope.names.lookup y.1=some .local) (c4:(xs++jdD scope).Nodup)
  (c5:∀x∈xs,scope.names.lookup x=some .local\/scope.names.lookup x=some .cell) (c6:∀x∈jdD scope,scope.names.lookup x=some .free/\(sc.lookup x=some .cell\/sc.lookup x=some .free))
  (hcaps:mapO (jdx X.N) (jdD scope)=some caps) (hit:jqp T sc (trE T n sc X.N) one iter=some it) (helt:trE T n scope.names (xs++jdD scope) elt=some Ee)
  (hks:jkx (trE T n scope.names (xs++jdD scope)) ks=some Ec) :
  ∃N cn fc,CompD X G U Z scope N cn xs.length caps elt tg iter ks (List.range xs.length) one it fc Ee /\
   ∀ρ,evE G U (.comp Ee (List.range xs.length) one xs.length caps it Ec) ρ=(evI G U it ρ).bind fun t=>((compGo (jdh (List.range xs.length) one xs.length caps fc (evE G U Ee)) t.1 t.2.2).noErr).bind fun ys=>.ok (.tmp (.l ys.1),unlk t.2.1 ys.2):=by
 generalize hcn:jdD scope=cn at *;have C:CompOk X scope (xs++cn) cn xs.length caps:=by
  refine⟨c1,c2,c3,fun y hy e=>?_,c4,⟨xs,rfl,rfl⟩,jhF hcaps,fun k j x h1 h2=>⟨jaE (jhG hcaps h1 h2),(c6 x (juW h1)).1⟩⟩;have hm:y.1∈cn:=by
   rw[<-hcn];exact List.mem_map.mpr ⟨y,List.mem_filter.mpr ⟨hy,by simp[e]⟩,rfl⟩
  have:=(c6 y.1 hm).2;rcases D.sc y.1 with z | ⟨_,z⟩
  ·rw[z];exact this
  ·exact .inl z
 have hT:∀s' H' fp,TgOk (cxComp X (xs++cn) scope s' H' fp) tg (List.range xs.length) one:=fun s' H' fp=>by
  have hN:∀(i:Nat) x,xs[i]?=some x->(xs++cn)[i]?=some x/\L2.Loc (relabel scope X.env) x/\((scope.names.lookup x == some .cell)=true\/(relabel scope X.env).names.lookup x=some .local):=fun i x e=>⟨by rw[ju1 (List.getElem?_eq_some_iff.mp e).1];exact e,(c5 x (juW e)).elim (fun z=>⟨.inl (jfO z),.inr (jfO z)⟩) fun z=>⟨.inr (jmJ z),.inl (by rw[z];rfl)⟩⟩
  rcases jkw htg with ⟨x,p,rfl,rfl,rfl⟩ | ⟨es,k,p,rfl,q,rfl⟩
  ·obtain⟨a,b⟩:=hN 0 x rfl;exact .one a b.1 b.2
  ·obtain⟨ps,l1,l2,e⟩:=jkA q;rw[e];have:=jnX (X:=cxComp X (xs++cn) scope s' H' fp) xs ps 0 l2 fun i x hx=>by
    rw[Nat.zero_add];exact hN i x hx
   simp only[Nat.zero_add,List.map_id']at this;exact .many this
 have hone:one=false->∃es k pos,tg=.Tuple es k pos:=fun ho=>by
  subst ho;rcases jkw htg with ⟨x,p,_,_,z⟩ | ⟨es,k,p,e,_⟩
  ·cases z
  ·exact⟨es,k,p,e⟩
 have hlow:∀i∈List.range xs.length,i < xs.length:=fun i h=>List.mem_range.mp h;have hi:∀B,PI X tg iter (tI Z X B (evI G U it)):=fun B=>jhH (tg:=tg) D (fun e E' h=>ih X sc e E' D h) hone hit B;have hE:∀s' H' fp B',PE (cxComp X (xs++cn) scope s' H' fp) elt (tE Z (cxComp X (xs++cn) scope s' H' fp) B' (evE G U Ee)):=fun s' H' fp B'=>(ih (cxComp X (xs++cn) scope s' H' fp) scope.names elt Ee (D.comp c4) helt).pe B';have hs:=jfN (env:=X.env) (jdZ hit);cases ks with
 |nil=>
  cases hks;exact⟨xs++cn,cn,none,⟨C,hT,hlow,hi,hE,.inl ⟨rfl,rfl⟩,hs⟩,fun ρ=>by simp only[evE];rfl⟩
 |cons k r=>
  cases r with
  |nil=>
   simp only[jkx]at hks;cases q:trE T n scope.names (xs++cn) k with
   |none=>rw[q]at hks;cases hks
   |some Ek=>
    rw[q]at hks;cases hks;exact⟨xs++cn,cn,some (evT G U Ek),⟨C,hT,hlow,hi,hE,.inr ⟨k,evT G U Ek,rfl,rfl,fun s' H' fp B'=>(ih (cxComp X (xs++cn) scope s' H' fp) scope.names k Ek (D.comp c4) q).pt B'⟩,hs⟩,fun ρ=>by simp only[evE];rfl⟩
  |cons k2 r2=>cases hks
end
end DJ
namespace DJ
open PySem PySem.Spec PyProof.Rows L2
variable {T:Tab}{G:Calls}{U:Nat->Nat->Bool}{Z:Kn}{m:Nat}
theorem jfP {n:Nat}{X:Cx}{sc:List (Str×NameKind)}(D:XD T G U Z m X sc)(ih:∀(X:Cx) (sc:List (Str×NameKind)) (e:Expr) (E':E),XD T G U Z m X sc->trE T n sc X.N e=some E'->Says G U Z X e E')
  {elt:Expr}{gens:List Comprehension}{scope:Scope}{pos:Pos}{E':E} (h:trE T (n + 1) sc X.N (.ListComp elt gens scope pos)=some E') :
  T.quiet=false/\∃tg iter ks N cn nt caps tgs one it fc Ee Ec,gens=[⟨tg,iter,ks,0⟩]/\E'=.comp Ee tgs one nt caps it Ec/\CompD X G U Z scope N cn nt caps elt tg iter ks tgs one it fc Ee /\
   ∀ρ,evE G U E' ρ=(evI G U it ρ).bind fun t=>((compGo (jdh tgs one nt caps fc (evE G U Ee)) t.1 t.2.2).noErr).bind fun ys=>.ok (.tmp (.l ys.1),unlk t.2.1 ys.2):=by
 obtain⟨⟨tg,iter,ks,a⟩,hg,h⟩:=jae (show (ji0 gens).bind (jrJ T (trE T n) sc X.N elt scope)=some E' from h);cases jaL hg;replace h:=jak h;obtain⟨ha,h⟩:=h;have ha:a=0:=by simpa using ha
 subst ha;replace h:=jae h;obtain⟨⟨xs,one⟩,htg,h⟩:=h;replace h:=jak h;obtain⟨hc,h⟩:=h;replace h:=jnR h;obtain⟨caps,it,Ee,Ec,hcaps,hit,helt,hks,rfl⟩:=h;simp only[jrI,Bool.or_eq_false_iff,Bool.not_eq_false',beq_iff_eq]at hc;obtain⟨⟨⟨⟨⟨⟨c0,c1⟩,c2⟩,c3⟩,c4⟩,c5⟩,c6⟩:=hc;obtain⟨N,cn,fc,cd,ev⟩:=jkB (Ec:=Ec) D ih htg c1 (fun y hy z=>by
  have:=List.all_eq_true.mp c2 y hy;rw[z]at this;simpa using this) (fun y hy z=>by
  have:=List.all_eq_true.mp c3 y hy;rw[z]at this;simpa using this) (jfM c4) (fun x hx=>by simpa using List.all_eq_true.mp c5 x hx) (fun x hx=>by simpa using List.all_eq_true.mp c6 x hx) hcaps hit helt hks
 exact⟨c0,tg,iter,ks,N,cn,xs.length,caps,_,one,it,fc,Ee,Ec,rfl,rfl,cd,ev⟩
theorem jmK {f:Str}{args:List Expr}{bf:Bf}{b:Expr}(h:jky T sc f args=some (bf,b)):∃g p2 pos2,args=[.Call (.Name g p2) [b] [] pos2]/\T.quiet=false/\jdY g=false/\knd sc g=2/\jpA f g=some bf:=by
 replace h:=jae h;obtain⟨c,h1,h⟩:=h;cases jaL h1;replace h:=jae h;obtain⟨⟨g,as⟩,h2,h⟩:=h;obtain⟨np,pos,rfl⟩:=jcG h2;replace h:=jae h;obtain⟨b',h3,h⟩:=h;have h3:=jaL h3;replace h:=jak h;obtain⟨hc,h⟩:=h;replace h:=jap h;obtain⟨bf',q,e⟩:=h;cases e;replace hc:=jbE hc;obtain⟨hc,_⟩:=hc;replace hc:=jbE hc;obtain⟨hc,c3⟩:=hc;replace hc:=jbE hc;obtain⟨c1,c2⟩:=hc;refine⟨g,np,pos,?_,c1,c2,jgB c3,q⟩;rw[show as=[b] from h3]
theorem Says.nt {X:Cx}{e:Expr}{E':E}(pe:∀B,PE X e (tE Z X B (evE G U E')))(hT:∀ρ,evT G U E' ρ=.stk)(ns:∀a p,e≠.Starred a p):Says G U Z X e E':=
 ⟨pe,fun B=>by rw[tT.congr hT];exact jru,ns⟩
theorem jpE {X:Cx}{sc:List (Str×NameKind)}(D:XD T G U Z m X sc){a:Expr}{Ea:E}{pos:Pos}(S:Says G U Z X a Ea):Says G U Z X (.UnaryOp .USub a pos) (.neg Ea):=by
 refine Says.nt (fun B=>PE.imp (jsE jqS (S.pe B)) fun σ H Q z=>?_) (fun ρ=>by simp only[evT]) (fun _ _ z=>by cases z)
 have z2:tE Z X B (fun ρ=>(evE G U Ea ρ).bind fun p=>(deref p.1 p.2).bind fun x=>((fun x=>(jsn x).bind fun d=>R.ok (Vl.dat d)) x).bind fun v=>.ok (v,p.2)) σ H Q:=by simpa only[evE,R.bind_assoc,R.bind_ok'] using z
 obtain⟨F,ρ,r',h3⟩:=tE.one (g:=fun x=>(jsn x).bind fun d=>R.ok (Vl.dat d)) (fun x c w=>by cases x <;> cases w) (fun x i w=>by cases x <;> cases w) z2
 refine⟨F,ρ,r',h3.imp (fun _ w=>w) fun d p v F' H' e r2 q=>?_⟩;obtain⟨F3,d3,w,dm,rp,hw,h4⟩:=p v F' H' e r2 q;cases d3 with
 |int i=>cases hw;cases rp.int;exact⟨i,rfl,h4.int dm⟩
 |_=>cases hw
theorem jds:∀(n:Nat) (X:Cx) (sc:List (Str×NameKind)) (e:Expr) (E':E),XD T G U Z m X sc->trE T n sc X.N e=some E'->Says G U Z X e E':=by
 intro n;induction n with
 |zero=>intro X sc e E' D h;exact jaf h
 |succ n ih=>
  intro X sc e E' D h;have hK:=D.hK;have ih1:∀e E',trE T n sc X.N e=some E'->Says G U Z X e E':=fun e E' h=>ih X sc e E' D h;have lit:∀{e:Expr}{d:DJ.D}{v:V},PE X e (tC v)->(∀whole,isTrue e X.env whole=(do let v <-whole;standAt e.pos;holding [v] (truthy v)))->(∀a p,e≠.Starred a p)->(∀F H,Rep Z F H d v)->Says G U Z X e (.lit d):=fun {e d v} h1 h2 h3 h4=>
   Says.mk' hK (fun B=>jpj h1 h4) h2 h3 fun ρ=>by simp only[evT,trF,evE,R.bind_ok',deref];exact Lr.refl
  have prd:∀{vs:List Expr}{es:List E},mapO (trE T n sc X.N) vs=some es->∀B,Paired (fun e E'=>PE X e (tE Z X B (evE G U E'))/\PT X e (tT Z X B (evT G U E'))) vs es:=fun q B=>jb8 (fun e E' z=>⟨(ih1 _ _ z).pe B,(ih1 _ _ z).pt B⟩) q;have prn:∀{vs:List Expr}{es:List E},mapO (trE T n sc X.N) vs=some es->∀B,Paired (fun e E'=>PE X e (tE Z X B (evE G U E'))/\∀a p,e≠.Starred a p) vs es:=fun q B=>jb8 (fun e E' z=>⟨(ih1 _ _ z).pe B,(ih1 _ _ z).ns⟩) q;have h0:=h;cases e with
  |Constant c k pos=>
   replace h:=jap h;obtain⟨d,hl,rfl⟩:=h;cases c with
   |none=>cases hl;exact lit jqy (fun _=>rfl) (fun _ _ z=>by cases z) fun _ _=>by simp only[Rep]
   |bool v=>cases hl;exact lit jst (fun _=>rfl) (fun _ _ z=>by cases z) fun _ _=>by simp only[Rep]
   |int i=>cases hl;exact lit jqx (fun _=>rfl) (fun _ _ z=>by cases z) fun _ _=>by simp only[Rep]
   |str x=>cases hl;exact lit jqz (fun _=>rfl) (fun _ _ z=>by cases z) fun _ _=>by simp only[Rep]
   |_=>exact jaf hl
  |Name x pos=>
   replace h:=jak h;obtain⟨hb,h⟩:=h;replace h:=jaw h;rcases h with ⟨hk,h⟩ | h
   ·replace h:=jap h;obtain⟨i,q,rfl⟩:=h;refine Says.mk' hK (fun B=>jmw (pos:=pos) D (by simpa using hk) (jaE q) hb) (fun _=>rfl) (fun _ _ z=>by cases z) fun ρ=>?_
    simp only[evT,trF,evE];cases e:ρ[i]? with
    |none=>exact Lr.none
    |some s=>
     cases s with
     |no=>exact Lr.none
     |_=>simp only[R.bind_ok',deref,e];exact Lr.refl
   ·replace h:=jak h;obtain⟨hk,h⟩:=h;replace h:=jap h;obtain⟨d,q,rfl⟩:=h;obtain⟨u,v,hm,rv,rp⟩:=D.cons x d q;exact lit (ji5 (D.gl (jgB hk)) hm rv (jez hb).1) (fun _=>rfl) (fun _ _ z=>by cases z) rp
  |BinOp l op r pos=>
   replace h:=jcS h;obtain⟨o,El,Er,ho,hl,hr,rfl⟩:=h;have Sl:=ih1 _ _ hl;have Sr:=ih1 _ _ hr;cases jpC ho;refine Says.mk' hK (fun B=>PE.imp (jsD (jsY hK o) (Sl.pe B) (Sr.pe B)) fun σ H Q q=>tE.two (fun _ _ _=>jo5) (fun _ _ _=>jml) (by simpa only[evE] using q)) (fun _=>rfl) (fun _ _ z=>by cases z) fun ρ=>?_
   simp only[evT,trF,evE,R.bind_assoc,R.bind_ok'];exact Lr.refl.bind fun _=>Lr.refl.bind fun _=>Lr.refl.bind fun _=>Lr.refl.bind fun _=>Lr.refl.bind fun _=>Lr.deref.bind fun _=>Lr.refl
  |UnaryOp o a pos=>
   replace h:=jbI h;obtain⟨f,Ea,ho,q,rfl⟩:=h;have S:=ih1 _ _ q;cases o with
   |USub=>cases ho;exact jpE D S
   |Not=>
    cases ho;exact⟨fun B=>PE.imp (jqG (S.pe B)) fun σ H Q z=>jpd (by simpa only[evE] using z),fun B=>PT.imp (jqC (S.pt B)) fun σ H Q z=>jms (by simpa only[evT] using z),fun _ _ z=>by cases z⟩
   |_=>exact jaf ho
  |BoolOp o vs pos=>
   replace h:=jae h;obtain⟨es,q,h⟩:=h;cases o with
   |And=>exact⟨fun B=>(jkf (prd q B) h).1,fun B=>(jkf (prd q B) h).2.pt,fun _ _ z=>by cases z⟩
   |Or=>exact⟨fun B=>(jnS (prd q B) h).1,fun B=>(jnS (prd q B) h).2.pt,fun _ _ z=>by cases z⟩
  |Compare a os cs pos=>
   replace h:=jae h;obtain⟨⟨op,c⟩,h1,h⟩:=h;replace h1:=jbI h1;obtain⟨op',c',e1,e2,e3⟩:=h1;cases e3;cases jaL e1;cases jaL e2;replace h:=jak h;obtain⟨hmk,h⟩:=h;replace h:=jcS h;obtain⟨o,Ea,Ec,ho,ha,hc,rfl⟩:=h;have Sa:=ih1 _ _ ha;have Sc:=ih1 _ _ hc;cases jpD ho;have ok:=js0 (X:=X) hK D.un o;have be:∀x y c,bD (cmD o) x y≠.err c:=fun x y c z=>by
    unfold bD at z;cases e:cmD o x y with
    |ok b=>rw[e]at z;cases z
    |err c'=>exact jo7 e
    |stk=>rw[e]at z;cases z
   have bs:∀x y i,bD (cmD o) x y≠.ok (.slot i):=fun x y i z=>by
    unfold bD at z;obtain⟨b,_,z⟩:=R.bind_ok z;cases z
   refine⟨fun B=>PE.imp (jom ok (Sa.pe B) (Sc.pe B) hmk) fun σ H Q q=>tE.two be bs (by simpa only[evE,bD,R.bind_assoc,R.bind_ok'] using q),fun B=>PT.imp (jon ok (Sa.pe B) (Sc.pe B) hmk) fun σ H Q q=>?_,fun _ _ z=>by cases z⟩
   have q2:=tT.toE (by simpa only[evT] using q)
   simp only[R.bind_assoc,R.bind_ok']at q2;exact tE.two be bs (by simpa only[bD,R.bind_assoc,R.bind_ok'] using q2)
  |IfExp c a b pos=>
   replace h:=jcS h;obtain⟨Ec,Ea,Eb,hc,ha,hb,rfl⟩:=h;have Sc:=ih1 _ _ hc;have Sa:=ih1 _ _ ha;have Sb:=ih1 _ _ hb;exact Says.nt (fun B=>PE.imp (jlw (Sc.pt B) (Sa.pe B) (Sb.pe B)) fun σ H Q z=>jrw (by simpa only[evE] using z)) (fun ρ=>by simp only[evT]) fun _ _ z=>by cases z
  |Tuple es k pos=>
   replace h:=jap h;obtain⟨Es',q,rfl⟩:=h;exact Says.nt (fun B=>jpk (prn q B)) (fun ρ=>by simp only[evT]) fun _ _ z=>by cases z
  |List es pos=>
   replace h:=jap h;obtain⟨Es',q,rfl⟩:=h;exact Says.nt (fun B=>jpl (prn q B)) (fun ρ=>by simp only[evT]) fun _ _ z=>by cases z
  |Dict ks vs pos=>
   replace h:=jak h;obtain⟨hc,h⟩:=h;replace hc:=jbE hc;obtain⟨c1,c2⟩:=hc;cases jbe c1;cases jbe c2;cases h;exact Says.nt (fun B=>jpm) (fun ρ=>by simp only[evT]) fun _ _ z=>by cases z
  |Subscript a i pos=>
   replace h:js9 (trE T n sc X.N) a i=some E':=h;unfold js9 at h;cases hs:jpB i with
   |some p=>
    rw[hs]at h;obtain⟨lo,hi,st⟩:=p;obtain⟨p2,rfl⟩:=jkz hs;replace h:=jak h;obtain⟨hst,h⟩:=h;cases st with
    |some _=>cases hst
    |none=>
    replace h:=jcS h;obtain⟨Ea,Elo,Ehi,ha,hlo,hhi,rfl⟩:=h;have Sa:=ih1 _ _ ha;have part:∀{o:Option Expr}{O:Oe},js7 (trE T n sc X.N) o=some O->∀B,PO X o (tO Z X B (evO G U O)):=fun {o O} z B=>by
     cases o with
     |none=>cases z;exact jrz
     |some e=>
      obtain⟨E',q,rfl⟩:=jap z;exact jrA ((ih1 _ _ q).pe B)
    refine Says.mk' hK (fun B=>PE.imp (jlE (js4 hK) (Sa.pe B) (part hlo B) (part hhi B)) fun σ H Q q=>tE.slice (by simpa only[evE] using q)) (fun _=>rfl) (fun _ _ z=>by cases z) fun ρ=>?_
    simp only[evT,trF,evE,R.bind_assoc,R.bind_ok'];exact Lr.refl.bind fun _=>Lr.refl.bind fun _=>Lr.refl.bind fun _=>Lr.refl.bind fun _=>Lr.refl.bind fun _=>Lr.deref.bind fun _=>Lr.refl
   |none=>
    rw[hs]at h;replace h:=jbI h;obtain⟨Ea,Ei,ha,hi',rfl⟩:=h;have Sa:=ih1 _ _ ha;have Si:=ih1 _ _ hi';refine Says.mk' hK (fun B=>PE.imp (jsO (js3 hK) (Sa.pe B) (Si.pe B) (jmy fun a b c d z=>by subst z;cases hs)) fun σ H Q q=>tE.two (fun x y c z=>?_) (fun x y i z=>?_) (by simpa only[evE,jsq,R.bind_assoc,R.bind_ok'] using q)) (fun _=>rfl) (fun _ _ z=>by cases z) fun ρ=>?_
    ·unfold jsq at z;cases e:jmb x y with
     |ok d=>rw[e]at z;cases z
     |err c'=>exact jmx e
     |stk=>rw[e]at z;cases z
    ·unfold jsq at z;obtain⟨d,_,z⟩:=R.bind_ok z;cases z
    ·simp only[evT,trF,evE,R.bind_assoc,R.bind_ok',deref];exact Lr.refl
  |Call fn args ks pos=>
   replace h:=jak h;obtain⟨hks,h⟩:=h;cases jbe hks;replace h:=jbQ h;rcases h with ⟨f,hn,h⟩ | h
   ·obtain⟨p,rfl⟩:=ja3 hn;replace h:=jak h;obtain⟨hc,h⟩:=h;replace hc:=jbE hc;obtain⟨hb,hf⟩:=hc;have hf:=jgB hf;cases hk:jdx T.defs f with
    |some k=>
     rw[hk]at h;replace h:=jak h;obtain⟨hq,h⟩:=h;replace h:=jap h;obtain⟨es,q,rfl⟩:=h;refine Says.mk' hK (fun B=>jmv D hq hf hb hk (prn q B)) (fun _=>rfl) (fun _ _ z=>by cases z) fun ρ=>?_
     simp only[evT,trF,evE,R.bind_assoc,R.bind_ok'];exact Lr.refl.bind fun _=>Lr.refl.bind fun _=>Lr.refl.bind fun _=>Lr.deref.bind fun _=>Lr.refl
    |none=>
     rw[hk]at h;replace h:jta T sc (trE T n sc X.N) f args=some E':=h;have lr:∀{g:Bf}{Ea:E} ρ,Lr (evT G U (.blt g Ea) ρ) (trF (evE G U (.blt g Ea)) ρ):=fun ρ=>by
      simp only[evT,trF,evE,R.bind_assoc,R.bind_ok'];exact Lr.refl.bind fun _=>Lr.refl.bind fun _=>Lr.refl.bind fun _=>Lr.deref.bind fun _=>Lr.refl
     unfold jta at h;cases hnest:jky T sc f args with
     |some p'=>
      rw[hnest]at h;obtain⟨bf,b⟩:=p';replace h:=jap h;obtain⟨Eb,q,rfl⟩:=h;have S:=ih1 _ _ q;obtain⟨g,p2,pos2,rfl,hq,hb2,hg2,hnf⟩:=jmK hnest;exact Says.mk' hK (fun B=>jmG (p:=p) (pos:=pos) D hq hf hb hg2 hb2 (S.pe B) S.ns hnf) (fun _=>rfl) (fun _ _ z=>by cases z) lr
     |none=>
      rw[hnest]at h;cases args with
      |nil=>exact jaf h
      |cons a r=>
       cases r with
       |nil=>
        replace h:=jbI h;obtain⟨g,Ea,hg,ha,rfl⟩:=h;have S:=ih1 _ _ ha;exact Says.mk' hK (fun B=>jpw (p:=p) (pos:=pos) D hf hb (S.pe B) S.ns hg) (fun _=>rfl) (fun _ _ z=>by cases z) lr
       |cons b r=>
        cases r with
        |cons c r=>exact jaf h
        |nil=>
         replace h:=jaw h;rcases h with ⟨hfi,h⟩ | h
         ·cases jdj hfi;replace h:=jae h;obtain⟨ks,hks,h⟩:=h;replace h:=jak h;obtain⟨hl,h⟩:=h;replace h:=jap h;obtain⟨Ea,ha,rfl⟩:=h;have S:=ih1 _ _ ha;refine Says.mk' hK (fun B=>jpu (p:=p) (pos:=pos) D hf (of_decide_eq_true (jch hl)) (S.pe B) S.ns hks) (fun _=>rfl) (fun _ _ z=>by cases z) fun ρ=>?_
          simp only[evT,trF,evE,R.bind_assoc,R.bind_ok',deref,jbD];exact Lr.refl
         replace h:=jaw h;rcases h with ⟨hm,h⟩ | h
         ·cases jdj hm;replace h:=jak h;obtain⟨hq,h⟩:=h;replace h:=jbI h;obtain⟨Ea,Eb,ha,hb',rfl⟩:=h;have Sa:=ih1 _ _ ha;have Sb:=ih1 _ _ hb';exact Says.nt (fun B=>jrH (p:=p) (pos:=pos) D (jjb (D.calm hq)) (D.blt _ (by decide +kernel)) (by decide +kernel) hb hf (Sa.pe B) Sa.ns (Sb.pe B) Sb.ns fun ρ=>by simp only[evE,jsr,jsW,R.bind_assoc,R.bind_ok']) (fun ρ=>by simp only[evT]) fun _ _ z=>by cases z
         exact jaf h
   exact jaf h
  |ListComp elt gens scope pos=>
   obtain⟨hq,tg,iter,ks,N,cn,nt,caps,tgs,one,it,fc,Ee,Ec,e1,rfl,cd,ev⟩:=jfP D ih h0;cases e1;refine Says.nt (fun B=>?_) (fun ρ=>by simp only[evT]) fun _ _ z=>by cases z
   have:=jpv (pos:=pos) hK (D.calm hq) cd.C (cd.hi B) cd.hT cd.hlow cd.hE cd.hK cd.hs;rw[tE.congr ev];exact this
  |_=>exact jaf h
end DJ
namespace DJ
open PySem PySem.Spec PyProof.Rows L2
theorem jnY {P:Program}{w:World}{H:Hp}{h:Heap}{a:Addr}{o:HO}(x:ObjOk P w H h a o):∃u,h.get? a=some u:=by
 cases o with
 |lst xs=>obtain⟨_,_,_,_,e⟩:=x;exact⟨_,e⟩
 |tup xs=>obtain⟨_,_,_,o,e,_⟩:=x;exact⟨_,e⟩
 |dK kvs=>obtain⟨_,_,_,_,o,_,_,e,_⟩:=x;exact⟨_,e⟩
 |dT kvs=>obtain⟨_,_,_,_,o,_,_,e,_⟩:=x;exact⟨_,e⟩
 |set S n=>obtain⟨o,_,_,_,e,_⟩:=x;exact⟨_,e⟩
 |ins C dx fs=>obtain⟨_,_,_,e,_⟩:=x;exact⟨_,e⟩
 |own y=>obtain⟨_,e⟩:=x;exact⟨_,e⟩
 |xd fs=>obtain⟨_,⟨_,_,_,e,_⟩,_⟩:=x;exact⟨_,e⟩
 |rng lo hi=>obtain⟨_,_,_,e⟩:=x;exact⟨_,e⟩
 |frz ob u=>obtain⟨e,_⟩:=x;exact⟨_,e⟩
 |tbl ps=>exact⟨_,(show h.get? a=some _ from x)⟩
 |met f y=>exact⟨_,(show h.get? a=some _ from x)⟩
 |ext φ=>obtain⟨_,⟨_,e⟩,_⟩:=x;exact⟨_,e⟩
theorem jnZ {h base B:Heap}:∀{l:List Env},h.FunFrames base l->(∀b∈frs l,B.get? b=none)->h.FunFrames B l
 |[],_,_=>trivial
 |env::r,⟨k,⟨L,o,hf,_,ho,hd⟩,t⟩,hB=>⟨k,⟨L,o,hf,hB L (by simp[frs,hf]),ho,hd⟩,jnZ t fun b hb=>hB b (by
  unfold frs at hb ⊢;rw[juZ,hf];exact juL _ hb)⟩
structure Has (X:Cx)(pins:List (Addr×Obj))(H':Hp)(B:Heap):Prop where
 s0:∀b o,X.s₀.heap.get? b=some o->b ∉ frs X.stack->b ∉ X.ex->∃o',B.get? b=some o'
 cl:∀x c,X.fn x=true->X.env.cells.lookup x=some c->∃o',B.get? c=some o'
 pn:∀p∈X.pn++pins,∃o',B.get? p.1=some o'
 tr:∀a o,H' a=some o->∃o',B.get? a=some o'
section
variable {X:Cx}{pins:List (Addr×Obj)}{σ:L2.St}{H:Hp}{s:Shared}{B h':Heap}
theorem Inv.cellNot (I:Inv X pins σ H s){x:Str}{c:Addr}(hf:X.fn x=true)(hc:X.env.cells.lookup x=some c):c ∉ frs X.stack:=fun z=>by
 rcases List.mem_cons.mp (I.stkSub c z)with z | z
 ·exact I.cne x c hc z
 ·have h1:=I.ok.cab x c hf hc;obtain⟨_,o',h2,_⟩:=I.ok.funs.mem z;exact absurd (jvm h2) (Nat.not_lt.mpr h1)
theorem Has.made (I:Inv X pins σ H s):Has X pins H (PySem.W.hideAll s.heap (frs X.stack)) where
 s0 b o e n nx:=by
  obtain⟨o',e'⟩:=I.base.there b o e nx;exact⟨o',PySem.W.hideAll_get _ e' n⟩
 cl x c hf hc:=by
  obtain⟨v,o,ho,_⟩:=I.cell x c hc;exact⟨o,PySem.W.hideAll_get _ ho (Inv.cellNot I hf hc)⟩
 pn p hp:=by
  obtain⟨h1,h2,h3,h4,_⟩:=I.pin p hp;refine⟨p.2,PySem.W.hideAll_get _ h1 fun z=>?_⟩;rcases List.mem_cons.mp (I.stkSub p.1 z)with z | z
  ·exact h3 z
  ·exact h4 z
 tr a o e:=by
  obtain⟨u,hu⟩:=jnY (I.hok a o e);exact⟨u,PySem.W.hideAll_get _ hu fun z=>by rw[I.stkFree a z]at e;cases e⟩
theorem Inv.flown {t':Nat}(I:Inv X pins σ H s)(hfn:∀x,X.fn x=true)(Hs:Has X pins H B)(k:B.StaysIn s.heap)(k':B.StaysIn h')(up:s.heap.UpToSlots h'):Inv X pins σ H { s with heap:=h',toks:=t' }:=by
 have same:∀{b:Addr}{o:Obj},(∃o',B.get? b=some o')->s.heap.get? b=some o->h'.get? b=some o:=fun {b o} ⟨o',e⟩ q=>by
  have:=k b o' e;rw[q]at this;cases this;exact k' b o e
 have notS:∀{b:Addr}{o:Obj},X.s₀.heap.get? b=some o->b ∉ X.fs->b ∉ frs X.stack:=fun {b o} e n z=>by
  rcases List.mem_cons.mp (I.stkSub b z)with z | z
  ·have:=jvm e;rw[z]at this;exact absurd this (Nat.not_lt.mpr I.ok.above)
  ·exact n z
 have cellK:∀{x:Str}{c:Addr}{v:Option Value},X.env.cells.lookup x=some c->s.heap.IsCell c v->h'.IsCell c v:=fun {x c v} hc ⟨o,ho,hd⟩=>⟨o,same (Hs.cl x c (hfn x) hc) ho,hd⟩;refine⟨I.ok,I.os,I.bare,⟨fun b o e n hb hx=>same (Hs.s0 b o e (notS e hb) hx) (I.base.keep b o e n hb hx),fun b o e n hb hx=>?_,I.base.free,fun b o e hx=>?_,I.base.tups,I.base.frzs,I.base.tbls⟩,?_,fun x c hc=>?_,I.free,I.freeC,fun p hp=>?_,fun a u e=>?_,I.len⟩
 ·obtain⟨sl,q⟩:=I.base.slot b o e n hb hx;obtain⟨_,o2,q2,q3⟩:=I.funs.mem hb;rw[q]at q2;cases q2;exact let ⟨sl',q'⟩:=up b _ q q3;⟨sl',q'⟩
 ·obtain⟨o',q⟩:=I.base.there b o e hx;by_cases hb:b∈X.fs
  ·obtain⟨_,o2,q2,q3⟩:=I.funs.mem hb;rw[q]at q2;cases q2;exact let ⟨sl',q'⟩:=up b _ q q3;⟨_,q'⟩
  ·exact⟨o',same (Hs.s0 b o e (notS e hb) hx) q⟩
 ·obtain⟨m,hn,hl⟩:=I.loc;refine⟨m,up.ns hn,fun i x v h1 h2 h3=>?_⟩;obtain⟨u,ru,lk⟩:=hl i x v h1 h2 h3;refine⟨u,ru,?_⟩;rcases lk with lk | ⟨h4,c,h5,h6⟩
  ·exact .inl lk
  ·exact .inr ⟨h4,c,h5,cellK h5 h6⟩
 ·obtain⟨v,q⟩:=I.cell x c hc;exact⟨v,cellK hc q⟩
 ·obtain⟨h1,h2⟩:=I.pin p hp;exact⟨same (Hs.pn p hp) h1,h2⟩
 ·refine(I.hok a u e).stay (fun c w' hc q=>same (Hs.tr c (if c=a then u else .own a) ?_) q) (fun _ q=>q) fun _ _ q=>q;by_cases hca:c=a
  ·rw[if_pos hca,hca];exact e
  ·rw[if_neg hca];rcases hc with z | z
   ·exact absurd z hca
   ·exact z
theorem Inv.freeOf (I:Inv X pins σ H s){a:Addr}(h:s.heap.get? a=none):H a=none:=by
 cases e:H a with
 |none=>rfl
 |some o=>
  obtain⟨u,q⟩:=jnY (I.hok a o e);rw[h]at q;cases q
theorem jd0 {E:XK}{ea:Addr}{cls a0:Value}(I:Inv X pins σ H s)(hfn:∀x,X.fn x=true)(hex:X.ex=[])(hst:X.stack=X.env::X.outer)(Hs:Has X pins H B)(k:B.StaysIn s.heap)(fl:Heap.FlyingW B X.outer ea cls a0 h')(up:s.heap.UpToSlots h')(hn:H ea=none)(q:E cls none H) :
  CXD X.prog X.w X.outer X.H₀ X.s₀ E (.ref ea) { s with heap:=h' }:=by
 have I':Inv X pins σ H { s with heap:=h' }:=Inv.flown (t':=s.toks) I hfn Hs k fl.1 up
 have b:=I'.base;rw[hex]at b;refine⟨ea,cls,a0,H,B,rfl,I'.os,I'.bare,b,I'.hok,fl,fun b o e n=>Hs.s0 b o e (fun z=>?_) (by rw[hex];simp),Hs.tr,hn,q⟩
 rcases List.mem_cons.mp (I.stkSub b z)with z | z
 ·have:=jvm e;rw[z]at this;exact absurd this (Nat.not_lt.mpr I.ok.above)
 ·exact n z
end
section
variable {P:Program}{w:World}{K:Frag}{mg:Str->Option Value}{base:Heap}{N:List Str}{qual:Str}{scope:Scope}{f:Addr}{cd:Value}{A:Around}{outer:List Env}{s s':Shared}{H H':Hp}{E:XK}{pins:List (Addr×Obj)}{σ:L2.St}{ea:Addr}{cls:Value}
theorem jrK (I:Inv (jh2 (CXD P w) P w K mg base N qual scope f cd A outer s H E) pins σ H' s')(fl:FlyC (jh2 (CXD P w) P w K mg base N qual scope f cd A outer s H E) pins ea cls H' s')(q:E cls none H'):(jh2 (CXD P w) P w K mg base N qual scope f cd A outer s H E).xe (.ref ea) s':=by
 obtain⟨⟨a0,B,fly,c1,c2,c3,c4⟩,hn⟩:=fl;refine wpAny_leaves_onW (base:=B) (cls:=cls) (a0:=a0) I.ok.frames rfl fly fun h'' fl'' up=>?_;exact jd0 I (fun _=>rfl) rfl rfl ⟨c1,c2,c3,c4⟩ fly.1 fl'' up hn q
theorem jpF {h':Heap}{vs:List Value}(I:Inv (jh2 (CXD P w) P w K mg base N qual scope f cd A outer s H E) pins σ H' s')(mk:Heap.MadeExcOf s'.heap h' ea cls vs)(q:E cls none H'):(jh2 (CXD P w) P w K mg base N qual scope f cd A outer s H E).xe (.ref ea) { s' with heap:=h' }:=by
 have Hs:=Has.made I;have I':Inv (jh2 (CXD P w) P w K mg base N qual scope f cd A outer s H E) pins σ H' { s' with heap:=h' }:=I.kept (t':=s'.toks) mk.keeps
 refine wpAny_leaves_madeW (base:=PySem.W.hideAll s'.heap (frs (jh2 (CXD P w) P w K mg base N qual scope f cd A outer s H E).stack)) (h:=s'.heap) I.ok.frames rfl (fun b o e=>PySem.W.of_hideAll _ e) (jnZ I.stack fun b hb=>PySem.W.hideAll_none _ hb) mk fun h'' t fl'' _ _ up=>?_;exact jd0 I' (fun _=>rfl) rfl rfl Hs (fun b o e=>mk.keeps b o (PySem.W.of_hideAll _ e)) fl'' up (Inv.freeOf I mk.new) q
end
structure Rcl (K:Frag)(C:Addr):Prop where
 ex:∃(bmB:List Value) (B newId initId:String),PySem.W.excIn K C bmB newId=true/\ExcBaseFacts B newId initId bmB
 nm:∃x,jvz K mainGlobals x=some (some (.ref C))
theorem jmL (l:List DictEntry):∃ls:List Str,∀x,x ∉ ls->l.find? (fun e=>e.key.isStr x)=none:=by
 induction l with
 |nil=>exact⟨[],fun _ _=>rfl⟩
 |cons e r ih=>
  obtain⟨ls,h⟩:=ih;by_cases hn:∃n,e.key.isStr n=true
  ·obtain⟨n,hn⟩:=hn;exact⟨n::ls,fun x hx=>(List.find?_cons_of_neg (p:=fun e:DictEntry=>e.key.isStr x) (a:=e) fun q=>hx (Value.isStr_inj _ _ _ q hn ▸ .head _)).trans (h x fun k=>hx (.tail _ k))⟩
  ·exact⟨ls,fun x hx=>(List.find?_cons_of_neg (p:=fun e:DictEntry=>e.key.isStr x) (a:=e) fun q=>hn ⟨x,q⟩).trans (h x hx)⟩
theorem jpG {K:Frag}{C:Addr}{bmB:List Value}{newId:String}{h:Heap}{mg:Str->Option Value}{x:Str}(p:Program)(M:Mod K mg h)(e:jvz K mainGlobals x=some (some (.ref C)))(q:PySem.W.excIn K C bmB newId=true):OwnCls x C bmB newId mg h:=by
 obtain⟨mb,hb,hx⟩:=M.blt;obtain⟨o,es,ep,ho,hd,hs,hf⟩:=M.glob;obtain⟨ls,hl⟩:=jmL es.toList;exact PySem.W.own_of_in (p:=p) (loose:=ls) (mb:=mb) M.kin ⟨M.glob,hb,M.nolimit,hx,fun x _ h _ _ _=>by rw[<-hf x,nsFind,findBy,<-Array.find?_toList,hl x h];rfl⟩ e q
noncomputable def XM (Z:Kn)(X:Cx)(σ:L2.St)(ρ:Rho)(H:Hp)(c:Nat):Prop:=∀(pins:List (Addr×Obj)) (H1:Hp) (s1:Shared) (h':Heap) (ea C:Addr) (vs:List Value),Z.cl[c]?=some C->Inv X pins σ H1 s1->Stl σ ρ H H1->Heap.MadeExcOf s1.heap h' ea (.ref C) vs->X.xe (.ref ea) { s1 with heap:=h' }
noncomputable def jrL (X:Cx)(C:Addr)(t:TA):TS:=fun D σ H=>t σ H fun vs H1=>vs.length<=sizeLine/\∀(pins:List (Addr×Obj)) (s1:Shared) (h':Heap) (ea:Addr) (us:List Value),Inv X pins σ H1 s1->Heap.MadeExcOf s1.heap h' ea (.ref C) us->X.xe (.ref ea) { s1 with heap:=h' }
theorem jmM {X:Cx}{C:Addr}{x:Str}{np cpos pos:Pos}{a:Expr}{t:TA}(hc:X.calm=true)(R:Rcl X.K C)(hg:Gl X x)(hm:X.mg x=some (.ref C))(hd:(x == ("__debug__":Str))=false)(ha:PA X [a] t)(ns:∀e q,a≠.Starred e q) :
  PS X (.Raise (some (.Call (.Name x np) [a] [] cpos)) none pos) (jrL X C t):=by
 intro pins s σ H D I h;obtain⟨⟨bmB,Bn,newId,initId,q,FB⟩,_,qx⟩:=R;have he:starEach [a] X.env=(false,eval a X.env)::starEach [] X.env:=jad ns;obtain⟨tl,N,nm,qn,bs,hdct,sn,sub,ab,col,dd,k0,k1,k2,k3,k5,mN,hC0,hN0,hni,T0⟩:=(jpG X.prog I.ok.mod qx q).obj;have run:=ha cpos pins s σ H _ I h;refine wpAny_Raise_call_subT (C:=C) (nm:=nm) (q:=qn) (N:=N) (bs:=bs) (bm:=tl) (hdct:=hdct) (sn:=sn) (sub:=sub) (ab:=ab) (col:=col) (dd:=dd) (k0:=k0) (k1:=k1) (k2:=k2) (k3:=k3) (k5:=k5) FB (mN:=mN) (T0.hasType FB.hasBase) (I.ok.hd hc) (by rw[he];rfl) hni (jc1 I hg hm ⟨rfl,?_⟩ hd)
 rw[he]at run ⊢;refine Calls.evalArgs_plain (thn run fun us s1 hzz=>?_);obtain⟨vs,H1,I1,r,q1,q2⟩:=hzz;have kp:∀b o,X.base.get? b=some o->s1.heap.get? b=some o:=fun b o e=>(I1.bs b o e).1;exact⟨rfl,by rw[<-r.length];exact q1,kp _ _ hC0,hN0.keeps kp,T0.keeps kp,fun h' e mk=>q2 pins s1 h' e us I1 mk⟩
end DJ
namespace DJ
open PySem PySem.Spec PyProof.Rows L2
noncomputable def FlP (Z:Kn)(B:Bs)(σ:L2.St)(ρ:Rho)(F:Addr->Prop)(H:Hp)(D:Ends):Fl->Prop
 |.nx ρ'=>∀σ' F' H',Go σ ρ F H σ' ρ' F' H'->SR Z B F' H' σ' ρ'->D.nx σ' H'
 |.bk ρ'=>∀σ' F' H',Go σ ρ F H σ' ρ' F' H'->SR Z B F' H' σ' ρ'->D.bk σ' H'
 |.ct ρ'=>∀σ' F' H',Go σ ρ F H σ' ρ' F' H'->SR Z B F' H' σ' ρ'->D.ct σ' H'
 |.rt v ρ'=>∀u σ' F' H',(∀i,v≠.slot i)->Go σ ρ F H σ' ρ' F' H'->SR Z B F' H' σ' ρ'->RV Z F' B.hp H' σ' ρ' v u->D.rt u H'
noncomputable def XS (Z:Kn)(X:Cx)(σ:L2.St)(ρ:Rho)(F:Addr->Prop)(H:Hp)(c:Nat):Prop:=∀σ' ρ' F' H',Go σ ρ F H σ' ρ' F' H'->XW Z X σ' ρ' H' c/\XM Z X σ' ρ' H' c
inductive tS_I (Z:Kn) (X:Cx) (B:Bs) (f:Rho->R Fl) (D:L2.Ends) (σ:L2.St) (H:L2.Hp):Prop
 |mk (F:_) (ρ:_):(SR Z B F H σ ρ)->(Ok (XS Z X σ ρ F H) (f ρ) (FlP Z B σ ρ F H D))->tS_I Z X B f D σ H
noncomputable def tS (Z:Kn)(X:Cx)(B:Bs)(f:Rho->R Fl):TS:=fun D σ H=>tS_I Z X B f D σ H
inductive tSx_I (Z:Kn) (X:Cx) (B:Bs) (f:Rho->R Fl) (D:L2.Ends) (σ:L2.St) (H:L2.Hp):Prop
 |mk (F:_) (ρ:_):(SR Z B F H σ ρ)->(Ok (XW Z X σ ρ H) (f ρ) (FlP Z B σ ρ F H D))->tSx_I Z X B f D σ H
noncomputable def tSx (Z:Kn)(X:Cx)(B:Bs)(f:Rho->R Fl):TS:=fun D σ H=>tSx_I Z X B f D σ H
section
variable {Z:Kn}{X:Cx}{B:Bs}{σ σ1:L2.St}{ρ ρ1:Rho}{F F1:Addr->Prop}{H H1:Hp}{D:Ends}
theorem XS.xw {c:Nat}(h:XS Z X σ ρ F H c):XW Z X σ ρ H c:=(h σ ρ F H Go.refl).1
theorem XS.mono {c:Nat}(h:XS Z X σ ρ F H c)(g:Go σ ρ F H σ1 ρ1 F1 H1):XS Z X σ1 ρ1 F1 H1 c:=fun σ' ρ' F' H' g'=>h σ' ρ' F' H' (g.trans g')
theorem FlP.go {fl:Fl}(h:FlP Z B σ ρ F H D fl)(g:Go σ ρ F H σ1 ρ1 F1 H1):FlP Z B σ1 ρ1 F1 H1 D fl:=by
 cases fl with
 |nx ρ'=>exact fun σ' F' H' g' r=>h σ' F' H' (g.trans g') r
 |bk ρ'=>exact fun σ' F' H' g' r=>h σ' F' H' (g.trans g') r
 |ct ρ'=>exact fun σ' F' H' g' r=>h σ' F' H' (g.trans g') r
 |rt v ρ'=>exact fun u σ' F' H' n g' r q=>h u σ' F' H' n (g.trans g') r q
theorem PS.x {s:Stmt}{f:Rho->R Fl}(h:PS X s (tSx Z X B f)):PS X s (tS Z X B f):=PS.imp h fun D σ H ⟨F,ρ,r,q⟩=>⟨F,ρ,r,q.imp (fun c w=>w.xw) fun _ z=>z⟩
theorem SR.unname (r:SR Z B F H σ ρ){k:Nat}:SR Z B F H (σ.set k none) (ρ.set k .no):=by
 have get:∀{j:Nat}{s:Sl},s≠.no->(ρ.set k .no)[j]?=some s->ρ[j]?=some s/\(σ.set k none)[j]?=σ[j]?:=fun {j s} hs h=>by
  rw[juP]at h;by_cases e:k=j
  ·rw[if_pos e]at h;split at h
   ·cases h;exact absurd rfl hs
   ·cases h
  ·rw[if_neg e]at h;exact⟨h,ju2 e⟩
 refine⟨r.dom,by simp[r.len],fun i d h=>?_,fun i o f kk h=>?_,fun i j o o' f kk f' k' l ne h h'=>?_,r.base⟩
 ·obtain⟨a,b⟩:=get (by intro z;cases z) h
  rw[b];exact r.dat i d a
 ·obtain⟨a,b⟩:=get (by intro z;cases z) h
  rw[b];exact r.own i o f kk a
 ·obtain⟨a,b⟩:=get (by intro z;cases z) h
  obtain⟨a',b'⟩:=get (by intro z;cases z) h'
  rw[b,b'];exact r.one i j _ _ _ _ _ _ l ne a a'
theorem Go.unname {k:Nat}:Go σ ρ F H (σ.set k none) (ρ.set k .no) F H:=by
 refine⟨fun _ _ h _=>h,fun _ h=>h,fun _ h=>.inl h,fun j o f kk b h1 h2=>?_,fun _ o h=>⟨o,h⟩⟩;rw[juP]at h1;by_cases e:k=j
 ·rw[if_pos e]at h1;split at h1 <;> cases h1
 ·rw[if_neg e]at h1;rw[ju2 e]at h2;exact .inl ⟨o,kk,h1,h2,id⟩
theorem Inv.unname {pins:List (Addr×Obj)}{s:Shared}{m:Str->Option Value}{k:Nat}{n:Str}{h':Heap}{v:Option Value}{t':Nat}(I:Inv X pins σ H s)(nd:X.N.Nodup)(hk:X.N[k]?=some n)(hn:s.heap.Ns X.env.locals m)(hl:∀(i:Nat) (x:Str) (v:V),X.N[i]?=some x->σ[i]?=some (some v)->Vis X.env.scope x->∃u,RelV v u/\Look X.env s.heap m x u)
  (hn':h'.Ns X.env.locals (fun x=>if x=n then v else m x)) (hs:Heap.SameBut X.env.locals s.heap h'):Inv X pins (σ.set k none) H { s with heap:=h',toks:=t' }:=by
 have ne:∀{b:Addr}{o:Obj},X.s₀.heap.get? b=some o->b≠X.env.locals:=fun e=>jvs (jvr (jvm e) I.ok.above);refine⟨I.ok,I.os,I.bare,⟨fun b o e q hb hx=>(hs.2 b (ne e)).trans (I.base.keep b o e q hb hx),fun b o e q hb hx=>?_,I.base.free,fun b o e hx=>?_,I.base.tups,I.base.frzs,I.base.tbls⟩,⟨_,hn',fun j y w e1 e2 e3=>?_⟩,fun y c e=>?_,I.free,I.freeC,fun p hp=>?_,fun b u e=>?_,by simpa using I.len⟩
 ·obtain⟨sl,e1⟩:=I.base.slot b o e q hb hx;exact⟨sl,(hs.2 b (ne e)).trans e1⟩
 ·obtain⟨o',e1⟩:=I.base.there b o e hx;exact⟨o',(hs.2 b (ne e)).trans e1⟩
 ·by_cases hj:k=j
  ·subst hj;rw[juP]at e2;rw[if_pos rfl]at e2;split at e2 <;> cases e2
  ·rw[ju2 hj]at e2;obtain⟨u,ru,q⟩:=hl j y w e1 e2 e3;refine⟨u,ru,?_⟩;rcases q with ⟨kd,e⟩ | ⟨kd,c,e,z⟩
   ·refine .inl ⟨kd,?_⟩;have:y≠n:=fun e=>hj (jcU nd (e ▸ hk) e1);simp[this,e]
   ·exact .inr ⟨kd,c,e,z.sameBut hs (I.cne y c e)⟩
 ·obtain⟨w',z⟩:=I.cell y c e;exact⟨w',z.sameBut hs (I.cne y c e)⟩
 ·obtain⟨e,q,n1,nf,d⟩:=I.pin p hp;exact⟨(hs.2 p.1 n1).trans e,q,n1,nf,d⟩
 ·refine(I.hok b u e).stay (fun c w' hc q=>(hs.2 c ?_).trans q) (fun _ q=>q) fun _ _ q=>q;rintro rfl;rcases hc with rfl | hc
  ·rw[I.free]at e;cases e
  ·rw[I.free]at hc;cases hc
theorem Inv.track {pins:List (Addr×Obj)}{s:Shared}{a:Addr}{o:HO}(I:Inv X pins σ H s)(hn:H a=none)(h0:X.s₀.heap.get? a=none)(hL:a≠X.env.locals)(hc:∀x c,X.env.cells.lookup x=some c->c≠a)(hp:∀p∈X.pn++pins,p.1≠a)
  (ok:ObjOk X.prog X.w (upd H a o) s.heap a o):Inv X pins σ (upd H a o) s:=by
 refine⟨I.ok,I.os,I.bare,⟨I.base.keep,I.base.slot,fun b ob e q hx=>?_,I.base.there,fun b xs e=>?_,fun b ob u e=>?_,fun b ps e=>?_⟩,I.loc,I.cell,?_,fun x c e=>?_,fun p hp'=>?_,fun b u e=>?_,I.len⟩
 ·rw[jac (fun z=>by rw[z,h0]at e;cases e)];exact I.base.free b ob e q hx
 ·have:=I.base.tups b xs e;rw[jac (jab this hn)];exact this
 ·have:=I.base.frzs b ob u e;rw[jac (jab this hn)];exact this
 ·obtain⟨more,this⟩:=I.base.tbls b ps e;exact⟨more,by rw[jac (jab this hn)];exact this⟩
 ·rw[jac (Ne.symm hL)];exact I.free
 ·rw[jac (hc x c e)];exact I.freeC x c e
 ·obtain⟨e,q,r⟩:=I.pin p hp';exact⟨e,by rw[jac (hp p hp')];exact q,r⟩
 ·by_cases hb:b=a
  ·subst hb;rw[jaj]at e;cases e;exact ok
  ·rw[jac hb]at e;refine(I.hok b u e).stay (fun c w' hc q=>q) (fun c q=>?_) fun c ts q=>?_
   ·rw[jac (jab q hn)];exact q
   ·rw[jac (jab q hn)];exact q
end
noncomputable def jqq (X:Cx)(pins:List (Addr×Obj))(E':Value->Shared->Prop):Cx:={ X with xe:=E',pn:=X.pn++pins }
noncomputable def jkC (X:Cx)(pins:List (Addr×Obj))(ea:Addr):Cx:={ X with A:=X.A.mark (some (.ref ea)),calm:=false,xe:=fun _ _=>False,pn:=X.pn++pins }
section
variable {X:Cx}{pins pins':List (Addr×Obj)}{σ:L2.St}{H:Hp}{s:Shared}{E':Value->Shared->Prop}{ea:Addr}
theorem Inv.toTry (I:Inv X pins σ H s):Inv (jqq X pins E') [] σ H s:=
 ⟨⟨I.ok.mod,I.ok.kind,I.ok.glob,I.ok.blt,I.ok.above,I.ok.inj,I.ok.has,I.ok.cab,I.ok.hd,I.ok.frames,I.ok.stk,I.ok.exf,I.ok.bs,I.ok.bsz,I.ok.noex,I.ok.exfs,I.ok.funs,I.ok.frf⟩,I.os,I.bare,I.base,I.loc,I.cell,I.free,I.freeC,fun p hp=>I.pin p (by simpa[jqq] using hp),I.hok,I.len⟩
theorem Inv.ofTry (I:Inv (jqq X pins E') pins' σ H s):Inv X pins σ H s:=
 ⟨⟨I.ok.mod,I.ok.kind,I.ok.glob,I.ok.blt,I.ok.above,I.ok.inj,I.ok.has,I.ok.cab,I.ok.hd,I.ok.frames,I.ok.stk,I.ok.exf,I.ok.bs,I.ok.bsz,I.ok.noex,I.ok.exfs,I.ok.funs,I.ok.frf⟩,I.os,I.bare,I.base,I.loc,I.cell,I.free,I.freeC,fun p hp=>I.pin p (ju7 _ hp),I.hok,I.len⟩
theorem Inv.toHnd (I:Inv X pins σ H s):Inv (jkC X pins ea) [] σ H s:=
 ⟨⟨I.ok.mod,I.ok.kind,I.ok.glob,I.ok.blt,I.ok.above,I.ok.inj,I.ok.has,I.ok.cab,(fun z=>nomatch z),I.ok.frames,I.ok.stk,I.ok.exf,I.ok.bs,I.ok.bsz,I.ok.noex,I.ok.exfs,I.ok.funs,I.ok.frf⟩,I.os,I.bare,I.base,I.loc,I.cell,I.free,I.freeC,fun p hp=>I.pin p (by simpa[jkC] using hp),I.hok,I.len⟩
theorem Inv.ofHnd (I:Inv (jkC X pins ea) pins' σ H s)(hd:X.calm=true->X.A.handled=none):Inv X pins σ H s:=
 ⟨⟨I.ok.mod,I.ok.kind,I.ok.glob,I.ok.blt,I.ok.above,I.ok.inj,I.ok.has,I.ok.cab,hd,I.ok.frames,I.ok.stk,I.ok.exf,I.ok.bs,I.ok.bsz,I.ok.noex,I.ok.exfs,I.ok.funs,I.ok.frf⟩,I.os,I.bare,I.base,I.loc,I.cell,I.free,I.freeC,fun p hp=>I.pin p (ju7 _ hp),I.hok,I.len⟩
theorem XD.toTry {T:Tab}{G:Calls}{U:Nat->Nat->Bool}{Z:Kn}{n:Nat}{sc:List (Str×NameKind)}(D:XD T G U Z n X sc):XD T G U Z n (jqq X pins E') sc:=⟨D.hK,D.calm,D.nd,D.room,D.un,D.sc,D.blt,D.defs,D.cons,D.excs,D.ecl,D.sub⟩
theorem XD.toHnd {T:Tab}{G:Calls}{U:Nat->Nat->Bool}{Z:Kn}{n:Nat}{sc:List (Str×NameKind)}(D:XD T G U Z n X sc):XD { T with quiet:=true } G U Z n (jkC X pins ea) sc:=⟨D.hK,(fun z=>nomatch z),D.nd,(fun z=>nomatch z),D.un,D.sc,D.blt,D.defs,D.cons,D.excs,D.ecl,D.sub⟩
end
theorem jcH {ρ:Rho}{i:Nat}{o:O}{f k:Bool}:(ρ.map jde)[i]?≠some (.own o f k):=by
 rw[juQ];cases ρ[i]? with
 |none=>intro z;cases z
 |some s=>cases s <;> (intro z;cases z)
theorem jiq {ρ:Rho}{i:Nat}{d:D}(h:(ρ.map jde)[i]?=some (.dat d)):ρ[i]?=some (.dat d):=by
 rw[juQ]at h;cases e:ρ[i]? with
 |none=>rw[e]at h;cases h
 |some s=>rw[e]at h;cases s <;> cases h;rfl
theorem SR.refused {Z:Kn}{B:Bs}{σ:L2.St}{ρ:Rho}{F:Addr->Prop}{H H':Hp}{ea:Addr}{u:HO}(r:SR Z B F H σ ρ)(st:Stl σ ρ H H')(hn:H' ea=none):SR Z B (fun a=>F a\/a=ea) (upd H' ea u) σ (ρ.map jde)/\Go σ ρ F H σ (ρ.map jde) (fun a=>F a\/a=ea) (upd H' ea u):=by
 have up:∀{b:Addr}{o:HO},H' b=some o->upd H' ea u b=some o:=fun {b o} e=>by rw[jac (jab e hn)];exact e
 have kp:Keep F (fun a=>F a\/a=ea) H (upd H' ea u):=fun a ha=>by
  obtain⟨o,e⟩:=r.dom a ha;refine⟨.inl ha,?_⟩;rw[up (st.stay a o e fun m=>r.noF m.ow ha),e]
 refine⟨⟨fun a ha=>?_,by simp[r.len],fun i d h=>?_,fun i o f k h=>absurd h jcH,fun i j o o' f k f' k' l _ h=>absurd h jcH,fun b hb=>?_⟩,⟨fun b o e n=>up (st.stay b o e n),fun a ha=>.inl ha,fun a ha=>?_,fun j o f k b h=>absurd h jcH,fun b o e=>?_⟩⟩
 ·rcases ha with ha | ha
  ·obtain⟨o,e⟩:=r.dom a ha;exact⟨o,up (st.stay a o e fun m=>r.noF m.ow ha)⟩
  ·exact⟨u,by rw[ha];exact jaj⟩
 ·obtain⟨v,e1,e2⟩:=r.dat i d (jiq h);exact⟨v,e1,e2.mono kp⟩
 ·refine r.base b ?_;cases e:H b with
  |none=>rfl
  |some o=>
   obtain⟨o',e'⟩:=st.there b o e;rw[up e']at hb;cases hb
 ·rcases ha with ha | ha
  ·exact .inl ha
  ·refine .inr (.inl ?_);cases e:H a with
   |none=>rfl
   |some o=>
    obtain⟨o',e'⟩:=st.there a o e;rw[ha,hn]at e';cases e'
 ·obtain⟨o',e'⟩:=st.there b o e;exact⟨o',up e'⟩
noncomputable def jss (U:Nat->Nat->Bool)(fb fh:Rho->R Fl)(c k:Nat)(ρ:Rho):R Fl:=match fb ρ with
 |.err c'=>if U c' c then ((fh ((ρ.map jde).set k (.dat (.exc c')))).noErr).bind fun r=>match r with
   |.nx ρ'=>.ok (.nx (ρ'.set k .no))
   |_=>.stk
  else .stk
 |r=>r
theorem jrM {Z:Kn}{U:Nat->Nat->Bool}{X:Cx}{B:Bs}(hK:X.K=Z.K)(S:Ecs U Z)(hfn:∀x,X.fn x=true)(hex:X.ex=[])(hst:X.stack=X.env::X.outer)(hfr:X.env.frame=some X.env.locals)(hcalm:X.calm=true)(nd:X.N.Nodup)
  {st:Stmt}{x n:Str}{np hp pos:Pos}{b₀:Stmt}{suite:List Stmt}{c k:Nat}{C':Addr}{fb fh:Rho->R Fl} (hb:∀pins E',PS (jqq X pins E') st (tSx Z (jqq X pins E') B fb)) (hg:Gl X x) (hm:X.mg x=some (.ref C')) (hC':Z.cl[c]?=some C') (hd:(x == ("__debug__":Str))=false)
  (hk:X.N[k]?=some n) (hloc:X.env.scope.names.lookup n=some .local) (hh:∀pins ea,PSs (jkC X pins ea) (b₀::suite) (tS Z (jkC X pins ea) B fh)) :
  PS X (.Try [st] [.ExceptHandler (some (.Name x np)) (some n) (b₀::suite) hp] [] [] pos) (tS Z X B (jss U fb fh c k)):=by
 intro pins s σ H D I hz1;obtain⟨F,ρ,r,h⟩:=hz1;refine wpAny_Try_except ?_;generalize hE:(fun (e:Value) (s₁:Shared)=>wpAny (model X.prog X.w) X.A (noteFrame e X.env) (fun _ s₂=>wpAny (model X.prog X.w) X.A (setFlight e none) (fun _ s₃=>wpAny (model X.prog X.w) X.A (handleBy e X.env [.ExceptHandler (some (.Name x np)) (some n) (b₀::suite) hp]) (SP X pins D) X.xe s₃) X.xe s₂) X.xe s₁)=E';have body:=jhj (hb pins E') ji6 [] s σ H D (Inv.toTry I) (by
  refine⟨F,ρ,r,?_⟩;unfold jss at h;cases hf:fb ρ with
  |ok fl=>rw[hf]at h;exact h
  |stk=>rw[hf]at h;exact False.elim h
  |err c'=>
   rw[hf]at h;simp only at h;split at h
   ·rename_i hU;intro pins' H' s' ea C hC I' stl fly;have I1:Inv X pins σ H' s':=Inv.ofTry I';obtain⟨⟨a0,B0,fly0,c1,c2,c3,c4⟩,hn⟩:=fly;have Hs:Has X pins H' B0:=⟨c1,c2,fun p hp=>c3 p (ju7 _ hp),c4⟩;have fly0':Heap.FlyingW B0 (X.env::X.outer) ea (.ref C) a0 s'.heap:=by rw[<-hst];exact fly0
    have frm:X.A.frames=some (X.env::X.outer):=by rw[<-hst];exact I1.ok.frames
    show E' (.ref ea) s';rw[<-hE];refine wpAny_looks_onW (base:=B0) (cls:=.ref C) (a0:=a0) frm hfr fly0' fun h4 held up4=>?_;refine wpAny_landsW held fun h5 fly5 up5=>?_;have I5:Inv X pins σ H' { s' with heap:=h5 }:=Inv.flown (t':=s'.toks) I1 hfn Hs fly0.1 fly5.1 (up4.trans up5)
    obtain⟨ob,hob,hobc⟩:=fly5.there;refine wpAny_handleBy_cons (codeAny_handlers_test ?_) (by intro q;cases q)
    refine jc1 (X:=jkC X pins ea) (Inv.toHnd I5) hg hm ?_ hd;have e':ECls X.K C':=by rw[hK];exact S.ecl C' (juW hC')
    have hsub:PySem.W.subIn X.K (.ref C) (.ref C')=some true:=by
     rw[hK];have:=S.sub c' c C C' hC hC';rw[hU]at this;exact this
    refine jgm (prog:=X.prog) (w:=X.w) (s:={ s' with heap:=h5 }) I5.kIn e' ⟨ob,hob,hobc⟩ hsub ?_
    refine codeAny_handlers_suite_as ?_;refine lands_againW (s:={ s' with heap:=h5 }) fly5 fun h6 fly6 up6=>?_
    have I6:Inv X pins σ H' { s' with heap:=h6 }:=Inv.flown (t':=s'.toks) I1 hfn Hs fly0.1 fly6.1 ((up4.trans up5).trans up6)
    obtain⟨oe,ws,hoe,hoec,hoed,_⟩:=fly6.first;have notB:B0.get? ea=none:=fly0.2.1;have notF:ea ∉ frs X.stack:=fun z=>by
     obtain⟨_,o2,q2,q3⟩:=I6.stack.mem z;have q2:h6.get? ea=some o2:=q2;rw[hoe]at q2;cases q2;exact q3 ws hoed
    have no:∀{b:Addr},(∃o',B0.get? b=some o')->b≠ea:=fun ⟨o',q⟩ z=>by rw[z,notB]at q;cases q
    have hL:ea≠X.env.locals:=fun z=>notF (by rw[hst];unfold frs;rw[juZ,hfr,z];exact juM)
    have I6':Inv X pins σ (upd H' ea (.ext (jhs ea C))) { s' with heap:=h6 }:=by
     refine Inv.track I6 hn ?_ hL (fun y c hc=>no (Hs.cl y c (hfn y) hc)) (fun p hp=>no (Hs.pn p hp)) ⟨⟨oe,ws,hoe,hoec,hoed⟩,⟨oe,hoe⟩,fun h1 h2 ⟨o,vs,q1,q2⟩ kk=>⟨o,vs,kk o q1,q2⟩⟩;cases e:X.s₀.heap.get? ea with
     |none=>rfl
     |some o0=>
      exact absurd rfl (no (Hs.s0 ea o0 e notF (by rw[hex];simp)))
    refine jcV (X:=X) I6' nd hk (.inl hloc) (v:=.ref ea) rfl (fun s7 I7=>?_) (.inr hloc);obtain⟨r6,g6⟩:=r.refused (u:=.ext (jhs ea C)) stl hn;have r7:=r6.put (i:=k) (d:=.exc c') (v:=.ref ea) (by simp only[Rep];exact⟨ea,C,rfl,.inr rfl,hC,jaj⟩)
    have g7:=g6.trans (Go.put (i:=k) (d:=.exc c') (v:=.ref ea));cases hfh:fh ((ρ.map jde).set k (.dat (.exc c')))with
    |err c2=>rw[hfh]at h;exact False.elim h
    |stk=>rw[hfh]at h;exact False.elim h
    |ok fl=>
     rw[hfh]at h;have h:Ok (XS Z X σ ρ F H) (match fl with | .nx ρ'=>.ok (.nx (ρ'.set k .no)) | _=>.stk) (FlP Z B σ ρ F H D):=h
     refine jvj (hh pins ea [] s7 _ _ (Ends.mk (fun σ8 H8=>∃F8 ρ8,Go σ ρ F H σ8 ρ8 F8 H8/\SR Z B F8 H8 σ8 ρ8/\FlP Z B σ ρ F H D (.nx (ρ8.set k .no))) (fun _ _=>False) (fun _ _=>False) (fun _ _=>False)) (Inv.toHnd I7) ⟨_,_,r7,?_⟩) (fun f s8 q8=>?_) fun _ _ z=>False.elim z
     ·rw[hfh];cases fl with
      |nx ρ8=>exact fun σ' F' H'' g' r'=>⟨F',ρ8,g7.trans g',r',h⟩
      |bk _=>exact False.elim h
      |ct _=>exact False.elim h
      |rt _ _=>exact False.elim h
     ·cases f with
      |next=>
       obtain⟨σ8,H8,I8',F8,ρ8,g8,r8,q8⟩:=q8;have I8:Inv X pins σ8 H8 s8:=Inv.ofHnd I8' I.ok.hd;obtain⟨m,hns,hl⟩:=I8.loc;refine wpAny_nameGoes_keeps (env:=X.env) hloc hns (by rw[I8.ok.kind];rfl) fun h9 v ns9 sb9=>?_
       exact⟨σ8.set k none,H8,Inv.unname I8 nd hk hns hl ns9 sb9,q8 _ F8 H8 (g8.trans Go.unname) r8.unname⟩
      |brk=>obtain⟨_,_,_,q⟩:=q8;exact False.elim q
      |cont=>obtain⟨_,_,_,q⟩:=q8;exact False.elim q
      |ret u=>obtain⟨_,_,_,_,_,q⟩:=q8;exact False.elim q
   ·exact False.elim h)
 refine jvj body (fun f s1 q=>?_) fun e s1 q=>?_
 ·cases f with
  |next=>obtain⟨σ',H',I',q⟩:=q;exact wpAny_execs_nil ⟨σ',H',Inv.ofTry I',q⟩
  |brk=>obtain⟨σ',H',I',q⟩:=q;exact⟨σ',H',Inv.ofTry I',q⟩
  |cont=>obtain⟨σ',H',I',q⟩:=q;exact⟨σ',H',Inv.ofTry I',q⟩
  |ret u=>obtain⟨v,σ',H',I',rv,q⟩:=q;exact⟨v,σ',H',Inv.ofTry I',rv,q⟩
 ·exact q
end DJ
namespace DJ
open PySem PySem.Spec PyProof.Rows L2
section
variable {G:Calls}{U:Nat->Nat->Bool}{Z:Kn}{X:Cx}{B:Bs}
theorem RV.unlk {F:Addr->Prop}{H0 H:Hp}{σ:L2.St}{ρ:Rho}{lk:List Nat}{w:Vl}{v:V}(h:RV Z F H0 H σ ρ w v):RV Z F H0 H σ (unlk lk ρ) w v:=by
 cases w with
 |dat d=>exact h
 |tmp o=>obtain⟨l,e,h1,h2,h3,h4⟩:=h;exact⟨l,e,h1,fun z=>h2 z.unlk,h3,h4⟩
 |slot i=>exact h
theorem jmN {v:Vl}{ρ:Rho}{c:Nat}:jmd v ρ≠.err c:=by
 cases v with
 |dat d=>intro z;cases z
 |tmp o=>intro z;cases z
 |slot i=>
  simp only[jmd];split <;> (intro z;cases z)
theorem jrN {e:Expr}{f:Rho->R (Vl×Rho)}{pos:Pos}(h:PE X e (tE Z X B f)):PS X (.Return (some e) pos) (tSx Z X B fun ρ=>(f ρ).bind fun p=>jmd p.1 p.2):=by
 refine PS.imp (jqJ h) fun D σ H hzz=>?_;obtain⟨F,ρ,r,q⟩:=hzz;refine⟨F,ρ,r,q.bind.imp (fun _ w=>w) fun p h1 v F' H' g r' rv=>?_⟩;obtain⟨fl,hf,h2⟩:=h1.pure fun c=>jmN;obtain⟨w,ρ'⟩:=p;cases w with
 |dat d=>cases hf;exact h2 v σ F' H' (fun _ z=>by cases z) g r' rv
 |tmp o=>cases hf;exact h2 v σ F' H' (fun _ z=>by cases z) g r' (rv.base r.base)
 |slot i=>
  have rv:σ[i]?=some (some v):=rv;simp only[jmd]at hf;split at hf
  ·rename_i o e;cases hf;obtain⟨l,e1,e2,e3,e4⟩:=r'.own i o _ _ e;rw[rv]at e1;cases e1;refine h2 (.ref l) σ F' H' (fun _ z=>by cases z) (g.trans (Go.weak Le.no)) (r'.weak Le.no) ⟨l,rfl,e2,fun z=>?_,e4.2 rfl,e3⟩
   obtain⟨j,o',f',k',z1,z2⟩:=z;rw[juP]at z1;by_cases hij:i=j
   ·rw[if_pos hij]at z1;split at z1 <;> cases z1
   ·rw[if_neg hij]at z1;exact r'.one i j _ _ _ _ _ _ l hij e z1 rv z2
  ·cases hf
theorem jpH {pos:Pos}:PS X (.Return none pos) (tSx Z X B fun ρ=>.ok (.rt (.dat .non) ρ)):=by
 refine PS.imp joh fun D σ H hzz=>?_;obtain⟨F,ρ,r,q⟩:=hzz;exact q .non σ F H (fun _ z=>by cases z) Go.refl r (by show Rep _ _ _ _ _;simp only[Rep])
theorem jpI {pos:Pos}:PS X (.Pass pos) (tSx Z X B fun ρ=>.ok (.nx ρ)):=PS.imp jog fun D σ H ⟨F,ρ,r,q⟩=>q σ F H Go.refl r
theorem jrO {pos:Pos}:PS X (.Break pos) (tSx Z X B fun ρ=>.ok (.bk ρ)):=PS.imp jlx fun D σ H ⟨F,ρ,r,q⟩=>q σ F H Go.refl r
theorem jrP {pos:Pos}:PS X (.Continue pos) (tSx Z X B fun ρ=>.ok (.ct ρ)):=PS.imp jgh fun D σ H ⟨F,ρ,r,q⟩=>q σ F H Go.refl r
theorem jkD {e:Expr}{f:Rho->R (Vl×Rho)}{pos:Pos}(h:PE X e (tE Z X B f))(hs:swapsWith e none pos.line X.env=pure false):PS X (.Expr e pos) (tSx Z X B fun ρ=>(f ρ).bind fun p=>.ok (.nx p.2)):=by
 refine PS.imp (jgi h hs) fun D σ H hzz=>?_;obtain⟨F,ρ,r,q⟩:=hzz;exact⟨F,ρ,r,q.bind.imp (fun _ w=>w) fun p h1 v F' H' g r' rv=>h1 σ F' H' g r'⟩
theorem jmO {v:Vl}{ρ:Rho}{c:Nat}:jhr v ρ≠.err c:=by
 cases v with
 |dat d=>intro z;cases z
 |tmp o=>intro z;cases z
 |slot i=>
  simp only[jhr];intro z;cases e:toD (.slot i) ρ with
  |ok p=>rw[e]at z;cases z
  |err c=>exact jcC e
  |stk=>rw[e]at z;cases z
theorem jpJ {σ:L2.St}{ρ ρ1 ρ2:Rho}{F F1:Addr->Prop}{H H1:Hp}{w:Vl}{v:V}{s:Sl}{i:Nat}(rv:RV Z F1 H H1 σ ρ1 w v)(r:SR Z B F H σ ρ)(r1:SR Z B F1 H1 σ ρ1)(g:Go σ ρ F H σ ρ1 F1 H1)(h:jhr w ρ1=.ok (s,ρ2)) :
  ∃F2,Go σ ρ F H (σ.set i (some v)) (ρ2.set i s) F2 H1/\SR Z B F2 H1 (σ.set i (some v)) (ρ2.set i s):=by
 have dat:∀{w:Vl},RV Z F1 H H1 σ ρ1 w v->(toD w ρ1).bind (fun p=>(.ok (.dat p.1,p.2):R (Sl×Rho)))=.ok (s,ρ2)->∃F2,Go σ ρ F H (σ.set i (some v)) (ρ2.set i s) F2 H1/\SR Z B F2 H1 (σ.set i (some v)) (ρ2.set i s):=fun {w} rv h=>by
  obtain⟨p,hp,h⟩:=R.bind_ok h;cases h;obtain⟨F2,g2,r2,rp,_⟩:=jdW rv r1 g hp;exact⟨F2,g2.trans Go.put,r2.put rp⟩
 cases w with
 |dat d=>exact dat rv h
 |slot j=>exact dat rv h
 |tmp o=>
  cases h;obtain⟨l,rfl,h1,h2,h3,h4⟩:=rv;exact⟨F1,g.putOwn h3,r1.putOwn h1 h2 (r.base l h3) h4⟩
theorem jrQ {e:Expr}{f:Rho->R (Vl×Rho)}{i:Nat}{x:Str}{pos pos':Pos}(nd:X.N.Nodup)(hi:X.N[i]?=some x)(hx:Loc X.env.scope x)(hf:X.fn x=true\/X.env.scope.names.lookup x=some .local)(h:PE X e (tE Z X B f))
  (hs:swapsWith e (some (.Name x pos')) pos.line X.env=pure false):PS X (.Assign [.Name x pos'] e pos) (tSx Z X B fun ρ=>(f ρ).bind fun p=>(jhr p.1 p.2).bind fun q=>if i < q.2.length then .ok (.nx (q.2.set i q.1))else .stk):=by
 refine PS.imp (jqM nd hi hx h hs hf) fun D σ H hzz=>?_;obtain⟨F,ρ,r,q⟩:=hzz;refine⟨F,ρ,r,q.bind.imp (fun _ w=>w) fun p h1 v F' H' g r' rv=>?_⟩;obtain⟨t,ht,h2⟩:=h1.bind.pure fun c=>jmO;split at h2
 ·obtain⟨F2,g2,r2⟩:=jpJ (i:=i) rv r r' g ht;exact h2 _ F2 H' g2 r2
 ·exact False.elim h2
theorem jtc {c:Expr}{a b:List Stmt}{pos:Pos}{fc:Rho->R (Bool×Rho)}{fa fb:Rho->R Fl}(hc:PT X c (tT Z X B fc))(ha:PSs X a (tS Z X B fa))(hb:PSs X b (tS Z X B fb)):PS X (.If c a b pos) (tS Z X B fun ρ=>(fc ρ).bind fun t=>if t.1 then fa t.2 else fb t.2):=by
 refine PS.imp (jsz hc ha hb) fun D σ H hzz=>?_;obtain⟨F,ρ,r,q⟩:=hzz;refine⟨F,ρ,r,q.bind.imp (fun _ w=>w.xw) fun t p F' H' g r'=>?_⟩;obtain⟨b,ρ1⟩:=t;cases b with
 |true=>rw[if_pos rfl]at p ⊢;exact⟨F',ρ1,r',p.imp (fun _ w=>w.mono g) fun fl z=>z.go g⟩
 |false=>rw[if_neg jvx]at p ⊢;exact⟨F',ρ1,r',p.imp (fun _ w=>w.mono g) fun fl z=>z.go g⟩
theorem jrR:PSs X [] (tS Z X B fun ρ=>.ok (.nx ρ)):=PSs.imp ji6 fun D σ H ⟨F,ρ,r,q⟩=>q σ F H Go.refl r
theorem jpK {s:Stmt}{ss:List Stmt}{f g:Rho->R Fl}(h1:PS X s (tS Z X B f))(h2:PSs X ss (tS Z X B g)):PSs X (s::ss) (tS Z X B fun ρ=>(f ρ).bind (joZ g)):=by
 refine PSs.imp (jhj h1 h2) fun D σ H hzz=>?_;obtain⟨F,ρ,r,q⟩:=hzz;refine⟨F,ρ,r,q.bind.imp (fun _ w=>w) fun fl p=>?_⟩;cases fl with
 |nx ρ'=>exact fun σ' F' H' g' r'=>⟨F',ρ',r',p.imp (fun _ w=>w.mono g') fun fl z=>z.go g'⟩
 |bk ρ'=>exact p
 |ct ρ'=>exact p
 |rt v ρ'=>exact p
theorem jrS (hK:X.K=Z.K){x:Str}{i:Nat}{e:Expr}{f:Rho->R (Vl×Rho)}{xp apos cpos pos:Pos}(hv:PE X (.Name x xp) (jqm i))(h:PE X e (tE Z X B f))(ns:∀a p,e≠.Starred a p)(hline:(apos.endLine == cpos.line)=true) :
  PS X (.Expr (.Call (.Attribute (.Name x xp) "append" apos) [e] [] cpos) pos) (tSx Z X B fun ρ=>match ρ[i]? with
   |some (.own (.l _) _ _)=>(f ρ).bind fun p=>(toD p.1 p.2).bind fun q=>match q.2[i]? with
    |some (.own (.l xs) f false)=>if fits (xs.length + 1)then .ok (.nx (q.2.set i (.own (.l (xs++[q.1])) f false)))else .stk
    |_=>.stk
   |_=>.stk):=by
 have hbase:attributeBase (.Name x xp) "append" X.env (eval (.Name x xp) X.env)=eval (.Name x xp) X.env:=rfl;have he:=jad (es:=[]) (env:=X.env) ns;refine PS.imp (jgi (jq2 PySem.F.plainAttrs_list PySem.F.slot_list_append PySem.F.type_list_append jfh hv (jat h jba he) hbase (by rw[he];rfl) hline he rfl) rfl) fun D σ H hzz=>?_
 obtain⟨F,ρ,r,q⟩:=hzz;try dsimp only at q
 split at q
 ·rename_i x0 f0 k0 e0;obtain⟨l,e1,_,⟨us,e3,_⟩,_⟩:=r.own i _ _ _ e0;refine⟨.ref l,e1,.inl ⟨rfl,us,SqL.of e3⟩,F,ρ,r,q.bind.imp (fun _ w=>w) fun p h1 v F1 H1 g1 r1 rv=>?_⟩;obtain⟨t,ht,h2⟩:=h1.bind.pure fun c=>jcC;obtain⟨F2,g2,r2,rp,_⟩:=jdW rv r1 g1 ht;split at h2
  ·rename_i xs f1 e2;split at h2
   ·rename_i hfit;obtain⟨l2,a1,a2,⟨vs,a3,a4⟩,a5⟩:=r2.own i _ _ _ e2;rw[e1]at a1;cases a1;have hl:=a4.length;have hz:=jbj hfit;refine⟨l,vs,v,rfl,rfl,a3,by omega,?_⟩
    obtain⟨kp,sr⟩:=r2.wr (o':=.l (xs++[t.1])) (u:=.lst (vs++[v])) e2 e1 (fun kp=>⟨vs++[v],jaj,(a4.mono kp).append (.one (rp.mono kp))⟩) false;exact h2 σ F2 _ (g2.trans (Go.wr e2 e1)) sr
   ·exact False.elim h2
  ·exact False.elim h2
 ·exact False.elim q
theorem jmP (hK:X.K=Z.K)(hc:X.calm=true){C:Addr}{c:Nat}{x:Str}{np cpos pos:Pos}{a:Expr}{f:Rho->R (Vl×Rho)}(R':Rcl Z.K C)(hC:Z.cl[c]?=some C)(hg:Gl X x)(hm:X.mg x=some (.ref C))(hd:(x == ("__debug__":Str))=false)(ha:PE X a (tE Z X B f))(ns:∀e q,a≠.Starred e q) :
  PS X (.Raise (some (.Call (.Name x np) [a] [] cpos)) none pos) (tS Z X B fun ρ=>(f ρ).bind fun _=>.err c):=by
 refine PS.imp (jmM hc (by rw[hK];exact R') hg hm hd (jat ha jba (jad ns)) ns) fun D σ H hzz=>?_
 obtain⟨F,ρ,r,q⟩:=hzz;refine⟨F,ρ,r,q.bind.imp (fun _ w=>w.xw) fun p h1 v F' H' g r' rv=>?_⟩;have h1:XS Z X σ ρ F H c:=h1;refine⟨by rw[sizeLine_eq];show 1<=16777216;decide,fun pins s1 h' ea us I1 mk=>?_⟩
 exact(h1 σ p.2 F' H' g).2 pins H' s1 h' ea C us hC I1 ⟨fun _ _ e _=>e,fun _ o e=>⟨o,e⟩⟩ mk
end
theorem jhI {tgs:List Nat}{one:Bool}{x:D}{ρ:Rho}{c:Nat}:putT tgs one x ρ≠.err c:=by
 intro h;unfold putT at h;split at h
 ·cases h
 ·split at h <;> cases h
 ·cases h
inductive ForI (X:Cx) (pins:List (Addr×Obj)) (Z:Kn) (B:Bs) (σ:L2.St) (ρ1:Rho) (F2:Addr->Prop) (H2:Hp) (ls fp:List Addr) (tn:Nat->Heap->Prop) (n:Nat) (Rest:Nat->Rho->Prop) (k:Nat) (s':Shared):Prop
 |mk (i:Nat) (σ':L2.St) (F':Addr->Prop) (H':Hp) (ρ':Rho):k=n - i->i<=n->Inv X pins σ' H' s'->SR Z B F' H' σ' ρ'->Go σ ρ1 F2 H2 σ' ρ' F' H'->GK F2 H2 ls F' H'->tn i s'.heap->(∀b∈fp,H' b=none)->Rest i ρ'->ForI X pins Z B σ ρ1 F2 H2 ls fp tn n Rest k s'
theorem jrT {Z:Kn}{X:Cx}{B:Bs}{tg iter:Expr}{body:List Stmt}{pos:Pos}{tgs:List Nat}{one:Bool}{fi:Rho->R (List D×List Nat×Rho)}{fb:Rho->R Fl}(hK:X.K=Z.K)(hp:PassesOwn (model X.prog X.w) X.A X.env X.xe)(hc:X.calm=true)(nd:X.N.Nodup)
  (hi:PI X tg iter (tI Z X B fi)) (hT:TgOk X tg tgs one) (hb:PSs X body (tS Z X B fb)) (hs:∀x,foldedSetIterable iter X.env x=pure x) :
  PS X (.For tg iter body [] pos) (tS Z X B fun ρ=>(fi ρ).bind fun t=>(ja2 (fun x r=>(putT tgs one x r).bind fun r'=>fb r') t.1 t.2.2).bind fun r=>.ok (jeu t.2.1 r)):=by
 intro pins s σ H D I hz1;obtain⟨F,ρ,r,h⟩:=hz1;refine wpAny_For (thn (hi pins s σ H (fun J H'=>∃(F':Addr->Prop) (t:List DJ.D×List Nat×Rho) (ls:List Addr),ItR Z B σ ρ F H t.2.2 F' H' t.2.1 ls/\ItmG Z (GK F' H' ls) J t.1/\Ok (XS Z X σ ρ F H) ((ja2 (fun x r=>(putT tgs one x r).bind fun r'=>fb r') t.1 t.2.2).bind fun r=>.ok (jeu t.2.1 r)) (FlP Z B σ ρ F H D)) I
  ⟨F,ρ,r,h.bind.imp (fun c w=>w.xw) fun t h1 F' H' J ls ir im=>⟨F',t,ls,ir,im,h1⟩⟩) fun v s1 h1=>thn h1 fun itv s2 hzz=>?_) hs
 obtain⟨it,fp,tn,J,H2,e,I2,T,st2,f2,F2,t,ls,ir,im,q2⟩:=hzz;subst e;obtain⟨xs,lk,ρ1⟩:=t;have W:=im.wk hK (fun l hl=>(ir.on l hl).1) T;have stat:∀{H':Hp},(∀b∈fp,H' b=none)->∀b∈fp,FpOk X pins H' b:=fun hn b hb=>⟨hn b hb,(f2 b hb).2⟩;let Rest:=fun (i:Nat) (ρ':Rho)=>Ok (XS Z X σ ρ F H) ((ja2 (fun x r=>(putT tgs one x r).bind fun r'=>fb r') (xs.drop i) ρ').bind fun r=>.ok (jeu lk r)) (FlP Z B σ ρ F H D);refine codeAny_forLoop_any (ForI X pins Z B σ ρ1 F2 H2 ls fp tn xs.length Rest) ?_ xs.length
  ⟨0,σ,F2,H2,ρ1,rfl,Nat.zero_le _,I2,ir.sr,Go.refl,GK.refl,st2,fun b hb=>(f2 b hb).1,q2⟩
 rintro n s3 ⟨i,σ3,F3,H3,ρ3,rfl,hi3,I3,r3,g3,gk3,st3,fr3,q3⟩;by_cases hlt:i < xs.length
 ·have hx:xs[i]?=some xs[i]:=juK hlt;have q3:Ok (XS Z X σ ρ F H) ((ja2 (fun x r=>(putT tgs one x r).bind fun r'=>fb r') (xs.drop i) ρ3).bind fun r=>.ok (jeu lk r)) (FlP Z B σ ρ F H D):=q3;rw[List.drop_eq_getElem_cons hlt]at q3;simp only[ja2,R.bind_assoc]at q3;cases hp3:putT tgs one xs[i] ρ3 with
  |err c=>exact absurd hp3 jhI
  |stk=>rw[hp3]at q3;exact False.elim q3
  |ok ρ4=>
   rw[hp3,R.bind_ok']at q3;have q3:=q3.bind;refine wpAny_passesOwn hp (thn (W.take X rfl rfl hK hc nd tgs one hT i pins s3 σ3 ρ3 ρ4 B F3 H3 _ I3 r3 gk3 (stat fr3) st3 hx hp3) fun o s4 hzz=>?_);obtain⟨u,ho,h4⟩:=hzz;subst ho;refine wpAny_passesOwn hp (thn h4 fun _ s5 h5=>wpAny_passesOwn hp (thn h5 fun _ s6 hzz=>?_));obtain⟨σ6,F6,H6,I6,r6,g6,gk6,st6,fr6,_⟩:=hzz;have I6':=I6.pinned (stat fr6) (W.obj _ _ st6);have gA:Go σ ρ1 F2 H2 σ6 ρ4 F6 H6:=g3.trans g6;have gF:Go σ ρ F H σ6 ρ4 F6 H6:=ir.go.trans gA;have hm6:∀l∈ls,¬Mb σ6 ρ4 l:=fun l hl z=>by
    obtain⟨⟨o,e⟩,nm⟩:=ir.on l hl;rcases gA.mb z with z | z
    ·exact nm z
    ·rw[e]at z;cases z
   refine wpAny_passesOwn hp (thn (hb _ s6 σ6 H6 (Ends.mk (fun σ' H'=>∃F' ρ',SR Z B F' H' σ' ρ'/\Go σ6 ρ4 F6 H6 σ' ρ' F' H'/\Rest (i + 1) ρ') D.rt D.nx (fun σ' H'=>∃F' ρ',SR Z B F' H' σ' ρ'/\Go σ6 ρ4 F6 H6 σ' ρ' F' H'/\Rest (i + 1) ρ')) I6' ⟨F6,ρ4,r6,q3.imp (fun _ w=>w.mono gF) fun fl z=>?_⟩) fun f s7 q7=>?_)
   ·cases fl with
    |nx ρ'=>exact fun σ' F' H' g r'=>⟨F',ρ',r',g,z⟩
    |ct ρ'=>exact fun σ' F' H' g r'=>⟨F',ρ',r',g,z⟩
    |bk ρ'=>exact fun σ' F' H' g r'=>z σ' F' H' (ir.un σ' ρ' F' H' (gA.trans g)) r'.unlk
    |rt w ρ'=>exact fun u σ' F' H' n g r' rv=>z u σ' F' H' n (ir.un σ' ρ' F' H' (gA.trans g)) r'.unlk rv.unlk
   ·have again:∀{σ7:L2.St}{H7:Hp},Inv X (pins++jbY fp s6.heap) σ7 H7 s7->(∃F' ρ',SR Z B F' H7 σ7 ρ'/\Go σ6 ρ4 F6 H6 σ7 ρ' F' H7/\Rest (i + 1) ρ') ->
      ∃m,m < xs.length - i/\ForI X pins Z B σ ρ1 F2 H2 ls fp tn xs.length Rest m s7:=fun {σ7 H7} I7 hzz=>by
     obtain⟨F7,ρ7,r7,g7,q7⟩:=hzz;refine⟨xs.length - (i + 1),by omega,i + 1,σ7,F7,H7,ρ7,rfl,hlt,I7.unpinned,r7,gA.trans g7,gk6.go W.lst r6 g7 hm6,W.keep _ _ _ st6 fun b hb o e=>(I7.pin (b,o) (juV _ (juV _ (jbn hb e)))).1,fun b hb=>?_,q7⟩
     obtain⟨o,e,d⟩:=W.obj _ _ st6 b hb;exact(I7.pin (b,o) (juV _ (juV _ (jbn hb e)))).2.1
    cases f with
    |next=>obtain⟨σ7,H7,I7,n7⟩:=q7;exact again I7 n7
    |cont=>obtain⟨σ7,H7,I7,n7⟩:=q7;exact again I7 n7
    |brk=>obtain⟨σ7,H7,I7,q7⟩:=q7;exact⟨σ7,H7,I7.unpinned,q7⟩
    |ret v=>obtain⟨x7,σ7,H7,I7,r7,q7⟩:=q7;exact⟨x7,σ7,H7,I7.unpinned,r7,q7⟩
 ·have hie:i=xs.length:=by omega
  subst hie;have q3:Ok (XS Z X σ ρ F H) ((ja2 (fun x r=>(putT tgs one x r).bind fun r'=>fb r') (xs.drop xs.length) ρ3).bind fun r=>.ok (jeu lk r)) (FlP Z B σ ρ F H D):=q3;rw[List.drop_eq_nil_of_le (jvq _)]at q3;have q3:FlP Z B σ ρ F H D (.nx (unlk lk ρ3)):=q3;refine wpAny_passesOwn hp (thn (W.done X rfl rfl hK hc pins s3 σ3 F3 H3 I3 r3.dom gk3 (stat fr3) st3) fun o s4 hzz=>?_);obtain⟨ho,I4⟩:=hzz;subst ho;exact wpAny_execs_nil ⟨σ3,H3,I4,q3 σ3 F3 H3 (ir.un σ3 ρ3 F3 H3 g3) r3.unlk⟩
end DJ
namespace L2
open PySem PySem.Spec PyProof.Rows
section
variable {X:Cx}
noncomputable def jmQ:V->List V->Hp->VK->Prop:=fun x vs H Q=>∃l xs y,x=.ref l/\vs=[.int 0,y]/\H l=some (.lst xs)/\xs.length < sizeLine/\Q .non (upd H l (.lst (y::xs)))
theorem jir:MtM X "list.insert" jmQ:=by
 intro pins s σ H x vs v us Q I rx rv h;obtain⟨l,xs,y,rfl,rfl,hH,hz,q⟩:=h;cases rx;cases rv with
 |cons r0 rr=>
  obtain⟨t,rfl⟩:=r0;obtain⟨u,rfl,ru⟩:=Vals.one rr;obtain⟨z,its,n,r,hl,e⟩:=I.lstM hH;have f0:¬(!Builtin.List.listFitsIndex 0)=true:=by decide
  refine call_meets F.slot_list_insert ⟨_,e,rfl⟩ F.entry_list_insert (F.args_list_insert_3 _ _ _) (AutoSeq1.list_insert_list_int_val_1 l its.toArray n 0 t u f0 (by rw[juO];omega)) ⟨e,?_⟩
  refine⟨.non,_,I.lset (its':=u::its) hH e ?_ (.cons ru r) (by rw[juU];omega),rfl,q⟩
  simp
end
end L2
namespace DJ
open PySem PySem.Spec PyProof.Rows L2
section
variable {Z:Kn}{X:Cx}{B:Bs}
noncomputable def jtd (fk fe:Rho->R (Vl×Rho))(i:Nat)(ρ:Rho):R Fl:=match ρ[i]? with
 |some (.own (.l _) _ _)=>(fk ρ).bind fun kd=>(fe kd.2).bind fun p=>(toD p.1 p.2).bind fun q=>match q.2[i]?,kd.1 with
  |some (.own (.l xs) f false),.dat (.int 0)=>if fits (xs.length + 1)then .ok (.nx (q.2.set i (.own (.l (q.1::xs)) f false)))else .stk
  |_,_=>.stk
 |_=>.stk
theorem jrU {x:Str}{i:Nat}{k e:Expr}{fk fe:Rho->R (Vl×Rho)}{xp apos cpos pos:Pos}(hv:PE X (.Name x xp) (jqm i))(hk:PE X k (tE Z X B fk))(nk:∀a p,k≠.Starred a p)(h:PE X e (tE Z X B fe))(ns:∀a p,e≠.Starred a p)(hline:(apos.endLine == cpos.line)=true) :
  PS X (.Expr (.Call (.Attribute (.Name x xp) "insert" apos) [k,e] [] cpos) pos) (tSx Z X B (jtd fk fe i)):=by
 have hbase:attributeBase (.Name x xp) "insert" X.env (eval (.Name x xp) X.env)=eval (.Name x xp) X.env:=rfl;have he:=jad (es:=[]) (env:=X.env) ns;have hke:=jad (es:=[e]) (env:=X.env) nk;refine PS.imp (jgi (jq2 PySem.F.plainAttrs_list PySem.F.slot_list_insert PySem.F.type_list_insert jir hv (jat hk (jat h jba he) hke) hbase (by rw[hke,he];rfl) hline hke (by rw[he];rfl)) rfl) fun D σ H hzz=>?_
 obtain⟨F,ρ,r,q⟩:=hzz;unfold jtd at q;split at q
 ·rename_i x0 f0 k0 e0;obtain⟨l,e1,_,⟨us,e3,_⟩,_⟩:=r.own i _ _ _ e0;refine⟨.ref l,e1,.inl ⟨rfl,us,SqL.of e3⟩,F,ρ,r,q.bind.imp (fun _ w=>w) fun kd h0 kv F1 H1 g1 r1 rk=>⟨F1,kd.2,r1,h0.bind.imp (fun c w=>w.mono g1) fun p h1 v F2 H2 g2 r2 rv=>?_⟩⟩;obtain⟨t,ht,h2⟩:=h1.bind.pure fun c=>jcC;obtain⟨F3,g3,r3,rp,_⟩:=jdW rv r2 g2 ht;split at h2
  ·rename_i xs f1 e2 ek;split at h2
   ·rename_i hfit;obtain⟨l2,a1,a2,⟨vs,a3,a4⟩,a5⟩:=r3.own i _ _ _ e2;rw[e1]at a1;cases a1;have hk0:kv=.int 0:=by
     obtain⟨kw,kρ⟩:=kd;simp only at ek;subst ek;have rk:Rep Z F1 H1 (.int 0) kv:=rk;simpa only[Rep] using rk
    subst hk0;have hl:=a4.length;have hz:=jbj hfit;refine⟨l,vs,v,rfl,rfl,a3,by omega,?_⟩
    obtain⟨kp,sr⟩:=r3.wr (o':=.l (t.1::xs)) (u:=.lst (v::vs)) e2 e1 (fun kp=>⟨v::vs,jaj,.cons (rp.mono kp) (a4.mono kp)⟩) false;exact h2 σ F3 _ ((g1.trans g3).trans (Go.wr e2 e1)) sr
   ·exact False.elim h2
  ·exact False.elim h2
 ·exact False.elim q
noncomputable def jte (fe fk:Rho->R (Vl×Rho))(i:Nat)(ρ:Rho):R Fl:=(fe ρ).bind fun p=>(toD p.1 p.2).bind fun q=>match q.2[i]? with
 |some (.own (.l _) _ _)=>(fk q.2).bind fun kd=>match kd.2[i]?,kd.1 with
  |some (.own (.l xs) f false),.dat (.int j)=>if 0<=j/\j < xs.length then .ok (.nx (kd.2.set i (.own (.l (xs.set j.toNat q.1)) f false)))else .stk
  |_,_=>.stk
 |_=>.stk
theorem jrV {x:Str}{i:Nat}{k e:Expr}{fk fe:Rho->R (Vl×Rho)}{xp spos pos:Pos}(hv:PE X (.Name x xp) (jqm i))(hk:PE X k (tE Z X B fk))(h:PE X e (tE Z X B fe))(hs:swapsWith e (some (.Subscript (.Name x xp) k spos)) pos.line X.env=pure false)(hsl:∀a b c d,k≠.Slice a b c d)
  (hw:swappedStores [.Subscript (.Name x xp) k spos] e X.env=pure none):PS X (.Assign [.Subscript (.Name x xp) k spos] e pos) (tSx Z X B (jte fe fk i)):=by
 refine PS.imp (jnA h (jqL hv hk jlF (by intro v;cases k <;> first | rfl | exact absurd rfl (hsl _ _ _ _))) hs hw rfl) fun D σ H hzz=>?_
 obtain⟨F,ρ,r,q⟩:=hzz;unfold jte at q;refine⟨F,ρ,r,q.bind.imp (fun _ w=>w) fun p h1 v F1 H1 g1 r1 rv=>?_⟩;obtain⟨t,ht,h2⟩:=h1.bind.pure fun c=>jcC;obtain⟨F2,g2,r2,rp,_⟩:=jdW rv r1 g1 ht;split at h2
 ·rename_i x0 f0 k0 e0;obtain⟨l,e1,_⟩:=r2.own i _ _ _ e0;refine⟨.ref l,e1,F2,t.2,r2,h2.bind.imp (fun c w=>w.mono g2) fun kd h3 kv F3 H3 g3 r3 rk=>?_⟩;split at h3
  ·rename_i xs f1 j e2 ek;split at h3
   ·rename_i hj;obtain⟨l2,a1,a2,⟨vs,a3,a4⟩,a5⟩:=r3.own i _ _ _ e2;rw[e1]at a1;cases a1;have hk0:kv=.int j:=by
     obtain⟨kw,kρ⟩:=kd;simp only at ek;subst ek;have rk:Rep Z F3 H3 (.int j) kv:=rk;simpa only[Rep] using rk
    subst hk0;have hl:=a4.length;have hix:ixN vs.length j=some j.toNat:=by
     unfold ixN;rw[if_pos hj.1,if_pos (by omega)]
    refine⟨l,vs,j,j.toNat,rfl,rfl,a3,hix,?_⟩;have rp3:=rp.mono (g3.keep r2);obtain⟨kp,sr⟩:=r3.wr (o':=.l (xs.set j.toNat t.1)) (u:=.lst (vs.set j.toNat v)) e2 e1 (fun kp=>⟨vs.set j.toNat v,jaj,(a4.mono kp).set (rp3.mono kp) _⟩) false;exact h3 σ F3 _ ((g2.trans g3).trans (Go.wr e2 e1)) sr
   ·exact False.elim h3
  ·exact False.elim h3
 ·exact False.elim h2
theorem jrW (hK:X.K=Z.K)(hc:X.calm=true)(nd:X.N.Nodup){es:List Expr}{kk:Nat}{tp pos:Pos}{is:List Nat}{e:Expr}{f:Rho->R (Vl×Rho)}(hT:TgsOk X es is)(h:PE X e (tE Z X B f))(hs:swapsWith e (some (.Tuple es kk tp)) pos.line X.env=pure false)(hw:swappedStores [.Tuple es kk tp] e X.env=pure none) :
  PS X (.Assign [.Tuple es kk tp] e pos) (tSx Z X B fun ρ=>(f ρ).bind fun p=>(deref p.1 p.2).bind fun d=>(putT is false d p.2).bind fun ρ'=>.ok (.nx ρ')):=by
 refine PS.imp (jnA h (jnz (n:=is.length) hc (hT.pgs nd) hT.lens.1 hT.lens.2) hs hw rfl) fun D σ H hzz=>?_;obtain⟨F,ρ,r,q⟩:=hzz;refine⟨F,ρ,r,q.bind.imp (fun _ w=>w) fun p h1 v F1 H1 g1 r1 rv=>?_⟩;obtain⟨d,hd,h2⟩:=h1.bind.pure fun c=>jaO;obtain⟨ρ',hp,h3⟩:=h2.bind.pure fun c=>jhI;have rb:=jbd rv r1 hd;cases d with
 |tup ds=>
  simp only[putT]at hp;split at hp
  ·rename_i hl;cases hp;obtain⟨a,vs,rfl,ft,rs⟩:=rb.tup;have hvl:vs.length=is.length:=by rw[hl,rs.length]
   exact⟨a,vs,rfl,(by rw[hK];exact ft.sq),hvl,jjV hvl.symm (h3 _ F1 H1 (g1.trans (r1.putN rs).2) (r1.putN rs).1)⟩
  ·cases hp
 |_=>simp only[putT]at hp <;> cases hp
end
end DJ
namespace DJ
open PySem PySem.Spec PyProof.Rows L2
theorem jis {X:Cx}{scope:Scope}{N cn:List Str}{nt:Nat}{caps:List Nat}{Z:Kn}{B:Bs}{elt tg iter:Expr}{ks:List Expr}{pos spos py:Pos}{tgs:List Nat}{one:Bool}{fi:Rho->R (List D×List Nat×Rho)}{fc:Option (Rho->R (Bool×Rho))}{fe:Rho->R (Vl×Rho)}{y:Str}{j:Nat}
  (hK:X.K=Z.K) (nd:X.N.Nodup) (hj:X.N[j]?=some y) (hy:Loc X.env.scope y) (hf:X.fn y=true\/X.env.scope.names.lookup y=some .local) (hsw:swapsWith (.ListComp elt [⟨tg,iter,ks,0⟩] scope pos) (some (.Name y py)) spos.line X.env=pure true)
  (hc:X.calm=true) (C:CompOk X scope N cn nt caps) (hi:PI X tg iter (tI Z X B fi))
  (hT:∀s' H' fp,TgOk (cxComp X N scope s' H' fp) tg tgs one) (hlow:∀i∈tgs,i < nt)
  (hE:∀s' H' fp B',PE (cxComp X N scope s' H' fp) elt (tE Z (cxComp X N scope s' H' fp) B' fe))
  (hk:(ks=[]/\fc=none)\/∃k g,ks=[k]/\fc=some g/\∀s' H' fp B',PT (cxComp X N scope s' H' fp) k (tT Z (cxComp X N scope s' H' fp) B' g)) (hs:∀x,foldedSetIterable iter X.env x=pure x) :
  PS X (.Assign [.Name y py] (.ListComp elt [⟨tg,iter,ks,0⟩] scope pos) spos) (tSx Z X B fun ρ=>((fi ρ).bind fun t=>((compGo (jdh tgs one nt caps fc fe) t.1 t.2.2).noErr).bind fun ys=>(.ok (.tmp (.l ys.1),unlk t.2.1 ys.2):R (Vl×Rho))).bind fun p=>(jhr p.1 p.2).bind fun q=>if j < q.2.length then .ok (.nx (q.2.set j q.1))else .stk):=by
 intro pins s σ H D I hz1;obtain⟨F,ρ,r,h⟩:=hz1;rw[exec_Assign_Name_used _ _ _ _ hsw];refine jvc (wpAny_standAt (jvc ?_));show wpAny _ X.A (do let _ <-comprehension (.ListComp elt [⟨tg,iter,ks,0⟩] scope pos) scope X.env _ (newList []) false (eval iter X.env) (some (assign (.Name y py) X.env))) _ _ s
 refine jvc (jvj (wpAny_comprehension_free (use:=some (assign (.Name y py) X.env)) (Q:=fun _ s'=>SP X pins D .next s') rfl hs (jjW (C.cells I)) C.kind C.names ?_) (fun _ s' hq=>jvd (jvd hq)) fun _ _ e=>e);simp only[R.bind_assoc,R.bind_ok']at h;refine thn (hi pins s σ H (fun J H'=>∃(F':Addr->Prop) (t:List DJ.D×List Nat×Rho) (ls:List Addr),ItR Z B σ ρ F H t.2.2 F' H' t.2.1 ls/\ItmG Z (GK F' H' ls) J t.1/\Ok (XW Z X σ ρ H) (((compGo (jdh tgs one nt caps fc fe) t.1 t.2.2).noErr).bind fun ys=>(jhr (.tmp (.l ys.1)) (unlk t.2.1 ys.2)).bind fun q=>if j < q.2.length then .ok (.nx (q.2.set j q.1))else .stk) (FlP Z B σ ρ F H D)) I
  ⟨F,ρ,r,h.bind.imp (fun _ w=>w) fun t h1 F' H' J ls ir im=>⟨F',t,ls,ir,im,h1⟩⟩) fun v s1 h1=>thn h1 fun itv s2 hzz=>?_
 obtain⟨it,fp,tn,J,H2,e,I2,Tn,st2,f2,F2,t,ls,ir,im,q2⟩:=hzz;subst e;cases hY:compGo (jdh tgs one nt caps fc fe) t.1 t.2.2 with
 |err c=>rw[hY]at q2;exact False.elim q2
 |stk=>rw[hY]at q2;exact False.elim q2
 |ok ys=>
  rw[hY]at q2;have q2:Ok (XW Z X σ ρ H) (if j < (unlk t.2.1 ys.2).length then .ok (.nx ((unlk t.2.1 ys.2).set j (.own (.l ys.1) false false)))else .stk) (FlP Z B σ ρ F H D):=q2;split at q2
  ·have q2:FlP Z B σ ρ F H D (.nx ((unlk t.2.1 ys.2).set j (.own (.l ys.1) false false))):=q2;refine jhw (RR:=fun acc C'=>compPost (model X.prog X.w) X.A X.xe (some (assign (.Name y py) X.env)) (fun _ s'=>SP X pins D .next s') acc C') hK hc C I2 ir.sr (im.wk hK (fun l hl=>(ir.on l hl).1) Tn) (fun l hl=>(ir.on l hl).2) st2 f2 (fun s' H'=>hT s' H' fp) hlow (fun i hi=>?_) (fun s' H' B'=>hE s' H' fp B') ?_ hY ?_
   ·rw[ir.sr.len,I2.len];exact C.capLt i hi
   ·rcases hk with z | ⟨k,g,e1,e2,hk⟩
    ·exact .inl z
    ·exact .inr ⟨k,g,e1,e2,fun s' H' B'=>hk s' H' fp B'⟩
   ·intro s3 l σ' F' H' s' vs hl I3 IY gE rE nF nO hl' rp;obtain⟨m,hn,_⟩:=IY.loc;obtain⟨oC,es,ep,eC,dC,rC⟩:=id hn;have eC:s'.heap.get? s3.heap.objs.size=some oC:=eC;have IX:Inv X pins σ H' s':=jhE I3 (fun b hb=>by
     obtain⟨f0,f1,f3,f4,f5,f6⟩:=f2 b hb;exact⟨f4,f1,f5,f6⟩) IY (Heap.SameBut.refl _ _)
    have hCf:H' s3.heap.objs.size=none:=IY.free;have hCL:s3.heap.objs.size≠X.env.locals:=Nat.ne_of_gt I3.lt;have hCs:X.s₀.heap.objs.size<=s3.heap.objs.size:=I3.sz;have hCx:∀x c,X.env.cells.lookup x=some c->c≠s3.heap.objs.size:=fun x c e z=>by
     obtain⟨v,w⟩:=I3.cell x c e;exact absurd w.lt (by rw[z];exact jvu _)
    have hCp:∀p∈X.pn++pins,p.1≠s3.heap.objs.size:=fun p hp z=>by
     have:=jvm (I3.pin p hp).1;rw[z]at this;exact absurd this (jvu _)
    have IP:Inv X (pins++[(s3.heap.objs.size,oC)]) σ H' s':=IX.pins_of fun p hp=>(List.mem_append.mp hp).elim (fun z=>IX.pin p (juV _ z)) fun z=>by
     have e:p=(s3.heap.objs.size,oC):=by simpa using z
     subst e;exact⟨eC,hCf,hCL,I3.nofs (jvq _),fun v z=>by rw[dC]at z;cases z⟩
    have hlH:H l=none:=ir.go.free hl;have r':SR Z B F' H' (σ.set j (some (.ref l))) ((unlk t.2.1 ys.2).set j (.own (.l ys.1) false false)):=rE.unlk.putOwn nF (fun z=>nO z.unlk) (r.base l hlH) ⟨vs,hl',rp⟩;have g':Go σ ρ F H (σ.set j (some (.ref l))) ((unlk t.2.1 ys.2).set j (.own (.l ys.1) false false)) F' H':=(ir.un σ ys.2 F' H' gE).putOwn hlH;show wpAny _ X.A (assign (.Name y py) X.env (.ref l)) _ _ _;refine wpAny_assign_Name (jcV IP nd hj hy (v:=.ref l) rfl (fun s4 I4=>?_) hf);have e4:s4.heap.get? s3.heap.objs.size=some oC:=(I4.pin (s3.heap.objs.size,oC) (by simp)).1
    refine⟨m,⟨oC,es,ep,e4,dC,rC⟩,fun h5 sb=>?_⟩;have I5:Inv X pins (σ.set j (some (.ref l))) H' { s4 with heap:=h5 }:=(I4.unpinned).turned (t':=s4.toks) (it:=s3.heap.objs.size) (fun b o hb e=>(sb.2 b hb).trans e) hCf hCL (.inr hCs) hCx hCp
    exact⟨_,H',I5,q2 _ F' H' g' r'⟩
  ·exact False.elim q2
noncomputable def toSs:List S->Ss
 |[]=>.nil
 |s::ss=>.cons s (toSs ss)
noncomputable def jn0 (sc:List (Str×NameKind))(x:Str):Bool:=sc.lookup x == some .local || sc.lookup x == some .cell
noncomputable def jd1:Expr->Bool
 |.ListComp ..=>false
 |.SetComp ..=>false
 |.DictComp ..=>false
 |_=>true
noncomputable def isTup:Expr->Bool
 |.Tuple ..=>true
 |_=>false
noncomputable def jtf:Expr->Bool
 |.Slice ..=>true
 |_=>false
noncomputable def jpL (T:Tab)(sc:List (Str×NameKind))(x:Str):Option Nat:=gd (jdY x || knd sc x != 2) (jdx T.excs x)
section
variable (T:Tab)
noncomputable def trX (n:Nat)(sc:List (Str×NameKind))(N:List Str)(s:Stmt):Option S:=match s with
 |.Expr e _=>gd (!jd1 e) ((trE T n sc N e).map .expr)
 |_=>none
noncomputable def jpM (e:Expr):Option (Str×Str×List Expr):=match e with
 |.Call f as ks pos=>gd (!ks.isEmpty) ((jt5 f).bind fun p=>gd (!(p.2.2.endLine == pos.line)) ((jin p.1).map fun x=>(x,p.2.1,as)))
 |_=>none
theorem jkE {e:Expr}{p:Str×Str×List Expr}(h:jpM e=some p):∃xp apos cpos,e=.Call (.Attribute (.Name p.1 xp) p.2.1 apos) p.2.2 [] cpos/\(apos.endLine == cpos.line)=true:=by
 cases e with
 |Call f as ks pos=>
  replace h:=jak h;obtain⟨hk,h⟩:=h;cases jbe hk;replace h:=jae h;obtain⟨⟨v,m,apos⟩,hf,h⟩:=h;cases jmI hf;replace h:=jak h;obtain⟨hl,h⟩:=h;replace h:=jap h;obtain⟨x,hx,rfl⟩:=h;obtain⟨np,rfl⟩:=ja3 hx;exact⟨np,apos,pos,rfl,jch hl⟩
 |_=>exact jaf h
noncomputable def jrX:Expr->Option (Expr×Expr)
 |.Subscript v k _=>some (v,k)
 |_=>none
theorem jkF {e:Expr}{p:Expr×Expr}(h:jrX e=some p):∃q,e=.Subscript p.1 p.2 q:=by
 cases e with
 |Subscript v k q=>cases h;exact⟨q,rfl⟩
 |_=>exact jaf h
noncomputable def juy (tr:Expr->Option E)(q:Bool)(sc:List (Str×NameKind))(N:List Str)(e t:Expr):Option S:=
 jpa (jin t) (fun x=>gd (!jn0 sc x) (o2 (jdx N x) (tr e) .asg)) <|
 jpa (jmq t) (fun es=>gd (q || !jd1 e || isTup e) ((mapO jin es).bind fun xs=>gd (!xs.all (jn0 sc)) (o2 (mapO (jdx N) xs) (tr e) .unp))) <|
 jpa (jrX t) (fun p=>(jin p.1).bind fun x=>gd (jdY x || knd sc x != 1 || !jd1 e || jtf p.2) (o3 (jdx N x) (tr p.2) (tr e) .sub)) <|
 none
noncomputable def jt6 (tr:Expr->Option E)(i:Nat)(m:Str)(as:List Expr):Option S:=
 alt (m == "append") ((ji0 as).bind fun e=>(tr e).map (.app i)) <|
 alt (m == "insert") ((js1 as).bind fun p=>o2 (tr p.1) (tr p.2) (.ins i)) <|
 none
noncomputable def jpN (tr:Expr->Option E)(sc:List (Str×NameKind))(N:List Str)(e:Expr):Option S:=match jpM e with
 |some p=>gd (jdY p.1 || knd sc p.1 != 1) ((jdx N p.1).bind fun i=>jt6 tr i p.2.1 p.2.2)
 |none=>gd (!jd1 e) ((tr e).map .expr)
noncomputable def juz (n:Nat)(trs:Bool->List (Str×NameKind)->List Str->Stmt->Option S)(q:Bool)(sc:List (Str×NameKind))(N:List Str):Stmt->Option S
 |.Return v _=>match v with
  |some e=>(trE { T with quiet:=q } n sc N e).map .ret
  |none=>some .retN
 |.Pass _=>some .pas
 |.Break _=>some .brk
 |.Continue _=>some .cnt
 |.Assign ts e _=>(ji0 ts).bind (juy (trE { T with quiet:=q } n sc N) q sc N e)
 |.If c a b _=>o3 (trE { T with quiet:=q } n sc N c) (mapO (trs q sc N) a) (mapO (trs q sc N) b) fun c a b=>.ife c (toSs a) (toSs b)
 |.For tg iter body oe _=>gd (q || !oe.isEmpty) ((jdr tg).bind fun p=>gd (!p.1.all (jn0 sc)) (o3 (mapO (jdx N) p.1) (jqp { T with quiet:=q } sc (trE { T with quiet:=q } n sc N) p.2 iter) (mapO (trs q sc N) body) fun is it b=>.loop is p.2 it (toSs b)))
 |.Raise x c _=>gd (q || c.isSome) (x.bind fun e=>(jfL e).bind fun p=>(ji0 p.2).bind fun a=>o2 (jpL T sc p.1) (trE { T with quiet:=q } n sc N a) .rai)
 |.Try b hs oe fb _=>gd (q || !oe.isEmpty || !fb.isEmpty) ((ji0 b).bind fun st=>(ji0 hs).bind fun
  |.ExceptHandler t y suite _=>(t.bind jin).bind fun x=>y.bind fun y=>gd (suite.isEmpty || !(sc.lookup y == some .local)) (o4 (trX { T with quiet:=q } n sc N st) (jpL T sc x) (jdx N y) (mapO (trs true sc N) suite) fun b c k h=>.tryx b c (some k) (toSs h)))
 |.Expr e _=>jpN (trE { T with quiet:=q } n sc N) sc N e
 |_=>none
noncomputable def trS:Nat->Bool->List (Str×NameKind)->List Str->Stmt->Option S
 |0=>fun _ _ _ _=>none
 |n + 1=>juz T n (trS n)
end
structure XT (T:Tab)(G:Calls)(U:Nat->Nat->Bool)(Z:Kn)(n:Nat)(X:Cx)(sc:List (Str×NameKind)):Prop extends XD T G U Z n X sc where
 fn:∀x,X.fn x=true
 own:T.quiet=false->PassesOwn (model X.prog X.w) X.A X.env X.xe
 hex:X.ex=[]
 hst:X.stack=X.env::X.outer
 hfr:X.env.frame=some X.env.locals
 rcl:∀C∈Z.cl,Rcl Z.K C
variable {T:Tab}{G:Calls}{U:Nat->Nat->Bool}{Z:Kn}{m W:Nat}
theorem XT.loc {X:Cx}{sc:List (Str×NameKind)}(D:XT T G U Z m X sc){x:Str}(h:jn0 sc x=true):L2.Loc X.env.scope x:=by
 unfold jn0 at h;simp only[Bool.or_eq_true,beq_iff_eq]at h;unfold L2.Loc;rcases D.sc x with e | ⟨e,_⟩
 ·rw[e];exact h
 ·rw[e]at h;rcases h with z | z <;> cases z
theorem XT.toHnd {X:Cx}{sc:List (Str×NameKind)}(D:XT T G U Z m X sc){pins:List (Addr×Obj)}{ea:Addr}:XT { T with quiet:=true } G U Z m (jkC X pins ea) sc:=⟨D.toXD.toHnd,D.fn,(fun z=>nomatch z),D.hex,D.hst,D.hfr,D.rcl⟩
theorem jgE {X:Cx}{sc:List (Str×NameKind)}(D:XT T G U Z m X sc):∀{xs:List Str}{ps:List Pos}{is:List Nat},ps.length=xs.length->xs.all (jn0 sc)=true->mapO (jdx X.N) xs=some is->TgsOk X ((xs.zip ps).map fun p=>Expr.Name p.1 p.2) is
 |[],_,is,_,_,h=>by cases h;exact .nil
 |x::xs,[],_,h,_,_=>by simp at h
 |x::xs,p::ps,is,h,ha,hm=>by
  obtain⟨i,is',h1,h2,rfl⟩:=jay hm;simp only[List.all_cons,jvv]at ha;exact .cons (jaE h1) (D.loc ha.1) (.inl (D.fn x)) (jgE D (by simpa using h) ha.2 h2)
theorem jrY {X:Cx}{sc:List (Str×NameKind)}(D:XT T G U Z m X sc){tg:Expr}{xs:List Str}{one:Bool}{is:List Nat}(ht:jdr tg=some (xs,one))(ha:xs.all (jn0 sc)=true)(hm:mapO (jdx X.N) xs=some is):TgOk X tg is one/\(one=false->∃es k pos,tg=.Tuple es k pos):=by
 rcases jkw ht with ⟨x,p,rfl,rfl,rfl⟩ | ⟨es,k,p,rfl,q,rfl⟩
 ·obtain⟨i,is',h1,h2,rfl⟩:=jay hm;cases h2;simp only[List.all_cons,List.all_nil,Bool.and_true]at ha;exact⟨.one (jaE h1) (D.loc ha) (.inl (D.fn x)),fun z=>by cases z⟩
 ·obtain⟨ps,l1,l2,e⟩:=jkA q;refine⟨?_,fun _=>⟨_,_,_,rfl⟩⟩;rw[e];exact .many (jgE D l2 ha hm)
theorem jcj {e:Expr}(h:jd1 e=true){t:Option Expr}{l:Nat}{env:Env}:swapsWith e t l env=pure false:=by
 unfold swapsWith;cases e <;> first | rfl | cases h
theorem tS.congr {X:Cx}{B:Bs}{f g:Rho->R Fl}(h:∀ρ,f ρ=g ρ):tS Z X B f=tS Z X B g:=by rw[show f=g from funext h]
theorem tSx.congr {X:Cx}{B:Bs}{f g:Rho->R Fl}(h:∀ρ,f ρ=g ρ):tSx Z X B f=tSx Z X B g:=by rw[show f=g from funext h]
theorem jhJ {X:Cx}{B:Bs}{n:Nat}{q:Bool}{sc:List (Str×NameKind)}(ih:∀s S',trS T n q sc X.N s=some S'->PS X s (tS Z X B (evS G U W S'))):∀{ss:List Stmt}{Ss':List S},mapO (trS T n q sc X.N) ss=some Ss'->PSs X ss (tS Z X B (evSs G U W (toSs Ss')))
 |[],Ss',h=>by
  cases h;rw[tS.congr (g:=fun ρ=>.ok (.nx ρ)) fun ρ=>by simp only[toSs,evSs]]
  exact jrR
 |s::ss,Ss',h=>by
  obtain⟨S1,Sr,h1,h2,rfl⟩:=jay h;have:=jpK (ih s S1 h1) (jhJ ih h2);rw[tS.congr (g:=fun ρ=>(evS G U W S1 ρ).bind (joZ (evSs G U W (toSs Sr)))) fun ρ=>by simp only[toSs,evSs]]
  exact this
theorem jn1 {X:Cx}{sc:List (Str×NameKind)}(D:XD T G U Z m X sc){x:Str}{c:Nat}(h:jpL T sc x=some c):jdY x=false/\knd sc x=2/\∃C,Z.cl[c]?=some C/\X.mg x=some (.ref C):=by
 replace h:=jak h;obtain⟨hc,h⟩:=h;replace hc:=jbE hc;obtain⟨c1,c2⟩:=hc;exact⟨c1,jgB c2,D.excs c x (jaE h)⟩
theorem jmR {X:Cx}{sc:List (Str×NameKind)}{B:Bs}{n:Nat}{st:Stmt}{S':S}(D:XD T G U Z m X sc)(h:trX T n sc X.N st=some S'):PS X st (tSx Z X B (evS G U W S')):=by
 cases st with
 |Expr e pos=>
  replace h:=jak h;obtain⟨hp,h⟩:=h;replace h:=jap h;obtain⟨E',q,rfl⟩:=h;rw[tSx.congr (g:=fun ρ=>(evE G U E' ρ).bind fun p=>.ok (.nx p.2)) fun ρ=>by simp only[evS]]
  exact jkD ((jds n X sc e E' D q).pe B) (jcj (jch hp))
 |_=>exact jaf h
end DJ
namespace DJ
open PySem PySem.Spec PyProof.Rows L2
variable {T:Tab}{G:Calls}{U:Nat->Nat->Bool}{Z:Kn}{m W:Nat}
theorem PS.cg {X:Cx}{B:Bs}{s:Stmt}{f g:Rho->R Fl}(h:PS X s (tS Z X B g))(e:∀ρ,f ρ=g ρ):PS X s (tS Z X B f):=by
 rw[tS.congr e];exact h
theorem PS.cgx {X:Cx}{B:Bs}{s:Stmt}{f g:Rho->R Fl}(h:PS X s (tSx Z X B g))(e:∀ρ,f ρ=g ρ):PS X s (tSx Z X B f):=by
 rw[tSx.congr e];exact h
theorem jpO {n:Nat}{X:Cx}{sc:List (Str×NameKind)}{B:Bs}{q:Bool}(D:XT { T with quiet:=q } G U Z m X sc){x:Str}{px pos:Pos}{e:Expr}{i:Nat}{E':E}(hl:jn0 sc x=true)(hi:jdx X.N x=some i)(he:trE { T with quiet:=q } n sc X.N e=some E') :
  PS X (.Assign [.Name x px] e pos) (tS Z X B (evS G U W (.asg i E'))):=by
 have S:=jds n X sc e E' D.toXD he;have hK:=D.hK;have hN:=jaE hi;have hx:=D.loc hl;rw[tS.congr (g:=fun ρ=>(evE G U E' ρ).bind fun p=>(jhr p.1 p.2).bind fun q=>if i < q.2.length then .ok (.nx (q.2.set i q.1))else .stk) fun ρ=>by simp only[evS]]
 refine PS.x ?_;have plain:swapsWith e (some (.Name x px)) pos.line X.env=pure false->PS X (.Assign [.Name x px] e pos) (tSx Z X B fun ρ=>(evE G U E' ρ).bind fun p=>(jhr p.1 p.2).bind fun q=>if i < q.2.length then .ok (.nx (q.2.set i q.1))else .stk):=fun hs=>jrQ D.nd hN hx (.inl (D.fn x)) (S.pe B) hs;cases hp:jd1 e with
 |true=>exact plain (jcj hp)
 |false=>
 cases n with
 |zero=>exact jaf he
 |succ n=>
 cases e with
 |ListComp elt gens scope cpos=>
  obtain⟨hq,tg,iter,ks,N,cn,nt,caps,tgs,one,it,fc,Ee,Ec,rfl,rfl,cd,ev⟩:=jfP D.toXD (jds n) he;have hsw:swapsWith (.ListComp elt [⟨tg,iter,ks,0⟩] scope cpos) (some (.Name x px)) pos.line X.env=pure (X.env.blockKind == .function && X.env.kindOf x == some .local && px.line == (Expr.ListComp elt [⟨tg,iter,ks,0⟩] scope cpos).pos.line && !(scope.names.any fun p=>p.1 == x && (p.2 == .local || p.2 == .cell))):=rfl;generalize (X.env.blockKind == .function && X.env.kindOf x == some .local && px.line == (Expr.ListComp elt [⟨tg,iter,ks,0⟩] scope cpos).pos.line && !(scope.names.any fun p=>p.1 == x && (p.2 == .local || p.2 == .cell)))=bb at hsw;cases bb with
  |false=>exact plain hsw
  |true=>
   have:=jis (pos:=cpos) (spos:=pos) (py:=px) hK D.nd hN hx (.inl (D.fn x)) hsw (D.calm hq) cd.C (cd.hi B) cd.hT cd.hlow cd.hE cd.hK cd.hs;rw[tSx.congr (f:=fun ρ=>(evE G U (E.comp Ee tgs one nt caps it Ec) ρ).bind _) (g:=_) fun ρ=>?_]
   ·exact this
   ·rw[ev ρ]
 |SetComp a b c d=>exact jaf he
 |DictComp a b c d f=>exact jaf he
 |_=>cases hp
theorem jpP {n:Nat}{X:Cx}{sc:List (Str×NameKind)}{B:Bs}{q:Bool}(D:XT { T with quiet:=q } G U Z m X sc){x m':Str}{xp apos cpos pos:Pos}{as:List Expr}{i:Nat}{S':S}(hv:PE X (.Name x xp) (jqm i))(hline:(apos.endLine == cpos.line)=true)(h:jt6 (trE { T with quiet:=q } n sc X.N) i m' as=some S') :
  PS X (.Expr (.Call (.Attribute (.Name x xp) m' apos) as [] cpos) pos) (tS Z X B (evS G U W S')):=by
 have hK:=D.hK;have ih:∀{e E'},trE { T with quiet:=q } n sc X.N e=some E'->Says G U Z X e E':=fun {e E'} h=>jds n X sc e E' D.toXD h
 refine PS.x ?_;replace h:=jaw h;rcases h with ⟨hm,h⟩ | h
 ·cases jdj hm;replace h:=jae h;obtain⟨e,h1,h⟩:=h;cases jaL h1;replace h:=jap h;obtain⟨E',he,rfl⟩:=h;have S:=ih he;rw[tSx.congr (g:=fun ρ=>match ρ[i]? with
   |some (.own (.l _) _ _)=>(evE G U E' ρ).bind fun p=>(toD p.1 p.2).bind fun q=>match q.2[i]? with
    |some (.own (.l xs) f false)=>if fits (xs.length + 1)then .ok (.nx (q.2.set i (.own (.l (xs++[q.1])) f false)))else .stk
    |_=>.stk
   |_=>.stk) fun ρ=>by simp only[evS] <;> rfl]
  exact jrS hK hv (S.pe B) S.ns hline
 replace h:=jaw h;rcases h with ⟨hm,h⟩ | h
 ·cases jdj hm;replace h:=jae h;obtain⟨⟨k,e⟩,h1,h⟩:=h;cases jhz h1;replace h:=jbI h;obtain⟨Ek,E',hek,he,rfl⟩:=h;have Sk:=ih hek;have S:=ih he;exact PS.cgx (jrU hv (Sk.pe B) Sk.ns (S.pe B) S.ns hline) fun ρ=>by simp only[evS,jtd] <;> rfl
 exact jaf h
theorem jpQ:∀(n:Nat) (X:Cx) (sc:List (Str×NameKind)) (B:Bs) (q:Bool) (s:Stmt) (S':S),XT { T with quiet:=q } G U Z m X sc->trS T n q sc X.N s=some S'->PS X s (tS Z X B (evS G U W S')):=by
 intro n;induction n with
 |zero=>intro X sc B q s S' D h;exact jaf h
 |succ n ih=>
  intro X sc B q s S' D h;have ihX:∀{ss:List Stmt}{Ss':List S},mapO (trS T n q sc X.N) ss=some Ss'->PSs X ss (tS Z X B (evSs G U W (toSs Ss'))):=jhJ fun s S' h=>ih X sc B q s S' D h;have sa:∀{e E'},trE { T with quiet:=q } n sc X.N e=some E'->Says G U Z X e E':=fun {e E'} h=>jds n X sc e E' D.toXD h
  have hK:=D.hK;cases s with
  |Return v pos=>
   cases v with
   |some e=>
    replace h:=jap h;obtain⟨E',w,rfl⟩:=h;exact PS.cg (PS.x (jrN ((sa w).pe B))) fun ρ=>by simp only[evS] <;> rfl
   |none=>
    cases h;exact PS.cg (PS.x jpH) fun ρ=>by simp only[evS] <;> rfl
  |Pass pos=>
   cases h;exact PS.cg (PS.x jpI) fun ρ=>by simp only[evS] <;> rfl
  |Break pos=>
   cases h;exact PS.cg (PS.x jrO) fun ρ=>by simp only[evS] <;> rfl
  |Continue pos=>
   cases h;exact PS.cg (PS.x jrP) fun ρ=>by simp only[evS] <;> rfl
  |Assign ts e pos=>
   replace h:=jae h;obtain⟨t,ht,h⟩:=h;cases jaL ht;replace h:=jbQ h;rcases h with ⟨x,hx,h⟩ | h
   ·obtain⟨px,rfl⟩:=ja3 hx;replace h:=jak h;obtain⟨hl,h⟩:=h;replace h:=jbI h;obtain⟨i,E',hi,he,rfl⟩:=h;exact jpO D (jch hl) hi he
   replace h:=jbQ h;rcases h with ⟨es,hx,h⟩ | h
   ·obtain⟨k,tp,rfl⟩:=jdk hx;replace h:=jak h;obtain⟨hq,h⟩:=h;replace hq:=jbE hq;obtain⟨hq,hnt⟩:=hq;replace hq:=jbE hq;obtain⟨hq,hpl⟩:=hq;replace h:=jae h;obtain⟨xs,hxs,h⟩:=h;replace h:=jak h;obtain⟨hl,h⟩:=h;replace h:=jbI h;obtain⟨is,E',h1,he,rfl⟩:=h;obtain⟨ps,l1,l2,ee⟩:=jkA hxs;have hT:TgsOk X es is:=by rw[ee];exact jgE D l2 (jch hl) h1
    have hw:swappedStores [.Tuple es k tp] e X.env=pure none:=by
     cases e <;> first | rfl | cases hnt
    refine PS.x ?_;exact PS.cgx (jrW hK (D.calm hq) D.nd hT ((sa he).pe B) (jcj (jch hpl)) hw) fun ρ=>by simp only[evS] <;> rfl
   replace h:=jbQ h;rcases h with ⟨⟨v,k⟩,hx,h⟩ | h
   ·obtain⟨sp,rfl⟩:=jkF hx;replace h:=jae h;obtain⟨x,hx,h⟩:=h;obtain⟨xp,rfl⟩:=ja3 hx;replace h:=jak h;obtain⟨hc,h⟩:=h;replace hc:=jbE hc;obtain⟨hc,hsl⟩:=hc;replace hc:=jbE hc;obtain⟨hc,hpl⟩:=hc;replace hc:=jbE hc;obtain⟨hb,hk⟩:=hc;replace h:=jcS h;obtain⟨i,Ek,E',hi,hek,he,rfl⟩:=h;have hv:PE X (.Name x xp) (jqm i):=ji4 (jaE hi) (D.vis (jgB hk)) (jez hb).1 (jpb hb);refine PS.x ?_;exact PS.cgx (jrV hv ((sa hek).pe B) ((sa he).pe B) (jcj (jch hpl)) (fun a b c d z=>by subst z;cases hsl) rfl) fun ρ=>by simp only[evS,jte] <;> rfl
   exact jaf h
  |If c a b pos=>
   replace h:=jcS h;obtain⟨Ec,Sa,Sb,hc,ha,hb,rfl⟩:=h;exact PS.cg (jtc ((sa hc).pt B) (ihX ha) (ihX hb)) fun ρ=>by simp only[evS] <;> rfl
  |For tg iter body oe pos=>
   replace h:=jak h;obtain⟨hq,h⟩:=h;replace hq:=jbE hq;obtain⟨hq,ho⟩:=hq;cases jbe ho;replace h:=jae h;obtain⟨⟨xs,one⟩,ht,h⟩:=h;replace h:=jak h;obtain⟨hl,h⟩:=h;replace h:=jcS h;obtain⟨is,it,Sb,h1,h2,h3,rfl⟩:=h;obtain⟨hT,hone⟩:=jrY D ht (jch hl) h1;have hi:=jhH (tg:=tg) D.toXD (fun e E' z=>sa z) hone h2 B;exact PS.cg (jrT hK (D.own hq) (D.calm hq) D.nd hi hT (ihX h3) (jfN (jdZ h2))) fun ρ=>by simp only[evS] <;> rfl
  |Raise x c pos=>
   replace h:=jak h;obtain⟨hq,h⟩:=h;replace hq:=jbE hq;obtain⟨hq,hc⟩:=hq;cases c with
   |some _=>cases hc
   |none=>
   replace h:=jae h;obtain⟨e,h1,h⟩:=h;cases h1;replace h:=jae h;obtain⟨⟨x,as⟩,h2,h⟩:=h;obtain⟨np,cpos,rfl⟩:=jcG h2;replace h:=jae h;obtain⟨a,h3,h⟩:=h;cases jaL h3;replace h:=jbI h;obtain⟨c,E',hc,he,rfl⟩:=h;obtain⟨hb,hk,C,hC,hm⟩:=jn1 (T:={ T with quiet:=q }) D.toXD hc
   have S:=sa he;exact PS.cg (jmP hK (D.calm hq) (D.rcl C (juW hC)) hC (D.gl hk) hm (jez hb).1 (S.pe B) S.ns) fun ρ=>by simp only[evS] <;> rfl
  |Try bd hs oe fb pos=>
   replace h:=jak h;obtain⟨hq,h⟩:=h;replace hq:=jbE hq;obtain⟨hq,hfb⟩:=hq;replace hq:=jbE hq;obtain⟨hq,ho⟩:=hq;cases jbe ho;cases jbe hfb;replace h:=jae h;obtain⟨st,h1,h⟩:=h;cases jaL h1;replace h:=jae h;obtain⟨⟨t,y,suite,hp⟩,h1,h⟩:=h;cases jaL h1;replace h:=jae h;obtain⟨x,h1,h⟩:=h;replace h1:=jae h1;obtain⟨t,h2,h1⟩:=h1;obtain⟨np,rfl⟩:=ja3 h1;cases h2;replace h:=jae h;obtain⟨y,h1,h⟩:=h;cases h1;replace h:=jak h;obtain⟨hc,h⟩:=h;replace hc:=jbE hc;obtain⟨hsu,hy⟩:=hc;have hy:sc.lookup y=some .local:=by simpa using hy
   cases suite with
   |nil=>cases hsu
   |cons b₀ suite=>
   replace h:=jnR h;obtain⟨b,c,k,hs,hb,hc,hk,hh,rfl⟩:=h;obtain⟨hbd,hkd,C,hC,hm⟩:=jn1 (T:={ T with quiet:=q }) D.toXD hc
   have hloc:X.env.scope.names.lookup y=some .local:=by
    rcases D.sc y with e | ⟨e,_⟩
    ·rw[e];exact hy
    ·rw[hy]at e;cases e
   rw[tS.congr (g:=jss U (evS G U W b) (evSs G U W (toSs hs)) c k) fun ρ=>by
    simp only[evS,jss] <;> (cases evS G U W b ρ <;> rfl)]
   refine jrM hK D.toXD.ecs D.fn D.hex D.hst D.hfr (D.calm hq) D.nd (fun pins E'=>jmR D.toXD.toTry hb) (D.gl hkd) hm hC (jez hbd).1 (jaE hk) hloc fun pins ea=>?_;have DH:XT { T with quiet:=true } G U Z m (jkC X pins ea) sc:=D.toHnd
   exact jhJ (X:=jkC X pins ea) (fun s S' h=>ih (jkC X pins ea) sc B true s S' DH h) hh
  |Expr e pos=>
   replace h:jpN (trE { T with quiet:=q } n sc X.N) sc X.N e=some S':=h
   unfold jpN at h;cases ha:jpM e with
   |some p=>
    rw[ha]at h;obtain⟨x,m',as⟩:=p;obtain⟨xp,apos,cpos,rfl,hline⟩:=jkE ha;replace h:=jak h;obtain⟨hc,h⟩:=h;replace hc:=jbE hc;obtain⟨hb,hk⟩:=hc;replace h:=jae h;obtain⟨i,hi,h⟩:=h;exact jpP D (ji4 (jaE hi) (D.vis (jgB hk)) (jez hb).1 (jpb hb)) hline h
   |none=>
    rw[ha]at h;replace h:=jak h;obtain⟨hp,h⟩:=h;replace h:=jap h;obtain⟨E',w,rfl⟩:=h;refine PS.x ?_;exact PS.cgx (jkD ((sa w).pe B) (jcj (jch hp))) fun ρ=>by simp only[evS] <;> rfl
  |_=>exact jaf h
end DJ
namespace DJ
open PySem PySem.Spec PyProof.Rows L2
structure DefS where
 name:Str
 N:List Str
 ps:List Str
 st:Stmt
theorem jtg {α:Type}{P:α->Prop}:∀x∈([]:List α),P x:=fun _ h=>nomatch h
theorem jb1 {α:Type}{P:α->Prop}{a:α}{l:List α}(h:P a)(t:∀x∈l,P x):∀x∈a::l,P x:=List.forall_mem_cons.mpr ⟨h,t⟩
noncomputable def From {α:Type}(Q:Nat->α->Prop)(k:Nat)(l:List α):Prop:=∀(i:Nat) (d:α),l[i]?=some d->Q (k + i) d
theorem jeD {α:Type}{Q:Nat->α->Prop}{k:Nat}:From Q k []:=fun _ _ h=>by cases h
theorem jag {α:Type}{Q:Nat->α->Prop}{k:Nat}{a:α}{l:List α}(h:Q k a)(t:From Q (k + 1) l):From Q k (a::l):=fun i d e=>by
 cases i with
 |zero=>cases e;exact h
 |succ i=>
  have:=t i d e;rwa [Nat.add_assoc,Nat.add_comm 1 i]at this
theorem From.at {α:Type}{Q:Nat->α->Prop}{l:List α}(h:From Q 0 l):∀(i:Nat) (d:α),l[i]?=some d->Q i d:=fun i d e=>by
 have:=h i d e;rwa [Nat.zero_add]at this
theorem juA {α:Type}{P:List α->Prop}(h:P []):∀us:List α,us.length=0->P us
 |[],_=>h
theorem jt7 {α:Type}{P:List α->Prop}{n:Nat}(h:∀a (r:List α),r.length=n->P (a::r)):∀us:List α,us.length=n + 1->P us
 |a::r,e=>h a r (Nat.succ.inj e)
theorem jpR {α:Type}{P:List α->Prop}(h:∀a,P [a]):∀us:List α,us.length=1->P us:=jt7 fun a=>juA (P:=fun r=>P (a::r)) (h a)
theorem len2 {α:Type}{P:List α->Prop}(h:∀a b,P [a,b]):∀us:List α,us.length=2->P us:=jt7 fun a=>jpR (P:=fun r=>P (a::r)) (h a)
noncomputable def BindP (d:DefS):Prop:=∀(kV doc pm:Value) (an:Option Addr) (cdv ct:Value) (us:List Value),us.length=d.ps.length->bindArgs (PySem.W.fnOf d.name d.name (defArgs d.st) (defBody d.st) (defScope d.st) .none kV doc pm an cdv ct) ⟨us,[]⟩=pure (d.ps.zip us)
structure Prog (K:Frag)(mg:Str->Option Value)(Z:Kn)(U:Nat->Nat->Bool)(T:Tab)(DS:List DefS)(P:List Def)(fuel:Nat):Prop where
 hK:K=Z.K
 loud:T.quiet=false
 tab:T.defs=DS.map (·.name)
 blt:∀x∈bltNames,mg x=none
 cons:∀x d,T.cons.lookup x=some d->∃u v,mg x=some u/\RelV v u/\∀F H,Rep Z F H d v
 excs:∀(i:Nat) (nm:Str),T.excs[i]?=some nm->∃C,Z.cl[i]?=some C/\mg nm=some (.ref C)
 ecs:Ecs U Z
 rcl:∀C∈Z.cl,Rcl Z.K C
 fns:∀(i:Nat) (d:DefS),DS[i]?=some d->∃f fd,mg d.name=some (.ref f)/\Fun K d.name d.name d.st f fd/\BindP d/\FnScope d.N d.ps (defScope d.st) /\
  ∃ss,mapO (trS T fuel false (defScope d.st).names d.N) (defBody d.st)=some ss/\P[i]?=some ⟨d.ps.length,d.N.length,toSs ss⟩
section
variable {Z:Kn}{B:Bs}{F F':Addr->Prop}{H H':Hp}{N:List Str}{vs:List V}{sls:List Sl}{n:Nat}{σ':L2.St}{ρ':Rho}
theorem jcI {i:Nat}{s:Sl}(hs:s≠.no)(h:(sls++List.replicate n Sl.no)[i]?=some s):sls[i]?=some s:=by
 by_cases hi:i < sls.length
 ·rwa [ju1 hi]at h
 ·rw[juX (by omega),List.getElem?_replicate]at h
  split at h
  ·cases h;exact absurd rfl hs
  ·cases h
theorem jkG {i:Nat}{v:V}(h:vs[i]?=some v):(start N vs)[i]?=some (some v):=by
 unfold L2.start;rw[ju1 (by rw[juT];exact(List.getElem?_eq_some_iff.mp h).1),juQ,h]
 rfl
theorem jbS {i:Nat}(hi:i < vs.length):(start N vs)[i]?=(vs.map some)[i]?:=by
 rw[jkG (juK hi),juQ,juK hi];rfl
theorem jmS (hN:vs.length<=N.length)(r:SR Z B F H (vs.map some) sls):SR Z B F H (start N vs) (sls++List.replicate (N.length - sls.length) .no):=by
 have hl:sls.length=vs.length:=by have:=r.len;simpa using this
 have lt:∀{i:Nat}{s:Sl},sls[i]?=some s->i < vs.length:=fun h=>by rw[<-hl];exact(List.getElem?_eq_some_iff.mp h).1
 refine⟨r.dom,?_,fun i d h=>?_,fun i o f k h=>?_,fun i j o o' f k f' k' l ne h h'=>?_,r.base⟩
 ·unfold L2.start;simp[hl]
 ·have h:=jcI (by intro z;cases z) h
  rw[jbS (lt h)];exact r.dat i d h
 ·have h:=jcI (by intro z;cases z) h
  rw[jbS (lt h)];exact r.own i o f k h
 ·have h:=jcI (by intro z;cases z) h
  have h':=jcI (by intro z;cases z) h'
  rw[jbS (lt h),jbS (lt h')];exact r.one i j _ _ _ _ _ _ l ne h h'
theorem jeE (hl:sls.length=vs.length){b:Addr}(h:Mb (start N vs) (sls++List.replicate n .no) b):Mb (vs.map some) sls b:=by
 obtain⟨i,o,f,h1,h2⟩:=h;have h1:=jcI (by intro z;cases z) h1
 rw[jbS (by rw[<-hl];exact(List.getElem?_eq_some_iff.mp h1).1)]at h2
 exact⟨i,o,f,h1,h2⟩
theorem jmT {k:Nat}{ρ:Rho}{j:Nat}{o:O}{f g:Bool}(h:(jij k ρ)[j]?=some (.own o f g)):f=true/\ρ[j]?=some (.own o true g)/\j < k:=by
 unfold jij at h;rw[juQ]at h;have hj:j < k:=by
  refine Nat.lt_of_not_le fun z=>?_;rw[ju0 (by simpa using z)]at h
  cases h
 rw[juK (by simpa using hj),List.getElem_range]at h
 simp only[Option.map_some]at h;split at h
 ·rename_i s e;rw[e];cases s with
  |no=>cases h
  |dat d=>cases h
  |own o1 f1 g1=>
   cases f1 with
   |true=>cases h;exact⟨rfl,rfl,hj⟩
   |false=>cases h
 ·cases h
theorem jmU {k:Nat}{ρ:Rho}{j:Nat}{d:D}:(jij k ρ)[j]?≠some (.dat d):=by
 intro h;unfold jij at h;rw[juQ]at h;cases e:(List.range k)[j]? with
 |none=>rw[e]at h;cases h
 |some i=>
  rw[e]at h;simp only[Option.map_some]at h;split at h
  ·rename_i s _;cases s with
   |no=>cases h
   |dat d=>cases h
   |own o1 f1 g1=>cases f1 <;> cases h
  ·cases h
theorem jn2 (hl:sls.length=vs.length)(hB:∀(k:Nat) (l:Addr),B.lent k=some l->(vs.map some)[k]?=some (some (.ref l)))(g:Go (start N vs) (sls++List.replicate n .no) F H σ' ρ' F' H')(r:SR Z B F' H' σ' ρ') :
  Go (vs.map some) sls F H (vs.map some) (jij vs.length ρ') F' H'/\SR Z B F' H' (vs.map some) (jij vs.length ρ')/\∀w u H0,(∀i,w≠.slot i)->RV Z F' H0 H' σ' ρ' w u->RV Z F' H0 H' (vs.map some) (jij vs.length ρ') w u:=by
 have own:∀{j:Nat}{o:O}{f k:Bool},(jij vs.length ρ')[j]?=some (.own o f k)->f=true/\ρ'[j]?=some (.own o true k)/\j < vs.length/\∃l,σ'[j]?=some (some (.ref l))/\(vs.map some)[j]?=some (some (.ref l))/\OwR Z B F' H' j o true l:=fun {j o f k} h=>by
  obtain⟨rfl,e,hj⟩:=jmT h;obtain⟨l,e1,e2⟩:=r.own j o _ _ e;exact⟨rfl,e,hj,l,e1,hB j l (e2.2.2.1 rfl),e2⟩
 refine⟨⟨fun b o e nm=>g.stay b o e fun z=>nm (jeE hl z),g.sub,fun a ha=>?_,fun j o f k b h1 h2=>?_,g.there⟩,⟨r.dom,by simp[jij],fun i d h=>absurd h jmU,fun i o f k h=>?_,fun i j o o' f k f' k' l ne h h' q q'=>?_,r.base⟩,fun w u H0 hw rv=>?_⟩
 ·rcases g.new a ha with q | q | q
  ·exact .inl q
  ·exact .inr (.inl q)
  ·exact .inr (.inr (jeE hl q))
 ·obtain⟨rfl,e,hj,l,e1,e2,_⟩:=own h1;rw[h2]at e2;cases e2;rcases g.ow j o true k b e e1 with ⟨o0,k0,a1,a2,a3⟩ | q
  ·have a1:=jcI (by intro z;cases z) a1
   rw[jbS hj]at a2;exact .inl ⟨o0,k0,a1,a2,a3⟩
  ·exact .inr q
 ·obtain⟨rfl,e,hj,l,e1,e2,e3⟩:=own h;exact⟨l,e2,e3⟩
 ·obtain⟨rfl,e,hj,l1,e1,e2,_⟩:=own h;obtain⟨rfl,e',hj',l1',e1',e2',_⟩:=own h';rw[q]at e2;cases e2;rw[q']at e2';cases e2';exact r.one i j _ _ _ _ _ _ l ne e e' e1 e1'
 ·cases w with
  |dat d=>exact rv
  |tmp o=>
   obtain⟨l,e,h1,h2,h3,h4⟩:=rv;refine⟨l,e,h1,fun z=>h2 ?_,h3,h4⟩;obtain⟨j,o',f',k',z1,z2⟩:=z;obtain⟨rfl,e,hj,l1,e1,e2,_⟩:=own z1;rw[z2]at e2;cases e2;exact⟨j,o',_,k',e,e1⟩
  |slot i=>exact absurd rfl (hw i)
end
theorem Stl.start {N:List Str}{vs:List V}{sls:List Sl}{n:Nat}{H H':Hp}(hl:sls.length=vs.length)(s:Stl (start N vs) (sls++List.replicate n .no) H H'):Stl (vs.map some) sls H H':=⟨fun b o e nm=>s.stay b o e fun z=>nm (jeE hl z),s.there⟩
theorem jpS {Pr:Program}{w:World}{K:Frag}{mg:Str->Option Value}{base:Heap}{Z:Kn}{U:Nat->Nat->Bool}{T:Tab}{DS:List DefS}{P:List Def}{fuel W:Nat}(R:Prog K mg Z U T DS P fuel) :
  ∀(n i:Nat) (d:DefS) (f:Addr) (fd:FuncData),DS[i]?=some d->mg d.name=some (.ref f)->Fun K d.name d.name d.st f fd->FnOk Pr w K mg base (CXD Pr w) n f fd d.ps (spD Z (jaa U W P n) i):=by
 intro n;induction n with
 |zero=>
  intro i d f fd hd hm h2;refine⟨fun vs H Q E h=>?_,fun A outer s H args us vs Q E hr e0 hb hv h=>?_⟩
  ·obtain⟨B,F,sls,_,_,_,h⟩:=h;exact False.elim h
  ·obtain⟨B,F,sls,_,_,_,h⟩:=h;exact False.elim h
 |succ n ih=>
  intro i d f fd hd hm h2;obtain⟨f0,fd0,g1,g2,h3,h4,ss,h5,h6⟩:=R.fns i d hd;have hsl:∀{B:Bs}{F:Addr->Prop}{H:Hp}{vs:List V}{sls:List Sl},SR Z B F H (vs.map some) sls->sls.length=vs.length:=fun r=>by have:=r.len;simpa using this
  have hlen:∀vs H Q E,spD Z (jaa U W P (n + 1)) i vs H Q E->vs.length=d.ps.length:=fun vs H Q E ⟨B,F,sls,r,_,_,h⟩=>by
   simp only[jaa,h6]at h;split at h
   ·rename_i hl;rw[<-hsl r];exact hl
   ·exact False.elim h
  obtain⟨oc,od,kV,doc,pm,an,cdv,ct,osl,rfl,lk,hcd⟩:=h2.ex;refine jsL lk hcd h4 hlen fun A outer s H vs Q E hr hsp=>?_;obtain⟨B,F,sls,r,hB1,hB2,h⟩:=hsp;have hls:=hsl r;simp only[jaa,h6]at h;split at h
  ·rename_i hl;have hpl:d.ps.length<=d.N.length:=by have:=congrArg List.length h4.pre;rw[List.length_take]at this;omega
   have hT:{ T with quiet:=false }=T:=by
    obtain⟨a,b,c,e,q⟩:=T;have:q=false:=R.loud;subst this;rfl
   have D:XT { T with quiet:=false } (jaa U W P n) U Z n (jh2 (CXD Pr w) Pr w K mg base d.N d.name (defScope d.st) f cdv A outer s H E) (defScope d.st).names:=by
    refine { hK:=R.hK,calm:=fun _=>rfl,nd:=h4.nd,room:=fun _=>hr,un:=hr.units,sc:=fun x=>.inl rfl,blt:=R.blt,defs:=fun j nm hj=>?_,cons:=R.cons,excs:=R.excs,ecl:=?_,sub:=?_,fn:=fun _=>rfl,own:=fun _=>PassesOwn.leaving,hex:=rfl,hst:=rfl,hfr:=rfl,rcl:=R.rcl }
    ·have hj:T.defs[j]?=some nm:=hj;rw[R.tab,juQ]at hj;cases q:DS[j]? with
     |none=>rw[q]at hj;cases hj
     |some d'=>
      rw[q]at hj;cases hj;obtain⟨f',fd',a1,a2,a3,_⟩:=R.fns j d' q;exact⟨f',fd',d'.ps,a1,a2.kp,a2.binds a3,ih j d' f' fd' q a1 a2⟩
    ·show ∀C∈Z.cl,ECls K C;rw[R.hK];exact R.ecs.ecl
    ·show ∀(i j:Nat) (C D:Addr),Z.cl[i]?=some C->Z.cl[j]?=some D->jvy K C (.ref D)=some (U i j);rw[R.hK];exact R.ecs.sub
   refine⟨_,jhJ (B:=B) (W:=W) (fun s' S' hs=>jpQ fuel _ _ B false s' S' D hs) h5,?_⟩;have hN:d.N.length - d.ps.length=d.N.length - sls.length:=by rw[hl]
   have sr:=jmS (N:=d.N) (by rw[<-hls,hl];exact hpl) r
   rw[<-hN]at sr;refine⟨F,_,sr,h.bind.imp (fun c wc=>?_) fun fl z=>?_⟩
   ·intro σ1 ρ1 F1 H1 g1;refine⟨fun pins H' s' ea C hC I stl fly=>jrK I fly (wc C H' hC (Stl.start hls (Stl.go g1 stl))),fun pins H' s' h' ea C us hC I stl mk=>jpF I mk (wc C H' hC (Stl.start hls (Stl.go g1 stl)))⟩
   ·have hk:d.ps.length=vs.length:=by rw[<-hl,hls]
    cases fl with
    |nx ρ'=>
     intro σ' F' H' g r';obtain⟨a,b,c⟩:=jn2 hls hB2 g r';rw[<-hk]at a b;exact z .non F' H' (fun _ z=>by cases z) a b (by show Rep _ _ _ _ _;simp only[Rep])
    |rt v ρ'=>
     intro u σ' F' H' ns g r' rv;obtain⟨a,b,c⟩:=jn2 hls hB2 g r';have rv':=c v u B.hp ns rv;rw[hB1]at rv';rw[<-hk]at a b rv';exact z u F' H' ns a b rv'
    |bk ρ'=>exact False.elim z
    |ct ρ'=>exact False.elim z
  ·exact False.elim h
theorem jrZ {Z:Kn}{H:Hp}{a:Addr}{ns:List Int}{G:Calls}{i:Nat}{fin:List Sl}(h:G i [.dat (.lst (ns.map .int))]=.ok (.dat (.bl true),fin))(hS:SqL Z.K H a (ns.map V.int)) :
  spD Z G i [.ref a] H (fun v _=>v=.bl true) fun _ _ _=>False:=by
 have rs:∀(F:Addr->Prop) (ms:List Int),Reps Z F H (ms.map D.int) (ms.map V.int):=fun F ms=>by
  induction ms with
  |nil=>exact .nil
  |cons m ms ih=>exact .cons (by simp only[Rep]) ih
 have rl:∃F:Addr->Prop,Dom F H/\FL Z.K F H a (ns.map V.int):=by
  rcases hS with h | h
  ·refine⟨fun b=>b=a,fun b e=>?_,.inl ⟨rfl,h⟩⟩;have e:b=a:=e;subst e;rcases h with h | ⟨o,h⟩
   ·exact⟨_,h⟩
   ·exact⟨_,h⟩
  ·exact⟨fun _=>False,fun b e=>e.elim,.inr h⟩
 obtain⟨F,dm,fl⟩:=rl;refine⟨⟨H,fun _=>none⟩,F,[.dat (.lst (ns.map .int))],⟨dm,rfl,fun j d e=>?_,fun j o f k e=>?_,fun j j' o o' f k f' k' l _ e=>?_,fun _ z=>z⟩,rfl,(fun _ _ z=>nomatch z),?_⟩
 ·cases j with
  |zero=>simp at e;subst e;exact⟨_,rfl,by simp only[Rep];exact⟨a,_,rfl,fl,rs F ns⟩⟩
  |succ j=>simp at e
 ·cases j with
  |zero=>simp at e
  |succ j=>simp at e
 ·cases j with
  |zero=>simp at e
  |succ j=>simp at e
 ·rw[h];intro v F' H' _ _ _ rp;have rp:Rep Z F' H' (.bl true) v:=rp;simpa only[Rep] using rp
theorem jkH {l:PySem.W.OpenLaw}{q:Program}{loose:List Str}{XP:(Str->Option Value)->Heap->Prop}{YP:World->Heap->Prop}{d:DefRec}{K:Params->Frag}{cl:List Addr}{U:Nat->Nat->Bool}{T:Tab}{DS:List DefS}{P:List Def}{fuel W n i:Nat}{x:Str}{dl:DefS}
  (hn:l.most=some 63) (hdf:d.params.defaults=[]) (hr:Room n callerA) (hY:∀(w:World) (h:Heap),YP w h->(K w.params).In h) (hi:DS[i]?=some dl) (hnm:dl.name=d.name) (hps:dl.ps=[x])
  (hP:∀(w:World) (mg:Str->Option Value) (h:Heap),(K w.params).In h->h.Ns mainGlobals mg->Prog (K w.params) mg ⟨K w.params,cl⟩ U T DS P fuel)
  (hlaw:∀ns:List Int,ns.length<=63->∃fin,jaa U W P n i [.dat (.lst (ns.map .int))]=.ok (.dat (.bl true),fin)) :
  PySem.W.WalkO q loose XP YP l.row.toRowW d [] (fun f vs=>PySem.call f vs):=by
 refine L2.jow (n:=63) (k:=n) (x:=x) (CX:=fun w=>CXD l.prog w) (sp:=fun w=>spD ⟨K w.params,cl⟩ (jaa U W P n) i) hn (by decide) hdf hr hY (fun w mg fa h KX G hmg=>?_) (fun w H a ns hl _ hS=>?_) fun w H s e s' hx=>?_
 ·have R:=hP w mg h KX G;obtain⟨f,fd,h1,h2,h3,h4,_⟩:=R.fns i dl hi;have h1':=h1;rw[hnm,hmg]at h1;cases h1;refine⟨fd,fun s u=>?_,fun base kb nb=>?_⟩
  ·obtain⟨oc,od,kV,doc,pm,an,cdv,ct,osl,rfl,lk,hcd⟩:=h2.ex;refine .of_eq ?_;have:=h3 kV doc pm an cdv ct [u] (by rw[hps];rfl)
   rw[hps]at this;exact this
  ·have R':=hP w mg base kb nb;have:=jpS (Pr:=l.prog) (w:=w) (base:=base) (W:=W) R' n i dl fa fd hi h1' h2;rw[hps]at this;exact this
 ·obtain⟨fin,hf⟩:=hlaw ns hl;exact jrZ hf hS
 ·obtain⟨ea,cls,a0,H',B,_,_,_,_,_,_,_,_,_,z⟩:=hx;exact z
end DJ
namespace DJ
theorem R.bind_err' {α β:Type}(c:Nat)(f:α->R β):(R.err c).bind f=.err c:=rfl
theorem jeF (g:Rho->R Fl)(ρ:Rho):joZ g (.nx ρ)=g ρ:=rfl
theorem jkI (g:Rho->R Fl)(v:Vl)(ρ:Rho):joZ g (.rt v ρ)=.ok (.rt v ρ):=rfl
theorem jpT (g:Rho->R Fl)(ρ:Rho):joZ g (.bk ρ)=.ok (.bk ρ):=rfl
theorem jpU (g:Rho->R Fl)(ρ:Rho):joZ g (.ct ρ)=.ok (.ct ρ):=rfl
theorem jai {U:Nat->Nat->Bool}{W:Nat}{P:List Def}{n f:Nat}{xs:List Sl}{d:Def}(h:P[f]?=some d)(hl:xs.length=d.ps) :
  jaa U W P (n + 1) f xs=(evSs (jaa U W P n) U W d.body (xs++List.replicate (d.n - d.ps) .no)).bind (jcy d.ps):=by
 simp only[jaa,h,if_pos hl]
theorem jbx:∀{ds:List D}{ρ:Rho},jaD [] (ds.map Vl.dat) ρ=.ok (ds.map Sl.dat,ds.map (fun _=>none),ρ)
 |[],ρ=>rfl
 |d::ds,ρ=>by
  simp only[juR,jaD,List.headD_nil,jii,toD,R.bind_ok',List.tail_nil,jbx]
theorem jcJ:∀{ds:List D}{fin:List Sl}{ρ:Rho},ja1 (ds.map fun _=>none) fin ρ=ρ
 |[],fin,ρ=>by simp[ja1]
 |d::ds,[],ρ=>by simp[ja1]
 |d::ds,s::fin,ρ=>by simp only[juR,ja1];exact jcJ
section
variable {G:Calls}{U:Nat->Nat->Bool}{ρ:Rho}{k:Nat}{es:Es}{fin:List Sl}
theorem jan (ds:List D){v:Vl}(he:evAs G U es ρ=.ok (ds.map Vl.dat,ρ))(hG:G k (ds.map Sl.dat)=.ok (v,fin)):evE G U (.call k [] es) ρ=.ok (v,ρ):=by
 simp only[evE,he,R.bind_ok',jbx,hG,jcJ]
theorem jkJ (ds:List D){c:Nat}(he:evAs G U es ρ=.ok (ds.map Vl.dat,ρ))(hG:G k (ds.map Sl.dat)=.err c):evE G U (.call k [] es) ρ=.err c:=by
 simp only[evE,he,R.bind_ok',jbx,hG,R.bind_err']
theorem jck (ds:List D){b:Bool}(he:evAs G U es ρ=.ok (ds.map Vl.dat,ρ))(hG:G k (ds.map Sl.dat)=.ok (.dat (.bl b),fin)):evT G U (.call k [] es) ρ=.ok (b,ρ):=by
 simp only[evT,he,R.bind_ok',jbx,hG,jcJ,deref,jbD]
end
theorem jcK {α:Type}{f:D->Rho->R (Option D×Rho)}{h:α->D}{g:α->D}{ρ:Rho}:∀{xs:List α},(∀x∈xs,f (h x) ρ=.ok (some (g x),ρ))->compGo f (xs.map h) ρ=.ok (xs.map g,ρ)
 |[],_=>rfl
 |x::xs,e=>by
  simp only[juR,compGo,e x juM,R.bind_ok',jcK fun y hy=>e y (juL _ hy)]
theorem jbT:∀(ns:List Int),jaY (ns.map D.int)=some ns
 |[]=>rfl
 |n::ns=>by simp only[juR,jaY,jbT ns,Option.map_some]
theorem jby {α:Type}{g:α->Bool}:∀(xs:List α),jau (xs.map fun x=>.bl (g x))=some (xs.map g)
 |[]=>rfl
 |x::xs=>by simp only[juR,jau,jby xs,Option.map_some]
theorem jcl:∀(ns:List Int),cmpDs (ns.map D.int)=true
 |[]=>rfl
 |n::ns=>by simp only[juR,cmpDs,jbF,jcl ns,Bool.and_self]
theorem jcm:∀(ns:List Int),deeps (ns.map D.int)=0
 |[]=>rfl
 |n::ns=>by simp only[juR,deeps,jcP,jcm ns];rfl
theorem jeG:∀(as bs:List Int),eqDs (as.map D.int) (bs.map D.int)=decide (as=bs)
 |[],[]=>rfl
 |[],b::bs=>by simp[eqDs]
 |a::as,[]=>by simp[eqDs]
 |a::as,b::bs=>by
  simp only[juR,eqDs,eqD,jeG as bs,List.cons.injEq];by_cases h:a=b <;> simp[h]
noncomputable def tu (ns:List Int):D:=.tup (ns.map .int)
theorem jr0 (as bs:List Int):eqR (tu as) (tu bs)=.ok (decide (as=bs)):=by
 unfold eqR tu;simp only[jbF,jcl,jcP,jcm,eqD,jeG];rfl
end DJ
namespace DJ
section
variable {G:Calls}{U:Nat->Nat->Bool}{W:Nat}{ρ ρ':Rho}{s:S}{ss a:Ss}{c e e':E}{i:Nat}{b:Bool}
theorem jah (h:evS G U W s ρ=.ok (.nx ρ')):evSs G U W (.cons s ss) ρ=evSs G U W ss ρ':=by simp only[evSs,h,R.bind_ok',jeF]
theorem jeH {v:Vl}(h:evS G U W s ρ=.ok (.rt v ρ')):evSs G U W (.cons s ss) ρ=.ok (.rt v ρ'):=by simp only[evSs,h,R.bind_ok',jkI]
theorem jit (h:evT G U c ρ=.ok (false,ρ)):evS G U W (.ife c a .nil) ρ=.ok (.nx ρ):=by simp only[evS,h,R.bind_ok',jvw,if_false,evSs]
theorem jfQ {d:D}(h:evE G U e ρ=.ok (.dat d,ρ'))(hi:i < ρ'.length):evS G U W (.asg i e) ρ=.ok (.nx (ρ'.set i (.dat d))):=by simp only[evS,h,R.bind_ok',jhr,toD,if_pos hi]
theorem jr1 {o:O}(h:evE G U e ρ=.ok (.tmp o,ρ'))(hi:i < ρ'.length):evS G U W (.asg i e) ρ=.ok (.nx (ρ'.set i (.own o false false))):=by simp only[evS,h,R.bind_ok',jhr,if_pos hi]
theorem jkK {d:D}(h:evE G U e ρ=.ok (.dat d,ρ')):evS G U W (.ret e) ρ=.ok (.rt (.dat d) ρ'):=by simp only[evS,h,R.bind_ok',jmd]
theorem jbp (h:evT G U c ρ=.ok (b,ρ')):evT G U (.not c) ρ=.ok (!b,ρ'):=by simp only[evT,h,R.bind_ok']
theorem jpV {c':E}(h:evT G U c ρ=.ok (false,ρ))(h':evT G U c' ρ=.ok (b,ρ')):evT G U (.or c c') ρ=.ok (b,ρ'):=by simp only[evT,h,R.bind_ok',jvw,if_false,h']
theorem jr2 (h:evE G U e ρ=.ok (.dat (.bl true),ρ))(h':evE G U e' ρ=.ok (.dat (.bl b),ρ')):evE G U (.and e e') ρ=.ok (.dat (.bl b),ρ'):=by simp only[evE,h,R.bind_ok',jcB,if_true,h']
theorem jpW {xs:List D}(h:evE G U e ρ=.ok (.tmp (.l xs),ρ')):evE G U (.blt .tuple e) ρ=.ok (.dat (.tup xs),ρ'):=by simp only[evE,h,R.bind_ok',deref,O.toD,bfD,jaA]
end
end DJ
namespace DJ
open PySem
section
variable {d:D}{o:O}{i:Nat}{ρ:Rho}{xs:List D}{b:Bool}
theorem ja5:deref (.dat d) ρ=.ok d:=rfl
theorem jbq:deref (.tmp o) ρ=.ok o.toD:=rfl
theorem jd2:deref (.slot i) ρ=(match ρ[i]? with | some (.own o _ _)=>.ok o.toD | _=>.stk):=rfl
theorem jgF:toD (.dat d) ρ=.ok (d,ρ):=rfl
theorem jpX:toD (.tmp o) ρ=.ok (o.toD,ρ):=rfl
theorem jmV:toD (.slot i) ρ=(match ρ[i]? with | some (.own o false false)=>.ok (o.toD,ρ.set i (.dat o.toD)) | _=>.stk):=rfl
theorem jmW:jhr (.dat d) ρ=.ok (.dat d,ρ):=rfl
theorem jmX:jhr (.tmp o) ρ=.ok (.own o false false,ρ):=rfl
theorem jkL:jhr (.slot i) ρ=(toD (.slot i) ρ).bind fun p=>.ok (.dat p.1,p.2):=rfl
theorem jgG:(O.l xs).toD=.lst xs:=rfl
theorem jmY:jmd (.dat d) ρ=.ok (.rt (.dat d) ρ):=rfl
theorem jmZ:jmd (.tmp o) ρ=.ok (.rt (.tmp o) ρ):=rfl
theorem jkM:jmd (.slot i) ρ=(match ρ[i]? with | some (.own o false false)=>.ok (.rt (.tmp o) (ρ.set i .no)) | _=>.stk):=rfl
theorem jm0:jcB (.dat (.bl b))=.ok b:=rfl
theorem jdt:jaA (.tup xs)=.ok xs:=rfl
theorem jcn:jaA (.lst xs)=.ok xs:=rfl
theorem jiu:jaB (.dat (.tup xs)) ρ=.ok (xs,[],ρ):=rfl
theorem jiv:jaB (.dat (.lst xs)) ρ=.ok (xs,[],ρ):=rfl
theorem jiw:jaB (.tmp (.l xs)) ρ=.ok (xs,[],ρ):=rfl
theorem jgH:jaB (.slot i) ρ=(match ρ[i]? with
  |some (.own (.l xs) _ true)=>.ok (xs,[],ρ)
  |some (.own (.l xs) f false)=>.ok (xs,[i],ρ.set i (.own (.l xs) f true))
  |_=>.stk):=rfl
theorem jpY {k:Nat}{v:Vl}:jcy k (.rt v ρ)=.ok (v,jij k ρ):=rfl
theorem jpZ {k:Nat}:jcy k (.nx ρ)=.ok (.dat .non,jij k ρ):=rfl
theorem jp0 {lo hi:Option Int}:jmc (.tup xs) lo hi=.ok (.dat (.tup (cut xs lo hi))):=rfl
theorem jm1 {a b:Int}:opD .add (.int a) (.int b)=.ok (.dat (.int (a + b))):=rfl
theorem jm2 {a b:Int}:opD .sub (.int a) (.int b)=.ok (.dat (.int (a - b))):=rfl
theorem jm3 {a b:Int}:opD .mul (.int a) (.int b)=if (-(2 ^ 64) < a/\a < 2 ^ 64)\/(-(2 ^ 64) < b/\b < 2 ^ 64)then .ok (.dat (.int (a * b)))else .stk:=rfl
theorem jkN {a b:Int}:opD .fdiv (.int a) (.int b)=if 0 < b/\b < 2 ^ 64 then .ok (.dat (.int (a / b)))else .stk:=rfl
theorem jm4 {a b:Int}:opD .mod (.int a) (.int b)=if 0 < b then .ok (.dat (.int (a % b)))else .stk:=rfl
theorem jm5 {a b:List D}:opD .add (.tup a) (.tup b)=if fits (a.length + b.length)then .ok (.dat (.tup (a++b)))else .stk:=rfl
theorem jc0 {a b:List D}:opD .add (.lst a) (.lst b)=if fits (a.length + b.length)then .ok (.tmp (.l (a++b)))else .stk:=rfl
theorem jm6 {a b:PySem.Str}:opD .add (.str a) (.str b)=if fits (a.length + b.length)then .ok (.dat (.str (a++b)))else .stk:=rfl
theorem jeI {a:List D}{b:Int}:opD .mul (.tup a) (.int b)=if 0<=b/\b<=16777216/\fits (a.length * b.toNat)then .ok (.dat (.tup (List.replicate b.toNat a).flatten))else .stk:=rfl
theorem jm7:bfD .len (.lst xs)=.ok (.dat (.int xs.length)):=rfl
theorem jm8:bfD .len (.tup xs)=.ok (.dat (.int xs.length)):=rfl
theorem jd3:bfD .tuple (.lst xs)=.ok (.dat (.tup xs)):=rfl
theorem jix:bfD .tuple (.tup xs)=.ok (.dat (.tup xs)):=rfl
theorem jkO:bfD .list (.lst xs)=.ok (.tmp (.l xs)):=rfl
theorem jkP:bfD .list (.tup xs)=.ok (.tmp (.l xs)):=rfl
theorem jkQ:bfD .revl (.lst xs)=.ok (.tmp (.l xs.reverse)):=rfl
theorem jkR:bfD .revt (.lst xs)=.ok (.dat (.tup xs.reverse)):=rfl
theorem jkS:bfD .revt (.tup xs)=.ok (.dat (.tup xs.reverse)):=rfl
theorem jm9 {a:Int}:bfD .abs (.int a)=.ok (.dat (.int (if a < 0 then -a else a))):=rfl
theorem jna {a:Int}:bfD .int (.int a)=.ok (.dat (.int a)):=rfl
theorem jnb:bfD .int (.bl b)=.ok (.dat (.int (if b then 1 else 0))):=rfl
theorem jth {a c:D}:cmD .eq a c=eqR a c:=rfl
theorem jti {a c:D}:cmD .ne a c=(eqR a c).bind fun c=>.ok (!c):=rfl
theorem jp1 {a c:Int}:cmD .lt (.int a) (.int c)=.ok (decide (a < c)):=rfl
theorem jp2 {a c:Int}:cmD .gt (.int a) (.int c)=.ok (decide (c < a)):=rfl
theorem jp3 {a c:Int}:cmD .le (.int a) (.int c)=.ok (decide (a<=c)):=rfl
theorem jp4 {a c:Int}:cmD .ge (.int a) (.int c)=.ok (decide (c<=a)):=rfl
theorem jtj {a c:Int}:eqR (.int a) (.int c)=.ok (a == c):=rfl
theorem jtk {a c:PySem.Str}:eqR (.str a) (.str c)=.ok (a == c):=rfl
theorem jp5 {j:Int}:jmb (.tup xs) (.int j)=atI xs j:=rfl
theorem jkT {j:Int}:jmb (.lst xs) (.int j)=atI xs j:=rfl
theorem jp6 {x:PySem.Str}{j:Int}:jmb (.str x) (.int j)=atC x j:=rfl
theorem juB {x:D}:atI (x::xs) 0=.ok x:=rfl
theorem juC {x y:D}:atI (x::y::xs) 1=.ok y:=rfl
theorem juD {x y z:D}:atI (x::y::z::xs) 2=.ok z:=rfl
theorem jqr {k:Nat}{x:D}(h:xs[k]?=some x):atI xs (k:Int)=.ok x:=by
 unfold atI;rw[if_pos (Int.natCast_nonneg k),Int.toNat_natCast,h]
theorem jnc:jbD (.bl b)=.ok b:=rfl
theorem jr3 {a:Int}:jbD (.int a)=.ok (a != 0):=rfl
theorem jr4:jbD (.tup xs)=.ok (!xs.isEmpty):=rfl
theorem jr5:jbD (.lst xs)=.ok (!xs.isEmpty):=rfl
theorem jr6:jbD .non=.ok false:=rfl
theorem jr7 {a:Int}:jsn (.int a)=.ok (.int (-a)):=rfl
theorem jiy {U:Nat->Nat->Bool}:jal U .non [.int]=.ok false:=rfl
theorem jgI {U:Nat->Nat->Bool}:jal U .non [.bool]=.ok false:=rfl
theorem jiz {U:Nat->Nat->Bool}:jal U .non [.str]=.ok false:=rfl
theorem jfR {U:Nat->Nat->Bool}:jal U .non [.tuple]=.ok false:=rfl
theorem jgJ {U:Nat->Nat->Bool}:jal U .non [.list]=.ok false:=rfl
theorem jgK {U:Nat->Nat->Bool}:jal U .non [.dict]=.ok false:=rfl
theorem jkU {U:Nat->Nat->Bool}:jal U (.bl b) [.int]=.ok true:=rfl
theorem jiA {U:Nat->Nat->Bool}:jal U (.bl b) [.bool]=.ok true:=rfl
theorem jkV {U:Nat->Nat->Bool}:jal U (.bl b) [.str]=.ok false:=rfl
theorem jgL {U:Nat->Nat->Bool}:jal U (.bl b) [.tuple]=.ok false:=rfl
theorem jiB {U:Nat->Nat->Bool}:jal U (.bl b) [.list]=.ok false:=rfl
theorem jiC {U:Nat->Nat->Bool}:jal U (.bl b) [.dict]=.ok false:=rfl
theorem jiD {U:Nat->Nat->Bool}{a:Int}:jal U (.int a) [.int]=.ok true:=rfl
theorem jgM {U:Nat->Nat->Bool}{a:Int}:jal U (.int a) [.bool]=.ok false:=rfl
theorem jiE {U:Nat->Nat->Bool}{a:Int}:jal U (.int a) [.str]=.ok false:=rfl
theorem jfS {U:Nat->Nat->Bool}{a:Int}:jal U (.int a) [.tuple]=.ok false:=rfl
theorem jgN {U:Nat->Nat->Bool}{a:Int}:jal U (.int a) [.list]=.ok false:=rfl
theorem jgO {U:Nat->Nat->Bool}{a:Int}:jal U (.int a) [.dict]=.ok false:=rfl
theorem jiF {U:Nat->Nat->Bool}{x:PySem.Str}:jal U (.str x) [.int]=.ok false:=rfl
theorem jgP {U:Nat->Nat->Bool}{x:PySem.Str}:jal U (.str x) [.bool]=.ok false:=rfl
theorem jiG {U:Nat->Nat->Bool}{x:PySem.Str}:jal U (.str x) [.str]=.ok true:=rfl
theorem jfT {U:Nat->Nat->Bool}{x:PySem.Str}:jal U (.str x) [.tuple]=.ok false:=rfl
theorem jgQ {U:Nat->Nat->Bool}{x:PySem.Str}:jal U (.str x) [.list]=.ok false:=rfl
theorem jgR {U:Nat->Nat->Bool}{x:PySem.Str}:jal U (.str x) [.dict]=.ok false:=rfl
theorem jiH {U:Nat->Nat->Bool}:jal U (.tup xs) [.int]=.ok false:=rfl
theorem jgS {U:Nat->Nat->Bool}:jal U (.tup xs) [.bool]=.ok false:=rfl
theorem jiI {U:Nat->Nat->Bool}:jal U (.tup xs) [.str]=.ok false:=rfl
theorem jfU {U:Nat->Nat->Bool}:jal U (.tup xs) [.tuple]=.ok true:=rfl
theorem jgT {U:Nat->Nat->Bool}:jal U (.tup xs) [.list]=.ok false:=rfl
theorem jgU {U:Nat->Nat->Bool}:jal U (.tup xs) [.dict]=.ok false:=rfl
theorem jiJ {U:Nat->Nat->Bool}:jal U (.lst xs) [.int]=.ok false:=rfl
theorem jgV {U:Nat->Nat->Bool}:jal U (.lst xs) [.bool]=.ok false:=rfl
theorem jiK {U:Nat->Nat->Bool}:jal U (.lst xs) [.str]=.ok false:=rfl
theorem jfV {U:Nat->Nat->Bool}:jal U (.lst xs) [.tuple]=.ok false:=rfl
theorem jgW {U:Nat->Nat->Bool}:jal U (.lst xs) [.list]=.ok true:=rfl
theorem jgX {U:Nat->Nat->Bool}:jal U (.lst xs) [.dict]=.ok false:=rfl
theorem jtl:fits 0=true:=rfl
theorem jr8:fits 1=true:=rfl
theorem jtm:fits 2=true:=rfl
theorem jtn:fits 3=true:=rfl
theorem jto:fits 4=true:=rfl
theorem jtp:fits 5=true:=rfl
theorem jtq:fits 6=true:=rfl
theorem jtr:fits 7=true:=rfl
theorem jts:fits 8=true:=rfl
theorem jtt:fits 9=true:=rfl
theorem jr9:fits 10=true:=rfl
theorem jp7 {lo hi:Option Int}:jmc (.lst xs) lo hi=.ok (.tmp (.l (cut xs lo hi))):=rfl
end
section
variable {G:Calls}{U:Nat->Nat->Bool}{W:Nat}
theorem jbf {α:Type}{elt:E}{caps:List Nat}{it:DJ.It}{ρ:Rho}{xs:List α}{h g:α->D}(hi:evI G U it ρ=.ok (xs.map h,[],ρ))(hE:∀x∈xs,evE G U elt (.dat (h x)::jdV ρ caps)=.ok (.dat (g x),.dat (h x)::jdV ρ caps))
  (hB:∀s,ja0 caps 1 (s::jdV ρ caps) ρ=ρ):evE G U (.comp elt [0] true 1 caps it .none) ρ=.ok (.tmp (.l (xs.map g)),ρ):=by
 simp only[evE,hi,R.bind_ok'];rw[jcK (g:=g)]
 ·rfl
 ·intro x hx;have:=hE x hx;simp only[putT,jfA,List.replicate,List.cons_append,List.nil_append,List.set_cons_zero,R.bind_ok',this,toD,hB]
theorem jsa:opD .pow (.int 10) (.int 15)=.ok (.dat (.int (10 ^ 15))):=by
 show (if 0<=(15:Int)/\(15:Int)<=1000000/\(10:Int).natAbs < 2 ^ 64 then R.ok (Vl.dat (.int (10 ^ (15:Int).toNat)))else R.stk)=_;rw[if_pos (by decide)]
 rfl
theorem jsb:opD .pow (.int 10) (.int 30)=.ok (.dat (.int (10 ^ 30))):=by
 show (if 0<=(30:Int)/\(30:Int)<=1000000/\(10:Int).natAbs < 2 ^ 64 then R.ok (Vl.dat (.int (10 ^ (30:Int).toNat)))else R.stk)=_;rw[if_pos (by decide)]
 rfl
theorem jaV {α β:Type}(f:α->β)(xs:List α)(lo hi:Option Int):cut (xs.map f) lo hi=(cut xs lo hi).map f:=by
 unfold cut;rw[juT,List.map_take,List.map_drop]
theorem jbU {α:Type}(xs:List α)(k:Nat):cut xs none (some (k:Int))=xs.take k:=by
 show List.take ((if (k:Int) < 0 then ((k:Int) + xs.length).toNat else min (k:Int).toNat xs.length) - 0) (List.drop 0 xs)=_;rw[if_neg (by omega),Int.toNat_natCast,List.drop_zero,Nat.sub_zero,List.take_eq_take_iff]
 omega
theorem jbV {α:Type}(xs:List α)(k:Nat):cut xs (some (k:Int)) none=xs.drop k:=by
 show List.take (xs.length - (if (k:Int) < 0 then ((k:Int) + xs.length).toNat else min (k:Int).toNat xs.length)) (List.drop (if (k:Int) < 0 then ((k:Int) + xs.length).toNat else min (k:Int).toNat xs.length) xs)=_;rw[if_neg (by omega),Int.toNat_natCast]
 by_cases h:k<=xs.length
 ·rw[Nat.min_eq_left h,List.take_of_length_le (by simp)]
 ·rw[Nat.min_eq_right (by omega),List.drop_eq_nil_of_le (jvq _),List.drop_eq_nil_of_le (by omega),List.take_nil]
theorem jco (k:Nat)(h:k<=16777216):jdd (.int k)=.ok ((List.range k).map fun (j:Nat)=>D.int j):=by
 show (if -16777216<=(k:Int)/\(k:Int)<=16777216 then R.ok (jnL 0 (k:Int).toNat)else R.stk)=_;rw[if_pos (by omega)]
 simp[jnL]
theorem jaq {n:Nat}(h:n<=16777216):fits n=true:=by simp[fits];exact h
theorem jp8 {α:Type}{xs:List α}(h:0 < xs.length):∃ys c,xs=ys++[c]:=by
 rcases List.eq_nil_or_concat xs with rfl | ⟨ys,c,e⟩
 ·simp at h
 ·exact⟨ys,c,by simpa using e⟩
end
end DJ
local macro_rules | `(tactic| simp_arith[$xs,*])=>do
  let l<-("DJ.evSs DJ.evS DJ.evE DJ.evT DJ.evEs DJ.evAs DJ.evO DJ.evI ju4 ju5 List.set_cons_zero List.set_cons_succ juU ju6 Nat.reduceAdd Nat.reduceLT Nat.lt_add_one Nat.zero_lt_succ DJ.R.bind_ok' DJ.ja5 DJ.jbq DJ.jd2 DJ.jgF DJ.jpX DJ.jmV DJ.jmW DJ.jmX DJ.jkL DJ.jgG DJ.jmY DJ.jmZ DJ.jkM DJ.jm0 DJ.jdt DJ.jcn DJ.jiu DJ.jiv DJ.jiw DJ.jgH DJ.jpY DJ.jpZ DJ.jp0 DJ.jp7 DJ.jeF DJ.jkI DJ.jpT DJ.jpU DJ.jm1 DJ.jm2 DJ.jm3 DJ.jkN DJ.jm4 DJ.jm5 DJ.jc0 DJ.jm6 DJ.jeI DJ.jm7 DJ.jm8 DJ.jd3 DJ.jix DJ.jkO DJ.jkP DJ.jkQ DJ.jkR DJ.jm9 DJ.jna DJ.jnb DJ.jth DJ.jti DJ.jp1 DJ.jp2 DJ.jp3 DJ.jp4 DJ.jtj DJ.jtk DJ.jp5 DJ.jkT DJ.jp6 DJ.juB DJ.juC DJ.juD DJ.jnc DJ.jr3 DJ.jr4 DJ.jr5 DJ.jr6 DJ.jr7 DJ.jiy DJ.jtl DJ.jr8 DJ.jtm DJ.jtn DJ.jto DJ.jtp DJ.jtq DJ.jtr DJ.jts DJ.jtt DJ.jr9 DJ.jgI DJ.jiz DJ.jfR DJ.jgJ DJ.jgK DJ.jkU DJ.jiA DJ.jkV DJ.jgL DJ.jiB DJ.jiC DJ.jiD DJ.jgM DJ.jiE DJ.jfS DJ.jgN DJ.jgO DJ.jiF DJ.jgP DJ.jiG DJ.jfT DJ.jgQ DJ.jgR DJ.jiH DJ.jgS DJ.jiI DJ.jfU DJ.jgT DJ.jgU DJ.jiJ DJ.jgV DJ.jiK DJ.jfV DJ.jgW DJ.jgX if_true jvw if_false Bool.not_true Bool.not_false Int.reducePow Int.reduceNeg Int.reduceLT Int.reduceLE and_self or_true true_or and_true true_and".splitOn " ").toArray.mapM fun s=>`(Lean.Parser.Tactic.simpLemma| $(Lean.mkIdent s.toName):term)
  `(tactic| simp only[$l,*,$xs,*])
namespace Law
open PySem L2 DJ
noncomputable def top (i:Nat):Stmt:=PySem.Challenge.pw_tallysets_k03_fans_made.main.body.getD i (.Pass ⟨0,0,0,0⟩)
noncomputable def d_is_number:DefS:=⟨"is_number",["thing"],["thing"],top 9⟩
noncomputable def jb9:Ss:=
 .cons (.ret (.and (.isi (.var 0) [.int]) (.not (.isi (.var 0) [.bool])))) (
 .nil)
noncomputable def d_is_tally:DefS:=⟨"is_tally",["thing"],["thing"],top 10⟩
noncomputable def jcT:E:=.comp (.and (.call 0 [] (.cons (.var 0) .nil)) (.cmp .ge (.var 0) (.lit (.int 0)))) [0] true 1 [] (.seq (.var 0)) .none
noncomputable def jbr:Ss:=
 .cons (.ife (.not (.isi (.var 0) [.tuple])) (.cons (.ret (.lit (.bl false))) (
  .nil)) (.nil)) (
 .cons (.ife (.or (.cmp .lt (.blt .len (.var 0)) (.lit (.int 1))) (.cmp .gt (.blt .len (.var 0)) (.lit (.int 4)))) (.cons (.ret (.lit (.bl false))) (
  .nil)) (.nil)) (
 .cons (.ret (.blt .all (jcT))) (
 .nil)))
noncomputable def d_is_tally_as_long:DefS:=⟨"is_tally_as_long",["thing","long"],["thing","long"],top 12⟩
noncomputable def jao:Ss:=
 .cons (.ret (.and (.call 1 [] (.cons (.var 0) .nil)) (.cmp .eq (.blt .len (.var 0)) (.var 1)))) (
 .nil)
noncomputable def d_plain_fan:DefS:=⟨"plain_fan",["begin","steps","moving"],["begin","steps"],top 13⟩
noncomputable def jbz:E:=.comp (.var 0) [0] true 1 [] (.seq (.var 1)) (.some (.blt .any (.var 0)))
noncomputable def ja6:Ss:=
 .cons (.asg 2 (jbz)) (
 .cons (.ret (.tup (.cons (.var 0) (.cons (.blt .tuple (.blt .ssorted (.var 2))) .nil)))) (
 .nil))
noncomputable def d_fan_of:DefS:=⟨"fan_of",["begin","steps"],["begin","steps"],top 14⟩
noncomputable def jd4:E:=.comp (.call 2 [] (.cons (.var 0) (.cons (.blt .len (.var 1)) .nil))) [0] true 1 [0] (.seq (.var 1)) .none
noncomputable def jaF:Ss:=
 .cons (.ife (.not (.call 1 [] (.cons (.var 0) .nil))) (.cons (.rai 2 (.lit (.str "the begin is no tally"))) (
  .nil)) (.nil)) (
 .cons (.ife (.not (.blt .all (jd4))) (.cons (.rai 2 (.lit (.str "a step is no tally with as many numbers as the begin"))) (
  .nil)) (.nil)) (
 .cons (.ret (.call 3 [] (.cons (.var 0) (.cons (.var 1) .nil)))) (
 .nil)))
noncomputable def d_are_steps:DefS:=⟨"are_steps",["thing","long"],["thing","long"],top 15⟩
noncomputable def jcp:E:=.comp (.and (.call 2 [] (.cons (.var 0) (.cons (.var 1) .nil))) (.blt .any (.var 0))) [0] true 1 [1] (.seq (.var 0)) .none
noncomputable def jbA:E:=.comp (.cmp .lt (.var 0) (.var 1)) [0,1] false 2 [] (.zip (.var 0) (.slc (.var 0) (.some (.lit (.int 1))) .none)) .none
noncomputable def ja7:Ss:=
 .cons (.ife (.not (.isi (.var 0) [.tuple])) (.cons (.ret (.lit (.bl false))) (
  .nil)) (.nil)) (
 .cons (.ife (.not (.blt .all (jcp))) (.cons (.ret (.lit (.bl false))) (
  .nil)) (.nil)) (
 .cons (.ret (.blt .all (jbA))) (
 .nil)))
noncomputable def d_is_fan:DefS:=⟨"is_fan",["thing"],["thing"],top 16⟩
noncomputable def jcq:Ss:=
 .cons (.ife (.or (.not (.isi (.var 0) [.tuple])) (.cmp .ne (.blt .len (.var 0)) (.lit (.int 2)))) (.cons (.ret (.lit (.bl false))) (
  .nil)) (.nil)) (
 .cons (.ret (.and (.call 1 [] (.cons (.idx (.var 0) (.lit (.int 0))) .nil)) (.call 5 [] (.cons (.idx (.var 0) (.lit (.int 1))) (.cons (.blt .len (.idx (.var 0) (.lit (.int 0)))) .nil))))) (
 .nil))
noncomputable def d_is_set:DefS:=⟨"is_set",["thing"],["thing"],top 17⟩
noncomputable def jcL:E:=.comp (.call 6 [] (.cons (.var 0) .nil)) [0] true 1 [] (.seq (.var 0)) .none
noncomputable def jd5:E:=.comp (.cmp .eq (.blt .len (.idx (.var 0) (.lit (.int 0)))) (.blt .len (.idx (.idx (.var 1) (.lit (.int 0))) (.lit (.int 0))))) [0] true 1 [0] (.seq (.var 0)) .none
noncomputable def jcr:Ss:=
 .cons (.ife (.or (.not (.isi (.var 0) [.tuple])) (.not (.blt .all (jcL)))) (.cons (.ret (.lit (.bl false))) (
  .nil)) (.nil)) (
 .cons (.ret (.blt .all (jd5))) (
 .nil))
noncomputable def d__law_whole:DefS:=⟨"_law_whole",["_law_found"],["_law_found"],top 19⟩
noncomputable def jbK:Ss:=
 .cons (.ret (.and (.isi (.var 0) [.int]) (.not (.isi (.var 0) [.bool])))) (
 .nil)
noncomputable def d__law_row:DefS:=⟨"_law_row",["_law_found","_law_due","_law_part"],["_law_found","_law_due"],top 20⟩
noncomputable def jbg:Ss:=
 .cons (.ife (.not (.call 8 [] (.cons (.var 2) .nil))) (.cons (.ret (.lit (.bl false))) (
  .nil)) (.nil)) (
 .nil)
noncomputable def jbs:Ss:=
 .cons (.ife (.or (.not (.isi (.var 0) [.tuple])) (.cmp .ne (.blt .len (.var 0)) (.blt .len (.var 1)))) (.cons (.ret (.lit (.bl false))) (
  .nil)) (.nil)) (
 .cons (.loop [2] true (.seq (.var 0)) jbg) (
 .cons (.ret (.cmp .eq (.var 0) (.var 1))) (
 .nil)))
noncomputable def d__law_number:DefS:=⟨"_law_number",["_law_cell","_law_k","_law_number_here"],["_law_cell","_law_k"],top 21⟩
noncomputable def jaG:Ss:=
 .cons (.asg 2 (.bin .mod (.bin .mul (.bin .add (.var 0) (.lit (.int 3))) (.idx (.lst (.cons (.lit (.int 48271)) (.cons (.lit (.int 69621)) (.cons (.lit (.int 39373)) (.cons (.lit (.int 16807)) .nil))))) (.var 1))) (.lit (.int 999999999989)))) (
 .cons (.ret (.idx (.lst (.cons (.bin .mod (.bin .mul (.var 2) (.lit (.int 1001))) (.bin .add (.bin .pow (.lit (.int 10)) (.lit (.int 15))) (.lit (.int 1)))) (.cons (.bin .mod (.bin .fdiv (.var 2) (.lit (.int 3))) (.lit (.int 10))) (.cons (.lit (.int 0)) (.cons (.bin .pow (.lit (.int 10)) (.lit (.int 15))) .nil))))) (.idx (.lst (.cons (.lit (.int 0)) (.cons (.lit (.int 0)) (.cons (.lit (.int 1)) (.cons (.lit (.int 1)) (.cons (.lit (.int 2)) (.cons (.lit (.int 3)) .nil))))))) (.bin .mod (.var 2) (.lit (.int 6)))))) (
 .nil))
noncomputable def d__law_tally:DefS:=⟨"_law_tally",["_law_cell","_law_long"],["_law_cell","_law_long"],top 22⟩
noncomputable def jb2:E:=.comp (.call 10 [] (.cons (.var 1) (.cons (.var 0) .nil))) [0] true 1 [0] (.rng1 (.var 1)) .none
noncomputable def jaS:Ss:=
 .cons (.ret (.blt .tuple (jb2))) (
 .nil)
noncomputable def d__law_steps:DefS:=⟨"_law_steps",["_law_cell","_law_long","_law_steps_here","_law_k","_law_step"],["_law_cell","_law_long"],top 23⟩
noncomputable def jbk:E:=.comp (.bin .mod (.var 0) (.lit (.int 3))) [0] true 1 [] (.seq (.var 4)) .none
noncomputable def jaM:Ss:=
 .cons (.asg 4 (.call 11 [] (.cons (.bin .add (.bin .fdiv (.var 0) (.lit (.int 6))) (.bin .mul (.bin .mul (.var 3) (.var 3)) (.lit (.int 7919)))) (.cons (.var 1) .nil)))) (
 .cons (.ife (.cmp .eq (.bin .mod (.bin .fdiv (.var 0) (.lit (.int 36))) (.lit (.int 2))) (.lit (.int 0))) (.cons (.asg 4 (.blt .tuple (jbk))) (
  .nil)) (.nil)) (
 .cons (.app 2 (.var 4)) (
 .nil)))
noncomputable def jaT:Ss:=
 .cons (.asg 2 (.lst (.nil))) (
 .cons (.loop [3] true (.rng1 (.bin .add (.lit (.int 1)) (.bin .mod (.var 0) (.lit (.int 6))))) jaM) (
 .cons (.ife (.cmp .eq (.bin .mod (.bin .fdiv (.var 0) (.lit (.int 72))) (.lit (.int 3))) (.lit (.int 1))) (.cons (.app 2 (.bin .mul (.tup (.cons (.lit (.int 0)) .nil)) (.var 1))) (
  .nil)) (.nil)) (
 .cons (.ife (.cmp .eq (.bin .mod (.bin .fdiv (.var 0) (.lit (.int 216))) (.lit (.int 3))) (.lit (.int 1))) (.cons (.ins 2 (.lit (.int 0)) (.idx (.var 2) (.neg (.lit (.int 1))))) (
  .nil)) (.nil)) (
 .cons (.ret (.var 2)) (
 .nil)))))
noncomputable def d__law_fan:DefS:=⟨"_law_fan",["_law_begin","_law_steps_here","_law_kept","_law_step"],["_law_begin","_law_steps_here"],top 24⟩
noncomputable def jbh:Ss:=
 .cons (.ife (.and (.cmp .notin (.var 3) (.var 2)) (.cmp .gt (.blt .sum (.var 3)) (.lit (.int 0)))) (.cons (.app 2 (.var 3)) (
  .nil)) (.nil)) (
 .nil)
noncomputable def jbt:Ss:=
 .cons (.asg 2 (.lst (.nil))) (
 .cons (.loop [3] true (.seq (.blt .sorted (.var 1))) jbh) (
 .cons (.ret (.tup (.cons (.var 0) (.cons (.blt .tuple (.var 2)) .nil)))) (
 .nil)))
noncomputable def d__law_alike:DefS:=⟨"_law_alike",["_law_found","_law_due","_law_k"],["_law_found","_law_due"],top 25⟩
noncomputable def jaN:Ss:=
 .cons (.ife (.not (.call 9 [] (.cons (.idx (.idx (.var 0) (.lit (.int 1))) (.var 2)) (.cons (.idx (.idx (.var 1) (.lit (.int 1))) (.var 2)) .nil)))) (.cons (.ret (.lit (.bl false))) (
  .nil)) (.nil)) (
 .nil)
noncomputable def jaU:Ss:=
 .cons (.ife (.or (.not (.isi (.var 0) [.tuple])) (.or (.cmp .ne (.blt .len (.var 0)) (.lit (.int 2))) (.not (.call 9 [] (.cons (.idx (.var 0) (.lit (.int 0))) (.cons (.idx (.var 1) (.lit (.int 0))) .nil)))))) (.cons (.ret (.lit (.bl false))) (
  .nil)) (.nil)) (
 .cons (.ife (.or (.not (.isi (.idx (.var 0) (.lit (.int 1))) [.tuple])) (.cmp .ne (.blt .len (.idx (.var 0) (.lit (.int 1)))) (.blt .len (.idx (.var 1) (.lit (.int 1)))))) (.cons (.ret (.lit (.bl false))) (
  .nil)) (.nil)) (
 .cons (.loop [2] true (.rng1 (.blt .len (.idx (.var 1) (.lit (.int 1))))) jaN) (
 .cons (.ret (.lit (.bl true))) (
 .nil))))
noncomputable def d__law_refused:DefS:=⟨"_law_refused",["_law_begin","_law_steps_here","_law_own","error"],["_law_begin","_law_steps_here"],top 26⟩
noncomputable def jaW:Ss:=
 .cons (.asg 2 (.lst (.cons (.isi (.var 3) [.exc 2]) (.cons (.isi (.var 3) [.verr]) .nil)))) (
 .cons (.app 2 (.isi (.var 3) [.exc 1,.exc 3,.exc 4,.exc 5])) (
 .nil))
noncomputable def jaz:Ss:=
 .cons (.asg 2 (.lst (.nil))) (
 .cons (.tryx (.expr (.call 4 [] (.cons (.var 0) (.cons (.var 1) .nil)))) 0 (some 3) jaW) (
 .cons (.ret (.cmp .eq (.var 2) (.lst (.cons (.lit (.bl true)) (.cons (.lit (.bl true)) (.cons (.lit (.bl false)) .nil)))))) (
 .nil)))
noncomputable def d__law_odd:DefS:=⟨"_law_odd",["_law_one","_law_cell","_law_some"],["_law_one","_law_cell"],top 27⟩
noncomputable def jbu:Ss:=
 .cons (.asg 2 (.lst (.cons (.bin .add (.var 0) (.tup (.cons (.lit (.int 1)) .nil))) (.cons (.slc (.var 0) (.some (.lit (.int 1))) .none) (.cons (.blt .list (.var 0)) (.cons (.lit .non) (.cons (.lit (.bl true)) (.cons (.lit (.int 3)) (.cons (.lit (.str "1")) (.cons (.tup (.cons (.var 0) .nil)) (.cons (.bin .add (.slc (.var 0) .none (.some (.neg (.lit (.int 1))))) (.tup (.cons (.neg (.lit (.int 1))) .nil))) (.cons (.bin .add (.slc (.var 0) .none (.some (.neg (.lit (.int 1))))) (.tup (.cons (.lit .non) .nil))) .nil)))))))))))) (
 .cons (.ret (.idx (.var 2) (.bin .mod (.var 1) (.lit (.int 10))))) (
 .nil))
noncomputable def d__law_made:DefS:=⟨"_law_made",["_law_cell","_law_long","_law_begin","_law_steps_here","_law_due","_law_handed","_law_at"],["_law_cell","_law_long"],top 28⟩
noncomputable def ja8:Ss:=
 .cons (.asg 2 (.call 11 [] (.cons (.bin .fdiv (.var 0) (.lit (.int 5))) (.cons (.var 1) .nil)))) (
 .cons (.asg 3 (.call 12 [] (.cons (.var 0) (.cons (.var 1) .nil)))) (
 .cons (.asg 4 (.call 13 [] (.cons (.var 2) (.cons (.var 3) .nil)))) (
 .cons (.asg 5 (.blt .list (.var 3))) (
 .cons (.ife (.or (.not (.call 14 [] (.cons (.call 4 [] (.cons (.var 2) (.cons (.var 5) .nil))) (.cons (.var 4) .nil)))) (.cmp .ne (.var 5) (.var 3))) (.cons (.ret (.lit .non)) (
  .nil)) (.nil)) (
 .cons (.ife (.or (.not (.call 14 [] (.cons (.call 4 [] (.cons (.var 2) (.cons (.blt .revt (.var 3)) .nil))) (.cons (.var 4) .nil)))) (.not (.call 14 [] (.cons (.call 4 [] (.cons (.var 2) (.cons (.tup (.nil)) .nil))) (.cons (.tup (.cons (.var 2) (.cons (.tup (.nil)) .nil))) .nil))))) (.cons (.ret (.lit .non)) (
  .nil)) (.nil)) (
 .cons (.asg 6 (.bin .mod (.bin .fdiv (.var 0) (.lit (.int 7))) (.bin .add (.blt .len (.var 3)) (.lit (.int 1))))) (
 .cons (.ife (.not (.call 15 [] (.cons (.var 2) (.cons (.bin .add (.bin .add (.slc (.var 3) .none (.some (.var 6))) (.lst (.cons (.call 16 [] (.cons (.var 2) (.cons (.bin .fdiv (.var 0) (.lit (.int 50))) .nil))) .nil))) (.slc (.var 3) (.some (.var 6)) .none)) .nil)))) (.cons (.ret (.lit .non)) (
  .nil)) (.nil)) (
 .cons (.ife (.not (.call 15 [] (.cons (.call 16 [] (.cons (.var 2) (.cons (.bin .fdiv (.var 0) (.lit (.int 11))) .nil))) (.cons (.var 3) .nil)))) (.cons (.ret (.lit .non)) (
  .nil)) (.nil)) (
 .cons (.ret (.var 4)) (
 .nil))))))))))
noncomputable def d__law_is:DefS:=⟨"_law_is",["_law_thing","_law_due","_law_found"],["_law_thing","_law_due"],top 29⟩
noncomputable def jbL:Ss:=
 .cons (.asg 2 (.call 7 [] (.cons (.var 0) .nil))) (
 .cons (.ret (.and (.isi (.var 2) [.bool]) (.cmp .eq (.var 2) (.var 1)))) (
 .nil))
noncomputable def d__law_spoilt:DefS:=⟨"_law_spoilt",["_law_fan_here","_law_cell","_law_begin","_law_steps_here","_law_at","_law_some"],["_law_fan_here","_law_cell"],top 30⟩
noncomputable def jaH:Ss:=
 .cons (.unp [2,3] (.var 0)) (
 .cons (.asg 4 (.bin .mod (.bin .fdiv (.var 1) (.lit (.int 9))) (.bin .add (.blt .len (.var 3)) (.lit (.int 1))))) (
 .cons (.asg 5 (.lst (.cons (.tup (.cons (.var 2) (.cons (.blt .list (.var 3)) .nil))) (.cons (.lst (.cons (.var 2) (.cons (.var 3) .nil))) (.cons (.tup (.cons (.var 2) .nil)) (.cons (.tup (.cons (.var 2) (.cons (.var 3) (.cons (.var 3) .nil)))) (.cons (.tup (.cons (.blt .list (.var 2)) (.cons (.var 3) .nil))) .nil))))))) (
 .cons (.asg 5 (.bin .add (.var 5) (.lst (.cons (.tup (.cons (.var 2) (.cons (.bin .add (.bin .add (.slc (.var 3) .none (.some (.var 4))) (.tup (.cons (.bin .mul (.tup (.cons (.lit (.int 0)) .nil)) (.blt .len (.var 2))) .nil))) (.slc (.var 3) (.some (.var 4)) .none)) .nil))) (.cons (.tup (.cons (.bin .add (.var 2) (.tup (.cons (.lit (.int 0)) .nil))) (.cons (.bin .add (.var 3) (.tup (.cons (.tup (.cons (.lit (.int 1)) .nil)) .nil))) .nil))) (.cons (.var 2) .nil)))))) (
 .cons (.ife (.cmp .gt (.blt .len (.var 3)) (.lit (.int 0))) (.cons (.sub 5 (.lit (.int 0)) (.tup (.cons (.var 2) (.cons (.bin .add (.bin .add (.slc (.var 3) .none (.some (.var 4))) (.tup (.cons (.idx (.var 3) (.bin .mod (.var 4) (.blt .len (.var 3)))) .nil))) (.slc (.var 3) (.some (.var 4)) .none)) .nil)))) (
  .nil)) (.nil)) (
 .cons (.ife (.cmp .gt (.blt .len (.var 3)) (.lit (.int 1))) (.cons (.sub 5 (.lit (.int 2)) (.tup (.cons (.var 2) (.cons (.blt .revt (.var 3)) .nil)))) (
  .nil)) (.nil)) (
 .cons (.ret (.idx (.var 5) (.bin .mod (.var 1) (.lit (.int 8))))) (
 .nil)))))))
noncomputable def d_law:DefS:=⟨"law",["_law_script","_law_cells","_law_long","_law_fans","_law_k","_law_due","_law_cell","_law_at","_law_longer","_law_thing"],["_law_script"],top 31⟩
noncomputable def jkW:E:=.comp (.bin .mod (.var 0) (.bin .pow (.lit (.int 10)) (.lit (.int 30)))) [0] true 1 [] (.seq (.slc (.var 0) .none (.some (.lit (.int 63))))) .none
noncomputable def jeJ:Ss:=
 .cons (.asg 5 (.call 17 [] (.cons (.bin .add (.bin .mul (.idx (.var 1) (.var 4)) (.lit (.int 3))) (.var 4)) (.cons (.var 2) .nil)))) (
 .cons (.ife (.cmp .isn (.var 5) (.lit .non)) (.cons (.ret (.lit (.bl false))) (
  .nil)) (.nil)) (
 .cons (.app 3 (.var 5)) (
 .nil)))
noncomputable def jeK:Ss:=
 .cons (.asg 6 (.bin .fdiv (.idx (.var 1) (.var 4)) (.lit (.int 3)))) (
 .cons (.asg 7 (.bin .mod (.var 6) (.blt .len (.var 3)))) (
 .cons (.ife (.not (.call 18 [] (.cons (.blt .tuple (.bin .add (.bin .add (.slc (.var 3) .none (.some (.var 7))) (.lst (.cons (.call 19 [] (.cons (.idx (.var 3) (.var 7)) (.cons (.bin .fdiv (.var 6) (.lit (.int 70))) .nil))) .nil))) (.slc (.var 3) (.some (.bin .add (.var 7) (.lit (.int 1)))) .none))) (.cons (.lit (.bl false)) .nil)))) (.cons (.ret (.lit (.bl false))) (
  .nil)) (.nil)) (
 .cons (.asg 8 (.tup (.cons (.bin .add (.slc (.idx (.idx (.var 3) (.var 7)) (.lit (.int 0))) .none (.some (.lit (.int 3)))) (.tup (.cons (.lit (.int 0)) .nil))) (.cons (.tup (.nil)) .nil)))) (
 .cons (.ife (.and (.cmp .lt (.var 2) (.lit (.int 4))) (.not (.call 18 [] (.cons (.blt .tuple (.bin .add (.bin .add (.slc (.var 3) .none (.some (.var 7))) (.lst (.cons (.var 8) .nil))) (.slc (.var 3) (.some (.var 7)) .none))) (.cons (.lit (.bl false)) .nil))))) (.cons (.ret (.lit (.bl false))) (
  .nil)) (.nil)) (
 .cons (.ife (.not (.call 18 [] (.cons (.blt .tuple (.slc (.var 3) (.some (.var 7)) .none)) (.cons (.lit (.bl true)) .nil)))) (.cons (.ret (.lit (.bl false))) (
  .nil)) (.nil)) (
 .nil))))))
noncomputable def jeL:Ss:=
 .cons (.ife (.not (.call 18 [] (.cons (.var 9) (.cons (.lit (.bl false)) .nil)))) (.cons (.ret (.lit (.bl false))) (
  .nil)) (.nil)) (
 .nil)
noncomputable def jkX:Ss:=
 .cons (.asg 1 (.bin .add (jkW) (.lst (.cons (.lit (.int 41)) .nil)))) (
 .cons (.asg 2 (.bin .add (.lit (.int 1)) (.bin .mod (.idx (.var 1) (.lit (.int 0))) (.lit (.int 4))))) (
 .cons (.asg 3 (.lst (.nil))) (
 .cons (.loop [4] true (.rng1 (.blt .len (.var 1))) jeJ) (
 .cons (.ife (.or (.not (.call 18 [] (.cons (.blt .tuple (.var 3)) (.cons (.lit (.bl true)) .nil)))) (.or (.not (.call 18 [] (.cons (.tup (.nil)) (.cons (.lit (.bl true)) .nil)))) (.not (.call 18 [] (.cons (.blt .list (.var 3)) (.cons (.lit (.bl false)) .nil)))))) (.cons (.ret (.lit (.bl false))) (
  .nil)) (.nil)) (
 .cons (.loop [4] true (.rng1 (.min2 (.lit (.int 12)) (.blt .len (.var 3)))) jeK) (
 .cons (.loop [9] true (.seq (.lst (.cons (.lit .non) (.cons (.lit (.bl true)) (.cons (.lit (.int 5)) (.cons (.lit (.str "-")) (.cons (.emp) (.cons (.tup (.cons (.tup (.nil)) .nil)) (.cons (.tup (.cons (.lit .non) .nil)) (.cons (.idx (.var 3) (.lit (.int 0))) .nil)))))))))) jeL) (
 .cons (.ret (.lit (.bl true))) (
 .nil))))))))
noncomputable def T:Tab:=⟨["is_number","is_tally","is_tally_as_long","plain_fan","fan_of","are_steps","is_fan","is_set","_law_whole","_law_row","_law_number","_law_tally","_law_steps","_law_fan","_law_alike","_law_refused","_law_odd","_law_made","_law_is","_law_spoilt","law"],[[],[],[],[],[],[],[],[],[],[],[],[],[],[],[],[],[],[],[],[],[]],[("MOST_NUMBERS",(.int 4))],["TallyError","NoTally","NoFan","NoText","NoTree","TooGreat"],false⟩
noncomputable def U (i j:Nat):Bool:=(([[true,false,false,false,false,false],[true,true,false,false,false,false],[true,false,true,false,false,false],[true,false,false,true,false,false],[true,false,false,false,true,false],[true,false,false,false,false,true]]:List (List Bool)).getD i []).getD j false
noncomputable def DS:List DefS:=[d_is_number,d_is_tally,d_is_tally_as_long,d_plain_fan,d_fan_of,d_are_steps,d_is_fan,d_is_set,d__law_whole,d__law_row,d__law_number,d__law_tally,d__law_steps,d__law_fan,d__law_alike,d__law_refused,d__law_odd,d__law_made,d__law_is,d__law_spoilt,d_law]
noncomputable def P:List Def:=[⟨1,1,jb9⟩,⟨1,1,jbr⟩,⟨2,2,jao⟩,⟨2,3,ja6⟩,⟨2,2,jaF⟩,⟨2,2,ja7⟩,⟨1,1,jcq⟩,⟨1,1,jcr⟩,⟨1,1,jbK⟩,⟨2,3,jbs⟩,⟨2,3,jaG⟩,⟨2,2,jaS⟩,⟨2,5,jaT⟩,⟨2,4,jbt⟩,⟨2,3,jaU⟩,⟨2,4,jaz⟩,⟨2,3,jbu⟩,⟨2,7,ja8⟩,⟨2,3,jbL⟩,⟨2,6,jaH⟩,⟨1,10,jkX⟩]
theorem jgY:FnScope d_is_number.N d_is_number.ps (defScope d_is_number.st):=⟨rfl,rfl,rfl,by decide +kernel,rfl,by decide +kernel,by decide +kernel⟩
theorem jgZ:(mapO (trS T 60 false (defScope d_is_number.st).names d_is_number.N) (defBody d_is_number.st)).map toSs=some jb9:=by kernel_rfl
theorem jg0:BindP d_is_number:=fun _ _ _ _ _ _=>jpR fun _=>rfl
theorem jiL:FnScope d_is_tally.N d_is_tally.ps (defScope d_is_tally.st):=⟨rfl,rfl,rfl,by decide +kernel,rfl,by decide +kernel,by decide +kernel⟩
theorem jiM:(mapO (trS T 60 false (defScope d_is_tally.st).names d_is_tally.N) (defBody d_is_tally.st)).map toSs=some jbr:=by kernel_rfl
theorem jiN:BindP d_is_tally:=fun _ _ _ _ _ _=>jpR fun _=>rfl
theorem jcs:FnScope d_is_tally_as_long.N d_is_tally_as_long.ps (defScope d_is_tally_as_long.st):=⟨rfl,rfl,rfl,by decide +kernel,rfl,by decide +kernel,by decide +kernel⟩
theorem jct:(mapO (trS T 60 false (defScope d_is_tally_as_long.st).names d_is_tally_as_long.N) (defBody d_is_tally_as_long.st)).map toSs=some jao:=by kernel_rfl
theorem jcu:BindP d_is_tally_as_long:=fun _ _ _ _ _ _=>len2 fun _ _=>rfl
theorem jg1:FnScope d_plain_fan.N d_plain_fan.ps (defScope d_plain_fan.st):=⟨rfl,rfl,rfl,by decide +kernel,rfl,by decide +kernel,by decide +kernel⟩
theorem jg2:(mapO (trS T 60 false (defScope d_plain_fan.st).names d_plain_fan.N) (defBody d_plain_fan.st)).map toSs=some ja6:=by kernel_rfl
theorem jg3:BindP d_plain_fan:=fun _ _ _ _ _ _=>len2 fun _ _=>rfl
theorem jnd:FnScope d_fan_of.N d_fan_of.ps (defScope d_fan_of.st):=⟨rfl,rfl,rfl,by decide +kernel,rfl,by decide +kernel,by decide +kernel⟩
theorem jne:(mapO (trS T 60 false (defScope d_fan_of.st).names d_fan_of.N) (defBody d_fan_of.st)).map toSs=some jaF:=by kernel_rfl
theorem jnf:BindP d_fan_of:=fun _ _ _ _ _ _=>len2 fun _ _=>rfl
theorem jg4:FnScope d_are_steps.N d_are_steps.ps (defScope d_are_steps.st):=⟨rfl,rfl,rfl,by decide +kernel,rfl,by decide +kernel,by decide +kernel⟩
theorem jg5:(mapO (trS T 60 false (defScope d_are_steps.st).names d_are_steps.N) (defBody d_are_steps.st)).map toSs=some ja7:=by kernel_rfl
theorem jg6:BindP d_are_steps:=fun _ _ _ _ _ _=>len2 fun _ _=>rfl
theorem jng:FnScope d_is_fan.N d_is_fan.ps (defScope d_is_fan.st):=⟨rfl,rfl,rfl,by decide +kernel,rfl,by decide +kernel,by decide +kernel⟩
theorem jnh:(mapO (trS T 60 false (defScope d_is_fan.st).names d_is_fan.N) (defBody d_is_fan.st)).map toSs=some jcq:=by kernel_rfl
theorem jni:BindP d_is_fan:=fun _ _ _ _ _ _=>jpR fun _=>rfl
theorem jnj:FnScope d_is_set.N d_is_set.ps (defScope d_is_set.st):=⟨rfl,rfl,rfl,by decide +kernel,rfl,by decide +kernel,by decide +kernel⟩
theorem jnk:(mapO (trS T 60 false (defScope d_is_set.st).names d_is_set.N) (defBody d_is_set.st)).map toSs=some jcr:=by kernel_rfl
theorem jnl:BindP d_is_set:=fun _ _ _ _ _ _=>jpR fun _=>rfl
theorem jfW:FnScope d__law_whole.N d__law_whole.ps (defScope d__law_whole.st):=⟨rfl,rfl,rfl,by decide +kernel,rfl,by decide +kernel,by decide +kernel⟩
theorem jfX:(mapO (trS T 60 false (defScope d__law_whole.st).names d__law_whole.N) (defBody d__law_whole.st)).map toSs=some jbK:=by kernel_rfl
theorem jfY:BindP d__law_whole:=fun _ _ _ _ _ _=>jpR fun _=>rfl
theorem jiO:FnScope d__law_row.N d__law_row.ps (defScope d__law_row.st):=⟨rfl,rfl,rfl,by decide +kernel,rfl,by decide +kernel,by decide +kernel⟩
theorem jiP:(mapO (trS T 60 false (defScope d__law_row.st).names d__law_row.N) (defBody d__law_row.st)).map toSs=some jbs:=by kernel_rfl
theorem jiQ:BindP d__law_row:=fun _ _ _ _ _ _=>len2 fun _ _=>rfl
theorem jeM:FnScope d__law_number.N d__law_number.ps (defScope d__law_number.st):=⟨rfl,rfl,rfl,by decide +kernel,rfl,by decide +kernel,by decide +kernel⟩
theorem jeN:(mapO (trS T 60 false (defScope d__law_number.st).names d__law_number.N) (defBody d__law_number.st)).map toSs=some jaG:=by kernel_rfl
theorem jeO:BindP d__law_number:=fun _ _ _ _ _ _=>len2 fun _ _=>rfl
theorem jfZ:FnScope d__law_tally.N d__law_tally.ps (defScope d__law_tally.st):=⟨rfl,rfl,rfl,by decide +kernel,rfl,by decide +kernel,by decide +kernel⟩
theorem jf0:(mapO (trS T 60 false (defScope d__law_tally.st).names d__law_tally.N) (defBody d__law_tally.st)).map toSs=some jaS:=by kernel_rfl
theorem jf1:BindP d__law_tally:=fun _ _ _ _ _ _=>len2 fun _ _=>rfl
theorem jf2:FnScope d__law_steps.N d__law_steps.ps (defScope d__law_steps.st):=⟨rfl,rfl,rfl,by decide +kernel,rfl,by decide +kernel,by decide +kernel⟩
theorem jf3:(mapO (trS T 60 false (defScope d__law_steps.st).names d__law_steps.N) (defBody d__law_steps.st)).map toSs=some jaT:=by kernel_rfl
theorem jf4:BindP d__law_steps:=fun _ _ _ _ _ _=>len2 fun _ _=>rfl
theorem jiR:FnScope d__law_fan.N d__law_fan.ps (defScope d__law_fan.st):=⟨rfl,rfl,rfl,by decide +kernel,rfl,by decide +kernel,by decide +kernel⟩
theorem jiS:(mapO (trS T 60 false (defScope d__law_fan.st).names d__law_fan.N) (defBody d__law_fan.st)).map toSs=some jbt:=by kernel_rfl
theorem jiT:BindP d__law_fan:=fun _ _ _ _ _ _=>len2 fun _ _=>rfl
theorem jf5:FnScope d__law_alike.N d__law_alike.ps (defScope d__law_alike.st):=⟨rfl,rfl,rfl,by decide +kernel,rfl,by decide +kernel,by decide +kernel⟩
theorem jf6:(mapO (trS T 60 false (defScope d__law_alike.st).names d__law_alike.N) (defBody d__law_alike.st)).map toSs=some jaU:=by kernel_rfl
theorem jf7:BindP d__law_alike:=fun _ _ _ _ _ _=>len2 fun _ _=>rfl
theorem jdE:FnScope d__law_refused.N d__law_refused.ps (defScope d__law_refused.st):=⟨rfl,rfl,rfl,by decide +kernel,rfl,by decide +kernel,by decide +kernel⟩
theorem jdF:(mapO (trS T 60 false (defScope d__law_refused.st).names d__law_refused.N) (defBody d__law_refused.st)).map toSs=some jaz:=by kernel_rfl
theorem jdG:BindP d__law_refused:=fun _ _ _ _ _ _=>len2 fun _ _=>rfl
theorem jiU:FnScope d__law_odd.N d__law_odd.ps (defScope d__law_odd.st):=⟨rfl,rfl,rfl,by decide +kernel,rfl,by decide +kernel,by decide +kernel⟩
theorem jiV:(mapO (trS T 60 false (defScope d__law_odd.st).names d__law_odd.N) (defBody d__law_odd.st)).map toSs=some jbu:=by kernel_rfl
theorem jiW:BindP d__law_odd:=fun _ _ _ _ _ _=>len2 fun _ _=>rfl
theorem jg7:FnScope d__law_made.N d__law_made.ps (defScope d__law_made.st):=⟨rfl,rfl,rfl,by decide +kernel,rfl,by decide +kernel,by decide +kernel⟩
theorem jg8:(mapO (trS T 60 false (defScope d__law_made.st).names d__law_made.N) (defBody d__law_made.st)).map toSs=some ja8:=by kernel_rfl
theorem jg9:BindP d__law_made:=fun _ _ _ _ _ _=>len2 fun _ _=>rfl
theorem jkY:FnScope d__law_is.N d__law_is.ps (defScope d__law_is.st):=⟨rfl,rfl,rfl,by decide +kernel,rfl,by decide +kernel,by decide +kernel⟩
theorem jkZ:(mapO (trS T 60 false (defScope d__law_is.st).names d__law_is.N) (defBody d__law_is.st)).map toSs=some jbL:=by kernel_rfl
theorem jk0:BindP d__law_is:=fun _ _ _ _ _ _=>len2 fun _ _=>rfl
theorem jeP:FnScope d__law_spoilt.N d__law_spoilt.ps (defScope d__law_spoilt.st):=⟨rfl,rfl,rfl,by decide +kernel,rfl,by decide +kernel,by decide +kernel⟩
theorem jeQ:(mapO (trS T 60 false (defScope d__law_spoilt.st).names d__law_spoilt.N) (defBody d__law_spoilt.st)).map toSs=some jaH:=by kernel_rfl
theorem jeR:BindP d__law_spoilt:=fun _ _ _ _ _ _=>len2 fun _ _=>rfl
theorem jtu:FnScope d_law.N d_law.ps (defScope d_law.st):=⟨rfl,rfl,rfl,by decide +kernel,rfl,by decide +kernel,by decide +kernel⟩
theorem jtv:(mapO (trS T 60 false (defScope d_law.st).names d_law.N) (defBody d_law.st)).map toSs=some jkX:=by kernel_rfl
theorem jtw:BindP d_law:=fun _ _ _ _ _ _=>jpR fun _=>rfl
end Law
namespace Law
open PySem L2 DJ
variable {W n:Nat}
noncomputable abbrev CD (W n:Nat):Calls:=jaa U W P n
theorem jt8 (ns:List Int):tu ns=.tup (ns.map D.int):=rfl
section
variable {G:Calls}{ρ ρ1 ρ2 ρ3:Rho}{a b c e e':E}{v1 v2 v3:Vl}{s:S}{ss:Ss}{bb:Bool}
theorem as1 (h:evE G U a ρ=.ok (v1,ρ1)):evAs G U (.cons a .nil) ρ=.ok ([v1],ρ1):=by simp only[evAs,h,R.bind_ok']
theorem as2 (h:evE G U a ρ=.ok (v1,ρ1))(h2:evE G U b ρ1=.ok (v2,ρ2)):evAs G U (.cons a (.cons b .nil)) ρ=.ok ([v1,v2],ρ2):=by simp only[evAs,h,h2,R.bind_ok']
theorem jn3 (h:evE G U e ρ=.ok (.dat (.bl false),ρ1)):evE G U (.and e e') ρ=.ok (.dat (.bl false),ρ1):=by simp only[evE,h,R.bind_ok',jcB,jvw,if_false]
theorem jk1 {x y:Bool}(h:evE G U e ρ=.ok (.dat (.bl x),ρ))(h':x=true->evE G U e' ρ=.ok (.dat (.bl y),ρ)):evE G U (.and e e') ρ=.ok (.dat (.bl (x && y)),ρ):=by
 cases x with
 |false=>exact jn3 h
 |true=>exact jr2 h (h' rfl)
theorem jn4 {k:Nat}(h:evS G U W s ρ=.err k):evSs G U W (.cons s ss) ρ=.err k:=by simp only[evSs,h,R.bind_err']
theorem jeS {x y:Ss}(h:evT G U c ρ=.ok (bb,ρ1)):evS G U W (.ife c x y) ρ=(if bb then evSs G U W x ρ1 else evSs G U W y ρ1):=by simp only[evS,h,R.bind_ok']
theorem jtx {x y:Bool}(h:evT G U c ρ=.ok (x,ρ))(h':x=false->evT G U a ρ=.ok (y,ρ)):evT G U (.or c a) ρ=.ok (x || y,ρ):=by
 cases x with
 |false=>exact jpV h (h' rfl)
 |true=>simp only[evT,h,R.bind_ok',if_true,Bool.true_or]
end
mutual
noncomputable def san:D->Bool
 |.exc _=>false
 |.tup xs=>sans xs
 |.lst xs=>sans xs
 |_=>true
noncomputable def sans:List D->Bool
 |[]=>true
 |x::r=>san x && sans r
end
theorem jcv:∀{xs:List D},sans xs=true->∀x∈xs,san x=true
 |[],_,x,hx=>by cases hx
 |y::r,h,x,hx=>by
  simp only[sans,jvv]at h;rcases List.mem_cons.mp hx with rfl | hx
  ·exact h.1
  ·exact jcv h.2 x hx
theorem jcM:∀{xs:List D},(∀x∈xs,san x=true)->sans xs=true
 |[],_=>by simp only[sans]
 |y::r,h=>by
  simp only[sans,h y juM,jcM fun x hx=>h x (juL _ hx),Bool.and_self]
theorem jaI (k:List Int):san (tu k)=true:=by
 unfold tu;simp only[san];exact jcM fun x hx=>by
  obtain⟨i,_,rfl⟩:=List.mem_map.mp hx;simp only[san]
noncomputable def isI:D->Bool
 |.int _=>true
 |_=>false
noncomputable def nnI:D->Bool
 |.int i=>decide (0<=i)
 |_=>false
theorem jty (d:D)(h:san d=true):CD W (n + 1) 0 [.dat d]=.ok (.dat (.bl (isI d)),[.no]):=by
 rw[CD,jai (d:=⟨1,1,jb9⟩) rfl rfl];cases d with
 |exc c=>simp only[san]at h;cases h
 |_=>rfl
theorem jp9 (d:D)(h:san d=true):CD W (n + 1) 8 [.dat d]=.ok (.dat (.bl (isI d)),[.no]):=by
 rw[CD,jai (d:=⟨1,1,jbK⟩) rfl rfl];cases d with
 |exc c=>simp only[san]at h;cases h
 |_=>rfl
noncomputable def jca:D->Nat
 |.tup xs=>xs.length
 |_=>0
noncomputable def jdu:D->Bool
 |.tup xs=>!(decide ((xs.length:Int) < 1) || decide ((4:Int) < xs.length)) && xs.all nnI
 |_=>false
theorem jha (d:D)(h:san d=true):CD W (n + 2) 1 [.dat d]=.ok (.dat (.bl (jdu d)),[.no]):=by
 rw[CD,jai (d:=⟨1,1,jbr⟩) rfl rfl];cases d with
 |exc c=>simp only[san]at h;cases h
 |tup xs=>
  simp only[san]at h;have hm:=jcv h;have e:evE (jaa U W P (n + 1)) U jcT [.dat (.tup xs)]=.ok (.tmp (.l (xs.map fun x=>.bl (nnI x))),[.dat (.tup xs)]):=by
   refine jbf (h:=fun x=>x) (g:=fun x=>.bl (nnI x)) (xs:=xs) (by rw[List.map_id'];rfl) (fun x hx=>?_) fun s=>rfl
   have h0:=jan (G:=jaa U W P (n + 1)) (U:=U) (k:=0) (ρ:=[.dat x]) (es:=.cons (.var 0) .nil) [x] rfl (jty (W:=W) (n:=n) x (hm x hx));cases x with
   |int i=>exact jr2 h0 rfl
   |_=>exact jn3 h0
  have t:evT (jaa U W P (n + 1)) U (.or (.cmp .lt (.blt .len (.var 0)) (.lit (.int 1))) (.cmp .gt (.blt .len (.var 0)) (.lit (.int 4)))) [.dat (.tup xs)]=.ok (decide ((xs.length:Int) < 1) || decide ((4:Int) < xs.length),[.dat (.tup xs)]):=jtx rfl fun _=>rfl;show (evSs (jaa U W P (n + 1)) U W jbr [.dat (.tup xs)]).bind (jcy 1)=_;unfold jbr;rw[jah (ρ':=[.dat (.tup xs)]) rfl];simp only[jdu];cases hb:(decide ((xs.length:Int) < 1) || decide ((4:Int) < xs.length))with
  |true=>
   rw[hb]at t;rw[jeH (by rw[jeS t];rfl)]
   rfl
  |false=>
   rw[hb]at t;rw[jah (by rw[jeS t];rfl)]
   simp_arith[e,bfD,jby]
   simp only[List.all_map,Bool.not_false,Bool.true_and];rfl
 |_=>rfl
noncomputable def jbM (d:D)(l:Nat):Bool:=jdu d && (jca d == l)
theorem jeT {d:D}(h:jdu d=true):∃xs,d=.tup xs/\1<=xs.length/\xs.length<=4/\∀x∈xs,∃i:Int,x=.int i/\0<=i:=by
 cases d with
 |tup xs=>
  simp only[jdu,jvv,Bool.not_eq_true',Bool.or_eq_false_iff,decide_eq_false_iff_not,ju3]at h;refine⟨xs,rfl,by omega,by omega,fun x hx=>?_⟩
  have:=h.2 x hx;cases x with
  |int i=>exact⟨i,rfl,of_decide_eq_true this⟩
  |_=>cases this
 |_=>cases h
theorem jn5 (d:D)(l:Nat)(h:san d=true):CD W (n + 3) 2 [.dat d,.dat (.int l)]=.ok (.dat (.bl (jbM d l)),[.no,.no]):=by
 rw[CD,jai (d:=⟨2,2,jao⟩) rfl rfl];have h0:=jan (G:=jaa U W P (n + 2)) (U:=U) (k:=1) (ρ:=[.dat d,.dat (.int l)]) (es:=.cons (.var 0) .nil) [d] rfl (jha (W:=W) (n:=n) d h);have e:=jk1 (e':=.cmp .eq (.blt .len (.var 0)) (.var 1)) (y:=jca d == l) h0 fun ht=>by
  obtain⟨xs,rfl,_⟩:=jeT ht;simp_arith[];simp only[jca];congr 4;rw[Bool.eq_iff_iff];simp only[beq_iff_eq];omega
 show (evSs (jaa U W P (n + 2)) U W jao [.dat d,.dat (.int l)]).bind (jcy 2)=_;unfold jao;rw[jeH (jkK e)];rfl
theorem jf8 {α:Type}{f:D->Rho->R (Option D×Rho)}{h g:α->D}{p:α->Bool}{ρ:Rho}:∀{xs:List α},(∀x∈xs,f (h x) ρ=.ok (if p x then some (g x)else none,ρ))->compGo f (xs.map h) ρ=.ok ((xs.filter p).map g,ρ)
 |[],_=>rfl
 |x::xs,e=>by
  simp only[juR,compGo,e x juM,R.bind_ok',jf8 fun y hy=>e y (juL _ hy),List.filter_cons];cases p x <;> rfl
noncomputable def nz (k:List Int):Bool:=(k.map (· != 0)).any id
theorem jcN:∀(k:List Int),jau (k.map D.int)=some (k.map (· != 0))
 |[]=>rfl
 |a::r=>by simp only[juR,jau,jcN r,Option.map_some]
noncomputable def stp (ss:List (List Int)):List (List Int):=ja9 (jbX (ss.filter nz))
noncomputable def jar (b:List Int)(ss:List (List Int)):D:=.tup [tu b,.tup (ss.map tu)]
theorem jeU:∀(l:List (List Int)),jbc (l.map tu)=some l
 |[]=>rfl
 |k::l=>by simp only[juR,tu,jbc,jbT];rw[jeU l]
theorem jeV:∀(l:List (List Int)),(jbX l).length<=l.length
 |[]=>jvq _
 |x::r=>by
  simp only[jbX];have:=jeV r;split
  ·simp;omega
  ·simp;omega
theorem jhK {l:List (List Int)}(h0:∀k∈l,k≠[])(hl:l.length < 64):jet l=.ok (.tmp (.l ((ja9 l).map tu))):=by
 unfold jet;rw[if_pos]
 ·rfl
 ·simp only[jvv,ju3,decide_eq_true_eq];refine⟨fun k hk=>?_,hl⟩;have:=h0 k hk;cases k with
  |nil=>exact absurd rfl this
  |cons _ _=>rfl
theorem jtz {l:List (List Int)}(h0:∀k∈l,k≠[])(hl:l.length < 64):bfD .ssorted (.lst (l.map tu))=.ok (.tmp (.l ((ja9 (jbX l)).map tu))):=by
 have ho:=jeV l;simp only[bfD,jaA,R.bind_ok',jeU];rw[if_pos (by omega)]
 exact jhK (fun k hk=>h0 k (onceK_mem.mp hk)) (by omega)
theorem jf9 {sq:D}{xs:List D}(h:jaA sq=.ok xs){ρ:Rho}:jaB (.dat sq) ρ=.ok (xs,[],ρ):=by
 simp only[jaB,h,R.bind_ok']
theorem jqa (b:List Int)(sq:D)(ss:List (List Int))(hs:jaA sq=.ok (ss.map tu))(h0:∀k∈ss,k≠[])(hl:ss.length < 64):CD W (n + 1) 3 [.dat (tu b),.dat sq]=.ok (.dat (jar b (stp ss)),[.no,.no]):=by
 rw[CD,jai (d:=⟨2,3,ja6⟩) rfl rfl];have e1:evE (jaa U W P n) U jbz [.dat (tu b),.dat sq,.no]=.ok (.tmp (.l ((ss.filter nz).map tu)),[.dat (tu b),.dat sq,.no]):=by
  unfold jbz;simp only[evE,evI,ju4,ju5,R.bind_ok',jf9 hs];rw[jf8 (h:=tu) (g:=tu) (p:=nz)]
  ·rfl
  ·intro k _;have e:(putT [0] true (tu k) (jfA 1 [] [.dat (tu b),.dat sq,.no]))=.ok [.dat (tu k)]:=rfl;have t:evT (jaa U W P n) U (.blt .any (.var 0)) [.dat (tu k)]=.ok (nz k,[.dat (tu k)]):=by
    simp only[evT,evE,ju4,R.bind_ok',ja5,bfD,tu,jdt,jcN,jnc];rfl
   rw[e];simp only[R.bind_ok',t];cases nz k <;> rfl
 have e2:=jtz (l:=ss.filter nz) (fun k hk=>h0 k (List.mem_filter.mp hk).1) (Nat.lt_of_le_of_lt (List.length_filter_le _ _) hl);show (evSs (jaa U W P n) U W ja6 [.dat (tu b),.dat sq,.no]).bind (jcy 2)=_;unfold ja6;rw[jah (jr1 e1 (by simp))]
 show (evSs (jaa U W P n) U W _ [.dat (tu b),.dat sq,.own (.l ((ss.filter nz).map tu)) false false]).bind (jcy 2)=_;simp_arith[e2];rfl
theorem jnm {G:Calls}{a:E}{ρ:Rho}{α:Type}{xs:List α}{g:α->Bool}(h:evE G U a ρ=.ok (.tmp (.l (xs.map fun x=>.bl (g x))),ρ)):evT G U (.blt .all a) ρ=.ok (xs.all g,ρ):=by
 simp only[evT,h,R.bind_ok',jbq,jgG,bfD,jcn,jby,ja5,jnc,List.all_map];rfl
theorem jsc {G:Calls}{a:E}{ρ:Rho}{α:Type}{xs:List α}{g:α->Bool}(h:evE G U a ρ=.ok (.tmp (.l (xs.map fun x=>.bl (g x))),ρ)):evE G U (.blt .all a) ρ=.ok (.dat (.bl (xs.all g)),ρ):=by
 simp only[evE,h,R.bind_ok',jbq,jgG,bfD,jcn,jby,List.all_map];rfl
theorem jhL {d:D}(h:jdu d=true):bfD .len d=.ok (.dat (.int (jca d))):=by
 obtain⟨xs,rfl,_⟩:=jeT h;rfl
theorem jk2 (d sq:D)(xs:List D)(hd:jdu d=true)(hs:jaA sq=.ok xs)(hx:∀x∈xs,san x=true):evE (jaa U W P (n + 3)) U jd4 [.dat d,.dat sq]=.ok (.tmp (.l (xs.map fun x=>.bl (jbM x (jca d)))),[.dat d,.dat sq]):=by
 refine jbf (h:=fun x=>x) (g:=fun x=>.bl (jbM x (jca d))) (xs:=xs) (by rw[List.map_id'];simp only[evI,evE,ju4,ju5,R.bind_ok',jf9 hs]) (fun x hm=>?_) fun s=>rfl
 exact jan (G:=jaa U W P (n + 3)) (U:=U) (k:=2) (ρ:=[.dat x,.dat d]) (es:=.cons (.var 0) (.cons (.blt .len (.var 1)) .nil)) [x,.int (jca d)] (as2 rfl (by simp_arith[jhL hd])) (jn5 (W:=W) (n:=n) x (jca d) (hx x hm))
theorem jhb (d sq:D)(h:san d=true):evT (jaa U W P (n + 3)) U (.not (.call 1 [] (.cons (.var 0) .nil))) [.dat d,.dat sq]=.ok (!jdu d,[.dat d,.dat sq]):=jbp (jck (ds:=[d]) rfl (jha (W:=W) (n:=n + 1) d h))
theorem jk3 (d sq:D)(h:san d=true)(hd:jdu d=false):CD W (n + 4) 4 [.dat d,.dat sq]=.err 2:=by
 rw[CD,jai (d:=⟨2,2,jaF⟩) rfl rfl];have t:=jhb (W:=W) (n:=n) d sq h;rw[hd]at t;show (evSs (jaa U W P (n + 3)) U W jaF [.dat d,.dat sq]).bind (jcy 2)=_;unfold jaF;rw[jn4 (by rw[jeS t];rfl)]
 rfl
theorem jga (d sq:D)(xs:List D)(h:san d=true)(hd:jdu d=true)(hs:jaA sq=.ok xs)(hx:∀x∈xs,san x=true)(hb:xs.all (fun x=>jbM x (jca d))=false):CD W (n + 4) 4 [.dat d,.dat sq]=.err 2:=by
 rw[CD,jai (d:=⟨2,2,jaF⟩) rfl rfl];have t:=jhb (W:=W) (n:=n) d sq h;have t2:=jbp (jnm (jk2 (W:=W) (n:=n) d sq xs hd hs hx));rw[hd]at t;rw[hb]at t2;show (evSs (jaa U W P (n + 3)) U W jaF [.dat d,.dat sq]).bind (jcy 2)=_;unfold jaF;rw[jah (by rw[jeS t];rfl),jn4 (by rw[jeS t2];rfl)]
 rfl
noncomputable def Tal (l:Nat)(k:List Int):Prop:=k.length=l/\∀x∈k,0<=x
theorem jeW {l:Nat}{k:List Int}(h:Tal l k)(h1:1<=l)(h4:l<=4):jdu (tu k)=true:=by
 have e:=h.1;simp only[tu,jdu,juT,jvv,Bool.not_eq_true',Bool.or_eq_false_iff,decide_eq_false_iff_not,ju3];refine⟨by omega,fun x hx=>?_⟩
 obtain⟨i,hi,rfl⟩:=List.mem_map.mp hx;exact decide_eq_true (h.2 i hi)
theorem jaX {k:List Int}:jca (tu k)=k.length:=by simp[tu,jca]
theorem jhM {l:Nat}{k:List Int}(h:Tal l k)(h1:1<=l)(h4:l<=4):jbM (tu k) l=true:=by
 unfold jbM;rw[jeW h h1 h4,jaX,h.1];simp
theorem jtA {l:Nat}(b:List Int)(sq:D)(ss:List (List Int))(h1:1<=l)(h4:l<=4)(hb:Tal l b)(hs:jaA sq=.ok (ss.map tu))(hk:∀k∈ss,Tal l k)(hl:ss.length < 64):CD W (n + 4) 4 [.dat (tu b),.dat sq]=.ok (.dat (jar b (stp ss)),[.no,.no]):=by
 rw[CD,jai (d:=⟨2,2,jaF⟩) rfl rfl];have hd:=jeW hb h1 h4;have t:=jhb (W:=W) (n:=n) (tu b) sq (jaI b);have t2:=jbp (jnm (jk2 (W:=W) (n:=n) (tu b) sq (ss.map tu) hd hs fun x hx=>by
  obtain⟨k,_,rfl⟩:=List.mem_map.mp hx;exact jaI k))
 rw[hd]at t;rw[show (ss.map tu).all (fun x=>jbM x (jca (tu b)))=true from List.all_eq_true.mpr fun x hx=>by
  obtain⟨k,hm,rfl⟩:=List.mem_map.mp hx;rw[jaX,hb.1];exact jhM (hk k hm) h1 h4]at t2
 show (evSs (jaa U W P (n + 3)) U W jaF [.dat (tu b),.dat sq]).bind (jcy 2)=_;unfold jaF;rw[jah (by rw[jeS t];rfl),jah (by rw[jeS t2];rfl)]
 rw[jeH (jkK (jan [tu b,sq] (as2 rfl rfl) (jqa (W:=W) (n:=n + 2) b sq ss hs (fun k hm=>by
  intro z;have:=(hk k hm).1;rw[z]at this;simp at this;omega) hl)))]
 rfl
end Law
namespace Law
open PySem L2 DJ
variable {W n:Nat}
noncomputable def kOf:D->List Int
 |.tup xs=>xs.map fun x=>match x with
  |.int i=>i
  |_=>0
 |_=>[]
theorem jgb (k:List Int):kOf (tu k)=k:=by
 simp only[tu,kOf,List.map_map];exact(List.map_congr_left fun x _=>rfl).trans (List.map_id k)
theorem jk4:∀{xs:List D},(∀x∈xs,∃i:Int,x=.int i/\0<=i)->∃k:List Int,xs=k.map D.int/\∀i∈k,0<=i
 |[],_=>⟨[],rfl,fun _ h=>by cases h⟩
 |x::xs,h=>by
  obtain⟨i,rfl,hi⟩:=h x juM;obtain⟨k,e,hk⟩:=jk4 fun y hy=>h y (juL _ hy);subst e;refine⟨i::k,rfl,fun j hj=>?_⟩;rcases List.mem_cons.mp hj with rfl | hj
  ·exact hi
  ·exact hk j hj
theorem jqb {d:D}(h:jdu d=true):∃k,d=tu k/\Tal k.length k/\1<=k.length/\k.length<=4:=by
 obtain⟨xs,rfl,h1,h4,hx⟩:=jeT h;obtain⟨k,rfl,hk⟩:=jk4 hx;rw[juT]at h1 h4;exact⟨k,rfl,⟨rfl,hk⟩,h1,h4⟩
theorem jhN {d:D}{l:Nat}(h:jbM d l=true):∃k,d=tu k/\Tal l k/\1<=l/\l<=4:=by
 unfold jbM at h;simp only[jvv,beq_iff_eq]at h;obtain⟨k,rfl,hk,h1,h4⟩:=jqb h.1;have e:=h.2;rw[jaX]at e;subst e;exact⟨k,rfl,hk,h1,h4⟩
noncomputable def jdv (l:Nat)(x:D):Bool:=jbM x l && nz (kOf x)
noncomputable def jlt (ks:List (List Int)):Bool:=(ks.zip (ks.drop 1)).all fun p=>DJ.lexLt p.1 p.2
noncomputable def jbi (d:D)(l:Nat):Bool:=match d with
 |.tup xs=>xs.all (jdv l) && jlt (xs.map kOf)
 |_=>false
theorem jk5:∀(as bs:List (List Int)),jfz (as.map tu) (bs.map tu)=(as.zip bs).map fun p=>.tup [tu p.1,tu p.2]
 |[],_=>by simp[jfz]
 |_::_,[]=>by simp[jfz]
 |a::as,b::bs=>by simp only[juR,jfz,jk5 as bs,List.zip_cons_cons]
theorem jqc {a b:List Int}:cmD .lt (tu a) (tu b)=.ok (DJ.lexLt a b):=by
 show ltD (.tup (a.map D.int)) (.tup (b.map D.int))=_;simp only[ltD,jbT]
theorem jhO {l:Nat}:∀{xs:List D},xs.all (jdv l)=true->∃ks:List (List Int),xs=ks.map tu/\∀k∈ks,Tal l k/\nz k=true
 |[],_=>⟨[],rfl,fun _ h=>by cases h⟩
 |x::xs,h=>by
  simp only[List.all_cons,jvv]at h;obtain⟨ks,rfl,hk⟩:=jhO h.2;have h1:=h.1;simp only[jdv,jvv]at h1;obtain⟨k,rfl,ht,_⟩:=jhN h1.1;rw[jgb]at h1;refine⟨k::ks,rfl,fun j hj=>?_⟩;rcases List.mem_cons.mp hj with rfl | hj
  ·exact⟨ht,h1.2⟩
  ·exact hk j hj
theorem jhc (ks:List (List Int)):(ks.map tu).map kOf=ks:=by
 rw[List.map_map];exact(List.map_congr_left fun x _=>jgb x).trans (List.map_id ks)
theorem jqd (d:D)(l:Nat)(h:san d=true):CD W (n + 4) 5 [.dat d,.dat (.int l)]=.ok (.dat (.bl (jbi d l)),[.no,.no]):=by
 rw[CD,jai (d:=⟨2,2,ja7⟩) rfl rfl];cases d with
 |exc c=>simp only[san]at h;cases h
 |tup xs=>
  simp only[san]at h;have hm:=jcv h;have e1:evE (jaa U W P (n + 3)) U jcp [.dat (.tup xs),.dat (.int l)]=.ok (.tmp (.l (xs.map fun x=>.bl (jdv l x))),[.dat (.tup xs),.dat (.int l)]):=by
   refine jbf (h:=fun x=>x) (g:=fun x=>.bl (jdv l x)) (xs:=xs) (by rw[List.map_id'];rfl) (fun x hx=>?_) fun s=>rfl
   have h0:=jan (G:=jaa U W P (n + 3)) (U:=U) (k:=2) (ρ:=[.dat x,.dat (.int l)]) (es:=.cons (.var 0) (.cons (.var 1) .nil)) [x,.int l] rfl (jn5 (W:=W) (n:=n) x l (hm x hx));refine jk1 h0 fun ht=>?_;obtain⟨k,rfl,_⟩:=jhN ht;rw[jgb];simp only[evE,ju4,R.bind_ok',ja5,bfD,tu,jdt,jcN];rfl
  have t:=jbp (jnm e1);show (evSs (jaa U W P (n + 3)) U W ja7 [.dat (.tup xs),.dat (.int l)]).bind (jcy 2)=_;unfold ja7;rw[jah (ρ':=[.dat (.tup xs),.dat (.int l)]) rfl];cases hg:xs.all (jdv l)with
  |false=>
   rw[hg]at t;rw[jeH (by rw[jeS t];rfl)]
   simp only[jbi,hg,Bool.false_and];rfl
  |true=>
   rw[hg]at t;rw[jah (by rw[jeS t];rfl)]
   obtain⟨ks,rfl,hk⟩:=jhO hg;have e2:evE (jaa U W P (n + 3)) U jbA [.dat (.tup (ks.map tu)),.dat (.int l)]=.ok (.tmp (.l ((ks.zip (ks.drop 1)).map fun p=>.bl (DJ.lexLt p.1 p.2))),[.dat (.tup (ks.map tu)),.dat (.int l)]):=by
    have hc:cut (ks.map tu) (some (1:Int)) none=(ks.drop 1).map tu:=by
     rw[jaV];exact congrArg _ (jbV ks 1)
    unfold jbA;simp_arith[hc,jk5,ju9];rw[jcK (g:=fun p:List Int×List Int=>.bl (DJ.lexLt p.1 p.2))]
    ·rfl
    ·intro p hp;have e:(putT [0,1] false (.tup [tu p.1,tu p.2]) (jfA 2 [] [.dat (.tup (ks.map tu)),.dat (.int l)]))=.ok [.dat (tu p.1),.dat (tu p.2)]:=rfl;rw[e];simp_arith[jqc];rfl
   rw[jeH (jkK (jsc e2))];simp only[jbi,hg,jhc,Bool.true_and];rfl
 |_=>rfl
noncomputable def jeX:D->Bool
 |.tup xs=>match xs with
  |[a,b]=>jdu a && jbi b (jca a)
  |_=>false
 |_=>false
theorem len2 {α:Type}{xs:List α}(h:xs.length=2):∃a b,xs=[a,b]:=by
 cases xs with
 |nil=>cases h
 |cons a xs=>
  cases xs with
  |nil=>cases h
  |cons b xs=>
   cases xs with
   |nil=>exact⟨a,b,rfl⟩
   |cons _ _=>cases h
theorem jsd (d:D)(h:san d=true):CD W (n + 5) 6 [.dat d]=.ok (.dat (.bl (jeX d)),[.no]):=by
 rw[CD,jai (d:=⟨1,1,jcq⟩) rfl rfl];cases d with
 |exc c=>simp only[san]at h;cases h
 |tup xs=>
  simp only[san]at h;have hm:=jcv h;have t:evT (jaa U W P (n + 4)) U (.or (.not (.isi (.var 0) [.tuple])) (.cmp .ne (.blt .len (.var 0)) (.lit (.int 2)))) [.dat (.tup xs)]=.ok (!((xs.length:Int) == 2),[.dat (.tup xs)]):=jpV rfl rfl;show (evSs (jaa U W P (n + 4)) U W jcq [.dat (.tup xs)]).bind (jcy 1)=_;unfold jcq;by_cases hl:xs.length=2
  ·obtain⟨a,b,rfl⟩:=len2 hl
   ·rw[jah (by rw[jeS t];rfl)]
    have ha:=hm a juM;have hb:=hm b (juL _ juM);have e1:=jan (G:=jaa U W P (n + 4)) (U:=U) (k:=1) (ρ:=[.dat (.tup [a,b])]) (es:=.cons (.idx (.var 0) (.lit (.int 0))) .nil) [a] rfl (jha (W:=W) (n:=n + 2) a ha);rw[jeH (jkK (jk1 (y:=jbi b (jca a)) e1 fun ht=>jan [b,.int (jca a)] (as2 rfl (by simp_arith[jhL ht])) (jqd (W:=W) (n:=n) b (jca a) hb)))]
    rfl
  ·have:((xs.length:Int) == 2)=false:=by
    rw[beq_eq_false_iff_ne];omega
   rw[this]at t;rw[jeH (by rw[jeS t];rfl)]
   have:jeX (.tup xs)=false:=by
    cases xs with
    |nil=>rfl
    |cons _ xs=>
     cases xs with
     |nil=>rfl
     |cons _ xs=>
      cases xs with
      |nil=>exact absurd rfl hl
      |cons _ _=>rfl
   rw[this];rfl
 |_=>rfl
noncomputable def fl:D->Nat
 |.tup (a::_)=>jca a
 |_=>0
noncomputable def jk6:D->Bool
 |.tup xs=>xs.all jeX && xs.all fun x=>fl x == fl (xs.headD .non)
 |_=>false
theorem jk7 {d:D}(h:jeX d=true):∃a b,d=.tup [a,b]/\jdu a=true/\jbi b (jca a)=true:=by
 cases d with
 |tup xs=>
  match xs,h with
  |[a,b],h=>
   simp only[jeX,jvv]at h;exact⟨a,b,rfl,h⟩
 |_=>cases h
theorem jtB (d:D)(h:san d=true):CD W (n + 6) 7 [.dat d]=.ok (.dat (.bl (jk6 d)),[.no]):=by
 rw[CD,jai (d:=⟨1,1,jcr⟩) rfl rfl];cases d with
 |exc c=>simp only[san]at h;cases h
 |tup xs=>
  simp only[san]at h;have hm:=jcv h;have e1:evE (jaa U W P (n + 5)) U jcL [.dat (.tup xs)]=.ok (.tmp (.l (xs.map fun x=>.bl (jeX x))),[.dat (.tup xs)]):=by
   refine jbf (h:=fun x=>x) (g:=fun x=>.bl (jeX x)) (xs:=xs) (by rw[List.map_id'];rfl) (fun x hx=>?_) fun s=>rfl
   exact jan [x] rfl (jsd (W:=W) (n:=n) x (hm x hx))
  have t:evT (jaa U W P (n + 5)) U (.or (.not (.isi (.var 0) [.tuple])) (.not (.blt .all jcL))) [.dat (.tup xs)]=.ok (!xs.all jeX,[.dat (.tup xs)]):=jpV rfl (jbp (jnm e1));show (evSs (jaa U W P (n + 5)) U W jcr [.dat (.tup xs)]).bind (jcy 1)=_;unfold jcr;cases hg:xs.all jeX with
  |false=>
   rw[hg]at t;rw[jeH (by rw[jeS t];rfl)]
   simp only[jk6,hg,Bool.false_and];rfl
  |true=>
   rw[hg]at t;rw[jah (by rw[jeS t];rfl)]
   have e2:evE (jaa U W P (n + 5)) U jd5 [.dat (.tup xs)]=.ok (.tmp (.l (xs.map fun x=>.bl (fl x == fl (xs.headD .non)))),[.dat (.tup xs)]):=by
    refine jbf (h:=fun x=>x) (g:=fun x=>.bl (fl x == fl (xs.headD .non))) (xs:=xs) (by rw[List.map_id'];rfl) (fun x hx=>?_) fun s=>rfl
    cases xs with
    |nil=>cases hx
    |cons x0 r=>
     obtain⟨a,b,rfl,ha,_⟩:=jk7 (List.all_eq_true.mp hg x hx);obtain⟨a0,b0,rfl,ha0,_⟩:=jk7 (List.all_eq_true.mp hg _ juM);show evE (jaa U W P (n + 5)) U (.cmp .eq (.blt .len (.idx (.var 0) (.lit (.int 0)))) (.blt .len (.idx (.idx (.var 1) (.lit (.int 0))) (.lit (.int 0))))) [.dat (.tup [a,b]),.dat (.tup (.tup [a0,b0]::r))]=_;simp_arith[jhL ha,jhL ha0];simp only[fl,List.headD_cons];congr 4;rw[Bool.eq_iff_iff];simp only[beq_iff_eq];omega
   rw[jeH (jkK (jsc e2))];simp only[jk6,hg,Bool.true_and];rfl
 |_=>rfl
theorem juE (d:D)(b:Bool)(h:san d=true):CD W (n + 7) 18 [.dat d,.dat (.bl b)]=.ok (.dat (.bl (jk6 d == b)),[.no,.no]):=by
 rw[CD,jai (d:=⟨2,3,jbL⟩) rfl rfl];have e:=jan (G:=jaa U W P (n + 6)) (U:=U) (k:=7) (ρ:=[.dat d,.dat (.bl b),.no]) (es:=.cons (.var 0) .nil) [d] rfl (jtB (W:=W) (n:=n) d h);show (evSs (jaa U W P (n + 6)) U W jbL [.dat d,.dat (.bl b),.no]).bind (jcy 2)=_;unfold jbL;rw[jah (jfQ e (by simp))]
 rfl
end Law
namespace Law
open PySem L2 DJ
variable {W n:Nat}
theorem juH {x y z w:D}{xs:List D}:DJ.atI (x::y::z::w::xs) 3=.ok w:=rfl
theorem juI {x y z w u:D}{xs:List D}:DJ.atI (x::y::z::w::u::xs) 4=.ok u:=rfl
theorem juJ {x y z w u v:D}{xs:List D}:DJ.atI (x::y::z::w::u::v::xs) 5=.ok v:=rfl
theorem jhP (a b:List Int):∀(xs:List Int) (s:Sl),∃t,ja2 (fun x r=>(putT [2] true x r).bind fun r'=>evSs (jaa U W P (n + 1)) U W jbg r') (xs.map D.int) [.dat (tu a),.dat (tu b),s]=.ok (.nx [.dat (tu a),.dat (tu b),t])
 |[],s=>⟨s,rfl⟩
 |x::xs,s=>by
  obtain⟨t,e⟩:=jhP a b xs (.dat (.int x));refine⟨t,?_⟩;have t1:evT (jaa U W P (n + 1)) U (.not (.call 8 [] (.cons (.var 2) .nil))) [.dat (tu a),.dat (tu b),.dat (.int x)]=.ok (false,[.dat (tu a),.dat (tu b),.dat (.int x)]):=jbp (b:=true) (jck (ds:=[.int x]) rfl (jp9 (W:=W) (n:=n) (.int x) rfl));have e1:evSs (jaa U W P (n + 1)) U W jbg [.dat (tu a),.dat (tu b),.dat (.int x)]=.ok (.nx [.dat (tu a),.dat (tu b),.dat (.int x)]):=by
   unfold jbg;rw[jah (jit t1)];simp only[evSs]
  simp only[juR,ja2];have e2:(putT [2] true (.int x) [.dat (tu a),.dat (tu b),s])=.ok [.dat (tu a),.dat (tu b),.dat (.int x)]:=rfl;rw[e2,R.bind_ok',e1];exact e
theorem jse (a:List Int):CD W (n + 2) 9 [.dat (tu a),.dat (tu a)]=.ok (.dat (.bl true),[.no,.no]):=by
 rw[CD,jai (d:=⟨2,3,jbs⟩) rfl rfl];obtain⟨t,e⟩:=jhP (W:=W) (n:=n) a a a .no;have t0:evT (jaa U W P (n + 1)) U (.or (.not (.isi (.var 0) [.tuple])) (.cmp .ne (.blt .len (.var 0)) (.blt .len (.var 1)))) [.dat (tu a),.dat (tu a),.no]=.ok (false,[.dat (tu a),.dat (tu a),.no]):=by
  refine jpV rfl ?_;simp_arith[tu,bne_self_eq_false,beq_self_eq_true]
 show (evSs (jaa U W P (n + 1)) U W jbs [.dat (tu a),.dat (tu a),.no]).bind (jcy 2)=_;unfold jbs;rw[jah (jit t0)];rw[jah (ρ':=[.dat (tu a),.dat (tu a),t]) (by
  have hi:jaB (.dat (tu a)) [.dat (tu a),.dat (tu a),.no]=.ok (a.map D.int,[],[.dat (tu a),.dat (tu a),.no]):=rfl;simp_arith[hi,e,jeu,unlk])]
 simp_arith[jr0]
 simp;rfl
noncomputable def mc:Nat->Int
 |0=>48271
 |1=>69621
 |2=>39373
 |_=>16807
noncomputable def nh (c:Int)(k:Nat):Int:=(c + 3) * mc k % 999999999989
noncomputable def jn6 (c:Int)(k:Nat):Int:=
 if nh c k % 6=0\/nh c k % 6=1 then nh c k * 1001 % (10 ^ 15 + 1)else if nh c k % 6=2\/nh c k % 6=3 then nh c k / 3 % 10 else if nh c k % 6=4 then 0 else 10 ^ 15
theorem jqe (c:Int)(k:Nat):0<=jn6 c k:=by
 unfold jn6;split
 ·exact Int.emod_nonneg _ (by decide)
 ·split
  ·exact Int.emod_nonneg _ (by decide)
  ·split <;> decide
theorem jtC {a b c d r:Int}(h0:0<=r)(h6:r < 6):∃j:Int,DJ.atI [D.int 0,.int 0,.int 1,.int 1,.int 2,.int 3] r=.ok (.int j)/\DJ.atI [D.int a,.int b,.int c,.int d] j=.ok (.int (if r=0\/r=1 then a else if r=2\/r=3 then b else if r=4 then c else d)):=by
 have:r=0\/r=1\/r=2\/r=3\/r=4\/r=5:=by omega
 rcases this with rfl | rfl | rfl | rfl | rfl | rfl
 ·exact⟨0,rfl,rfl⟩
 ·exact⟨0,rfl,rfl⟩
 ·exact⟨1,rfl,rfl⟩
 ·exact⟨1,rfl,rfl⟩
 ·exact⟨2,rfl,rfl⟩
 ·exact⟨3,rfl,rfl⟩
theorem jnn (c:Int)(k:Nat)(hk:k < 4):CD W (n + 1) 10 [.dat (.int c),.dat (.int k)]=.ok (.dat (.int (jn6 c k)),[.no,.no]):=by
 rw[CD,jai (d:=⟨2,3,jaG⟩) rfl rfl];show (evSs (jaa U W P n) U W jaG [.dat (.int c),.dat (.int k),.no]).bind (jcy 2)=_;have e1:evE (jaa U W P n) U (.bin .mod (.bin .mul (.bin .add (.var 0) (.lit (.int 3))) (.idx (.lst (.cons (.lit (.int 48271)) (.cons (.lit (.int 69621)) (.cons (.lit (.int 39373)) (.cons (.lit (.int 16807)) .nil))))) (.var 1))) (.lit (.int 999999999989))) [.dat (.int c),.dat (.int k),.no]=.ok (.dat (.int (nh c k)),[.dat (.int c),.dat (.int k),.no]):=by
  have m:DJ.atI [D.int 48271,D.int 69621,D.int 39373,D.int 16807] (k:Int)=.ok (.int (mc k)):=by
   match k,hk with
   |0,_=>rfl
   |1,_=>rfl
   |2,_=>rfl
   |3,_=>rfl
  have b:-18446744073709551616 < mc k/\mc k < 18446744073709551616:=by
   unfold mc;split <;> decide
  simp_arith[m,if_pos (Or.inr b)]
  rfl
 unfold jaG;rw[jah (jfQ e1 (by simp))]
 show (evSs (jaa U W P n) U W _ [.dat (.int c),.dat (.int k),.dat (.int (nh c k))]).bind (jcy 2)=_;have h6:nh c k % 6=0\/nh c k % 6=1\/nh c k % 6=2\/nh c k % 6=3\/nh c k % 6=4\/nh c k % 6=5:=by omega
 have f:(evSs (jaa U W P n) U W (.cons (.ret (.idx (.lst (.cons (.bin .mod (.bin .mul (.var 2) (.lit (.int 1001))) (.bin .add (.bin .pow (.lit (.int 10)) (.lit (.int 15))) (.lit (.int 1)))) (.cons (.bin .mod (.bin .fdiv (.var 2) (.lit (.int 3))) (.lit (.int 10))) (.cons (.lit (.int 0)) (.cons (.bin .pow (.lit (.int 10)) (.lit (.int 15))) .nil))))) (.idx (.lst (.cons (.lit (.int 0)) (.cons (.lit (.int 0)) (.cons (.lit (.int 1)) (.cons (.lit (.int 1)) (.cons (.lit (.int 2)) (.cons (.lit (.int 3)) .nil))))))) (.bin .mod (.var 2) (.lit (.int 6)))))) .nil) [.dat (.int c),.dat (.int k),.dat (.int (nh c k))]).bind (jcy 2)=.ok (.dat (.int (jn6 c k)),[.no,.no]):=by
  obtain⟨j,j1,j2⟩:=jtC (a:=nh c k * 1001 % (10 ^ 15 + 1)) (b:=nh c k / 3 % 10) (c:=0) (d:=10 ^ 15) (r:=nh c k % 6) (by omega) (by omega)
  unfold jn6;generalize (if nh c k % 6=0\/nh c k % 6=1 then nh c k * 1001 % (10 ^ 15 + 1)else if nh c k % 6=2\/nh c k % 6=3 then nh c k / 3 % 10 else if nh c k % 6=4 then 0 else 10 ^ 15)=w at j2;simp only[Int.reducePow,Int.reduceAdd]at j2;simp_arith[jsa,Int.reduceAdd,j1,j2];rfl
 exact f
noncomputable def jeY (c:Int)(l:Nat):List Int:=(List.range l).map (jn6 c)
theorem jeZ (c:Int)(l:Nat):Tal l (jeY c l):=⟨by simp[jeY],fun x hx=>by
 obtain⟨k,_,rfl⟩:=List.mem_map.mp hx;exact jqe c k⟩
theorem jhQ (c:Int)(l:Nat)(hl:l<=4):CD W (n + 2) 11 [.dat (.int c),.dat (.int l)]=.ok (.dat (tu (jeY c l)),[.no,.no]):=by
 rw[CD,jai (d:=⟨2,2,jaS⟩) rfl rfl];have e:evE (jaa U W P (n + 1)) U jb2 [.dat (.int c),.dat (.int l)]=.ok (.tmp (.l ((List.range l).map fun k=>.int (jn6 c k))),[.dat (.int c),.dat (.int l)]):=by
  refine jbf (h:=fun (j:Nat)=>D.int j) (g:=fun k=>.int (jn6 c k)) (xs:=List.range l) (by simp_arith[jco l (by omega)]) (fun k hk=>?_) fun s=>rfl
  exact jan (G:=jaa U W P (n + 1)) (U:=U) (k:=10) (ρ:=[.dat (.int k),.dat (.int c)]) (es:=.cons (.var 1) (.cons (.var 0) .nil)) [.int c,.int k] rfl (jnn (W:=W) (n:=n) c k (by have:=List.mem_range.mp hk;omega))
 show (evSs (jaa U W P (n + 1)) U W jaS [.dat (.int c),.dat (.int l)]).bind (jcy 2)=_;unfold jaS;simp_arith[e];simp only[tu,jeY,List.map_map];rfl
end Law
namespace Law
open PySem L2 DJ
variable {W n:Nat}
noncomputable def cF (c:Int)(k:Nat):Int:=c / 6 + (k:Int) * k * 7919
noncomputable def stF (c:Int)(l k:Nat):List Int:=if c / 36 % 2=0 then (jeY (cF c k) l).map (· % 3)else jeY (cF c k) l
theorem jqf (c:Int)(l k:Nat):Tal l (stF c l k):=by
 unfold stF;have h:=jeZ (cF c k) l;split
 ·refine⟨by rw[juT];exact h.1,fun x hx=>?_⟩
  obtain⟨y,_,rfl⟩:=List.mem_map.mp hx;exact Int.emod_nonneg _ (by decide)
 ·exact h
theorem e0B {G:Calls}{c x:Int}{ρ:Rho}(h0:ρ[0]?=some (.dat (.int c)))(h3:ρ[3]?=some (.dat (.int x)))(bk:-18446744073709551616 < x/\x < 18446744073709551616):evE G U (.bin .add (.bin .fdiv (.var 0) (.lit (.int 6))) (.bin .mul (.bin .mul (.var 3) (.var 3)) (.lit (.int 7919)))) ρ=.ok (.dat (.int (c / 6 + x * x * 7919)),ρ):=by
 simp_arith[h0,h3,if_pos (Or.inl bk)]
theorem juF {G:Calls}{ρ:Rho}(t:List Int)(h:ρ[4]?=some (.dat (tu t))):evE G U jbk ρ=.ok (.tmp (.l (t.map fun x=>.int (x % 3))),ρ):=by
 refine jbf (h:=D.int) (g:=fun x=>.int (x % 3)) (xs:=t) (by simp only[evI,evE,h,R.bind_ok'];rfl) (fun x _=>?_) fun s=>rfl
 show evE G U (.bin .mod (.var 0) (.lit (.int 3))) [.dat (.int x)]=_;simp_arith[];rfl
theorem jiX (c:Int)(l k:Nat)(hl:l<=4)(hk:k < 6)(acc:List (List Int))(ha:acc.length<=100)(s4:Sl):evSs (jaa U W P (n + 2)) U W jaM [.dat (.int c),.dat (.int l),.own (.l (acc.map tu)) false false,.dat (.int k),s4]=.ok (.nx [.dat (.int c),.dat (.int l),.own (.l ((acc++[stF c l k]).map tu)) false false,.dat (.int k),.dat (tu (stF c l k))]):=by
 have bk:-18446744073709551616 < (k:Int)/\(k:Int) < 18446744073709551616:=by omega
 have e0:evE (jaa U W P (n + 2)) U (.bin .add (.bin .fdiv (.var 0) (.lit (.int 6))) (.bin .mul (.bin .mul (.var 3) (.var 3)) (.lit (.int 7919)))) [.dat (.int c),.dat (.int l),.own (.l (acc.map tu)) false false,.dat (.int k),s4]=.ok (.dat (.int (cF c k)),[.dat (.int c),.dat (.int l),.own (.l (acc.map tu)) false false,.dat (.int k),s4]):=by
  exact e0B (x:=(k:Int)) rfl rfl bk
 have e1:=jan (G:=jaa U W P (n + 2)) (U:=U) (k:=11) (ρ:=[.dat (.int c),.dat (.int l),.own (.l (acc.map tu)) false false,.dat (.int k),s4]) (es:=.cons (.bin .add (.bin .fdiv (.var 0) (.lit (.int 6))) (.bin .mul (.bin .mul (.var 3) (.var 3)) (.lit (.int 7919)))) (.cons (.var 1) .nil)) [.int (cF c k),.int l] (as2 e0 rfl) (jhQ (W:=W) (n:=n) (cF c k) l hl);unfold jaM;rw[jah (jfQ e1 (by simp))]
 show evSs (jaa U W P (n + 2)) U W _ [.dat (.int c),.dat (.int l),.own (.l (acc.map tu)) false false,.dat (.int k),.dat (tu (jeY (cF c k) l))]=_;have ff:fits ((acc.map tu).length + 1)=true:=jaq (by rw[juT];omega)
 have fin:∀t:List Int,evSs (jaa U W P (n + 2)) U W (.cons (.app 2 (.var 4)) .nil) [.dat (.int c),.dat (.int l),.own (.l (acc.map tu)) false false,.dat (.int k),.dat (tu t)]=.ok (.nx [.dat (.int c),.dat (.int l),.own (.l ((acc++[t]).map tu)) false false,.dat (.int k),.dat (tu t)]):=fun t=>by
  simp_arith[ff]
  rw[List.map_append];rfl
 unfold stF;generalize jeY (cF c k) l=t;have tt:evT (jaa U W P (n + 2)) U (.cmp .eq (.bin .mod (.bin .fdiv (.var 0) (.lit (.int 36))) (.lit (.int 2))) (.lit (.int 0))) [.dat (.int c),.dat (.int l),.own (.l (acc.map tu)) false false,.dat (.int k),.dat (tu t)]=.ok (c / 36 % 2 == 0,[.dat (.int c),.dat (.int l),.own (.l (acc.map tu)) false false,.dat (.int k),.dat (tu t)]):=by simp_arith[]
 by_cases h:c / 36 % 2=0
 ·rw[show (c / 36 % 2 == 0)=true from by simpa using h]at tt
  rw[if_pos h];have e2:evE (jaa U W P (n + 2)) U jbk [.dat (.int c),.dat (.int l),.own (.l (acc.map tu)) false false,.dat (.int k),.dat (tu t)]=.ok (.tmp (.l (t.map fun x=>.int (x % 3))),[.dat (.int c),.dat (.int l),.own (.l (acc.map tu)) false false,.dat (.int k),.dat (tu t)]):=juF t rfl;rw[jah (ρ':=[.dat (.int c),.dat (.int l),.own (.l (acc.map tu)) false false,.dat (.int k),.dat (tu (t.map (· % 3)))]) (by
   rw[jeS tt];simp only[if_true];rw[jah (jfQ (jpW e2) (by simp))]
   simp only[evSs,tu,List.map_map,List.set_cons_succ,List.set_cons_zero];rfl)]
  exact fin _
 ·rw[show (c / 36 % 2 == 0)=false from by simpa using h]at tt
  rw[if_neg h];rw[jah (jit tt)];exact fin _
theorem jd6 (c:Int)(l:Nat)(hl:l<=4):∀(ks:List Nat) (acc:List (List Int)) (s3 s4:Sl),(∀k∈ks,k < 6)->acc.length + ks.length<=100->∃t3 t4,ja2 (fun x r=>(putT [3] true x r).bind fun r'=>evSs (jaa U W P (n + 2)) U W jaM r') (ks.map fun (j:Nat)=>D.int j) [.dat (.int c),.dat (.int l),.own (.l (acc.map tu)) false false,s3,s4]=.ok (.nx [.dat (.int c),.dat (.int l),.own (.l ((acc++ks.map (stF c l)).map tu)) false false,t3,t4])
 |[],acc,s3,s4,_,_=>⟨s3,s4,by simp[ja2]⟩
 |k::ks,acc,s3,s4,hk,ha=>by
  rw[juU]at ha;obtain⟨t3,t4,e⟩:=jd6 c l hl ks (acc++[stF c l k]) (.dat (.int k)) (.dat (tu (stF c l k))) (fun j hj=>hk j (juL _ hj)) (by simp;omega)
  refine⟨t3,t4,?_⟩;simp only[juR,ja2];have e2:(putT [3] true (.int k) [.dat (.int c),.dat (.int l),.own (.l (acc.map tu)) false false,s3,s4])=.ok [.dat (.int c),.dat (.int l),.own (.l (acc.map tu)) false false,.dat (.int k),s4]:=rfl;rw[e2,R.bind_ok',jiX c l k hl (hk k juM) acc (by omega),R.bind_ok']
  simp only[];rw[e,jva];rfl
noncomputable def st0 (c:Int)(l:Nat):List (List Int):=(List.range (1 + c % 6).toNat).map (stF c l)
noncomputable def st1 (c:Int)(l:Nat):List (List Int):=if c / 72 % 3=1 then st0 c l++[List.replicate l 0] else st0 c l
noncomputable def jaJ (c:Int)(l:Nat):List (List Int):=if c / 216 % 3=1 then (st1 c l).getLastD []::st1 c l else st1 c l
theorem jqg:∀(k:Nat),(List.replicate k [D.int 0]).flatten=(List.replicate k (0:Int)).map D.int
 |0=>rfl
 |k + 1=>by simp only[List.replicate_succ,List.flatten_cons,jqg k,juR,List.singleton_append]
theorem jn7 (c:Int)(l:Nat):(1<=(st0 c l).length/\(st0 c l).length<=6)/\∀k∈st0 c l,Tal l k:=by
 unfold st0;refine⟨by rw[juT,List.length_range];omega,fun k hk=>?_⟩
 obtain⟨j,_,rfl⟩:=List.mem_map.mp hk;exact jqf c l j
theorem jno (l:Nat):Tal l (List.replicate l 0):=⟨by simp,fun x hx=>by rw[List.eq_of_mem_replicate hx];exact Int.le_refl _⟩
theorem jn8 (c:Int)(l:Nat):(1<=(st1 c l).length/\(st1 c l).length<=7)/\∀k∈st1 c l,Tal l k:=by
 obtain⟨h1,h2⟩:=jn7 c l;unfold st1;split
 ·refine⟨by simp;omega,fun k hk=>?_⟩
  rcases List.mem_append.mp hk with hk | hk
  ·exact h2 k hk
  ·rw[List.mem_singleton.mp hk];exact jno l
 ·exact⟨by omega,h2⟩
theorem jhR {α:Type}{xs:List α}(h:1<=xs.length)(d:α):∃ys z,xs=ys++[z]/\xs.getLastD d=z:=by
 obtain⟨ys,z,rfl⟩:=jp8 (xs:=xs) (by omega)
 exact⟨ys,z,rfl,by simp⟩
theorem jhS (c:Int)(l:Nat):(1<=(jaJ c l).length/\(jaJ c l).length<=8)/\∀k∈jaJ c l,Tal l k:=by
 obtain⟨h1,h2⟩:=jn8 c l;unfold jaJ;split
 ·refine⟨by simp;omega,fun k hk=>?_⟩
  rcases List.mem_cons.mp hk with rfl | hk
  ·obtain⟨ys,z,e,e2⟩:=jhR h1.1 ([]:List Int);rw[e2];exact h2 z (by rw[e];simp)
  ·exact h2 k hk
 ·exact⟨by omega,h2⟩
theorem jtD {ys:List (List Int)}{z:List Int}:DJ.atI ((ys++[z]).map tu) (-1)=.ok (tu z):=by
 unfold DJ.atI;rw[if_neg (by decide),if_pos (by simp;omega)]
 rw[show (-1 + (((ys++[z]).map tu).length:Int)).toNat=ys.length by simp;omega]
 simp
theorem jnp (c:Int)(l:Nat)(hl:l<=4):CD W (n + 3) 12 [.dat (.int c),.dat (.int l)]=.ok (.tmp (.l ((jaJ c l).map tu)),[.no,.no]):=by
 rw[CD,jai (d:=⟨2,5,jaT⟩) rfl rfl];have hm:1 + c % 6=(((1 + c % 6).toNat:Nat):Int):=by omega
 obtain⟨t3,t4,e⟩:=jd6 (W:=W) (n:=n) c l hl (List.range (1 + c % 6).toNat) [] .no .no (fun k hk=>by have:=List.mem_range.mp hk;omega) (by simp;omega)
 show (evSs (jaa U W P (n + 2)) U W jaT [.dat (.int c),.dat (.int l),.no,.no,.no]).bind (jcy 2)=_;unfold jaT;rw[jah (ρ':=[.dat (.int c),.dat (.int l),.own (.l ([].map tu)) false false,.no,.no]) (by simp_arith[];rfl)]
 rw[jah (ρ':=[.dat (.int c),.dat (.int l),.own (.l ((st0 c l).map tu)) false false,t3,t4]) (by
  have hr:jdd (.int (1 + c % 6))=.ok ((List.range (1 + c % 6).toNat).map fun (j:Nat)=>D.int j):=by
   conv=>lhs;rw[hm]
   exact jco _ (by omega)
  simp_arith[hr,e,jeu,unlk]
  rfl)]
 obtain⟨h0,_⟩:=jn7 c l;obtain⟨h1,_⟩:=jn8 c l;rw[jah (ρ':=[.dat (.int c),.dat (.int l),.own (.l ((st1 c l).map tu)) false false,t3,t4]) (by
  have tt:evT (jaa U W P (n + 2)) U (.cmp .eq (.bin .mod (.bin .fdiv (.var 0) (.lit (.int 72))) (.lit (.int 3))) (.lit (.int 1))) [.dat (.int c),.dat (.int l),.own (.l ((st0 c l).map tu)) false false,t3,t4]=.ok (c / 72 % 3 == 1,[.dat (.int c),.dat (.int l),.own (.l ((st0 c l).map tu)) false false,t3,t4]):=by simp_arith[]
  unfold st1;by_cases h:c / 72 % 3=1
  ·rw[show (c / 72 % 3 == 1)=true from by simpa using h]at tt
   rw[if_pos h,jeS tt];have ff:fits (((st0 c l).map tu).length + 1)=true:=jaq (by rw[juT];omega)
   have e2:opD .mul (.tup [.int 0]) (.int l)=.ok (.dat (tu (List.replicate l 0))):=by
    rw[jeI,if_pos ⟨by omega,by omega,jaq (by rw[Int.toNat_natCast];simp;omega)⟩,Int.toNat_natCast,jqg]
    rfl
   simp only[if_true];simp only[evSs,evS,evE,evEs,ju4,ju5,R.bind_ok',ja5,jgF,jr8,juU,ju6,Nat.reduceAdd,if_true,e2,ff,List.set_cons_succ,List.set_cons_zero,jeF,List.map_append,juR,List.map_nil]
  ·rw[show (c / 72 % 3 == 1)=false from by simpa using h]at tt
   rw[if_neg h];exact jit tt)]
 rw[jah (ρ':=[.dat (.int c),.dat (.int l),.own (.l ((jaJ c l).map tu)) false false,t3,t4]) (by
  have tt:evT (jaa U W P (n + 2)) U (.cmp .eq (.bin .mod (.bin .fdiv (.var 0) (.lit (.int 216))) (.lit (.int 3))) (.lit (.int 1))) [.dat (.int c),.dat (.int l),.own (.l ((st1 c l).map tu)) false false,t3,t4]=.ok (c / 216 % 3 == 1,[.dat (.int c),.dat (.int l),.own (.l ((st1 c l).map tu)) false false,t3,t4]):=by simp_arith[]
  unfold jaJ;by_cases h:c / 216 % 3=1
  ·rw[show (c / 216 % 3 == 1)=true from by simpa using h]at tt
   rw[if_pos h,jeS tt];obtain⟨ys,z,e1,e2⟩:=jhR h1.1 ([]:List Int);rw[e2];have ff:fits (((st1 c l).map tu).length + 1)=true:=jaq (by rw[juT];omega)
   have am:DJ.atI ((st1 c l).map tu) (-1)=.ok (tu z):=by rw[e1];exact jtD
   simp only[if_true];simp only[evSs,evS,evE,ju4,ju5,R.bind_ok',ja5,jd2,jgG,jgF,jr7,jkT,am,ff,if_true,List.set_cons_succ,List.set_cons_zero,jeF,juR]
  ·rw[show (c / 216 % 3 == 1)=false from by simpa using h]at tt
   rw[if_neg h];exact jit tt)]
 simp_arith[]
 rfl
end Law
namespace Law
open PySem L2 DJ
variable {W n:Nat}
theorem jd7:∀(a:List Int),DJ.lexLt a a=false
 |[]=>rfl
 |x::a=>by simp only[DJ.lexLt,if_true,jd7 a]
theorem lt_trans:∀{a b c:List Int},DJ.lexLt a b=true->DJ.lexLt b c=true->DJ.lexLt a c=true
 |[],[],_,h,_=>by cases h
 |[],_::_,[],_,h=>by simp[DJ.lexLt]at h
 |[],_::_,_::_,_,_=>rfl
 |_::_,[],_,h,_=>by simp[DJ.lexLt]at h
 |_::_,_::_,[],_,h=>by simp[DJ.lexLt]at h
 |x::a,y::b,z::c,h1,h2=>by
  simp only[DJ.lexLt]at h1 h2 ⊢;split at h1
  ·subst_vars;split at h2
   ·subst_vars;rw[if_pos rfl];exact lt_trans h1 h2
   ·rename_i hn;rw[if_neg hn];exact h2
  ·rename_i hn;have h1:=of_decide_eq_true h1;split at h2
   ·subst_vars;rw[if_neg hn];exact decide_eq_true h1
   ·have h2:=of_decide_eq_true h2;rw[if_neg (by omega)]
    exact decide_eq_true (by omega)
theorem jgc:∀(a b:List Int),DJ.lexLt a b=true\/a=b\/DJ.lexLt b a=true
 |[],[]=>.inr (.inl rfl)
 |[],_::_=>.inl rfl
 |_::_,[]=>.inr (.inr rfl)
 |x::a,y::b=>by
  simp only[DJ.lexLt];by_cases e:x=y
  ·subst e;rw[if_pos rfl,if_pos rfl];rcases jgc a b with h | h | h
   ·exact .inl h
   ·exact .inr (.inl (by rw[h]))
   ·exact .inr (.inr h)
  ·rw[if_neg e,if_neg (Ne.symm e)];rcases Int.lt_or_gt_of_ne e with h | h
   ·exact .inl (decide_eq_true h)
   ·exact .inr (.inr (decide_eq_true h))
noncomputable def Srt (l:List (List Int)):Prop:=l.Pairwise fun a b=>DJ.lexLt a b=true
theorem ins_mem' {x y:List Int}:∀{l:List (List Int)},y∈jfy x l↔y=x\/y∈l
 |[]=>by simp[jfy]
 |z::r=>by
  simp only[jfy];split
  ·rw[juN,ins_mem' (l:=r),juN];constructor
   ·rintro (h | h | h)
    ·exact .inr (.inl h)
    ·exact .inl h
    ·exact .inr (.inr h)
   ·rintro (h | h | h)
    ·exact .inr (.inl h)
    ·exact .inl h
    ·exact .inr (.inr h)
  ·rw[juN]
theorem sort_mem {y:List Int}:∀{l:List (List Int)},y∈ja9 l↔y∈l
 |[]=>by simp[ja9]
 |z::r=>by rw[ja9,ins_mem',sort_mem (l:=r),juN]
theorem jk8 {x:List Int}:∀{l:List (List Int)},Srt l->x ∉ l->Srt (jfy x l)
 |[],_,_=>by simp[jfy,Srt]
 |z::r,h,hx=>by
  simp only[jfy];have h':=List.pairwise_cons.mp h;split
  ·rename_i hz;refine List.pairwise_cons.mpr ⟨fun y hy=>?_,jk8 h'.2 fun q=>hx (juL _ q)⟩;rcases ins_mem'.mp hy with rfl | hy
   ·exact hz
   ·exact h'.1 y hy
  ·rename_i hz;have hxz:DJ.lexLt x z=true:=by
    rcases jgc x z with q | q | q
    ·exact q
    ·exact absurd (by rw[q];exact juM) hx
    ·exact absurd q hz
   refine List.pairwise_cons.mpr ⟨fun y hy=>?_,h⟩;rcases List.mem_cons.mp hy with rfl | hy
   ·exact hxz
   ·exact lt_trans hxz (h'.1 y hy)
theorem jhd:∀(l:List (List Int)),(jbX l).Nodup
 |[]=>by simp[jbX]
 |x::r=>by
  simp only[jbX];split
  ·exact jhd r
  ·rename_i h;refine List.nodup_cons.mpr ⟨fun z=>?_,jhd r⟩;have:=onceK_mem.mp z;simp[this]at h
theorem jhT:∀{l:List (List Int)},l.Nodup->Srt (ja9 l)
 |[],_=>by simp[ja9,Srt]
 |x::r,h=>by
  have h':=List.nodup_cons.mp h;exact jk8 (jhT h'.2) fun z=>h'.1 (sort_mem.mp z)
theorem jhe:∀{l m:List (List Int)},Srt l->Srt m->(∀x,x∈l↔x∈m)->l=m
 |[],[],_,_,_=>rfl
 |[],b::m,_,_,h=>by have:=(h b).mpr juM;simp at this
 |a::l,[],_,_,h=>by have:=(h a).mp juM;simp at this
 |a::l,b::m,h1,h2,h=>by
  have p1:=List.pairwise_cons.mp h1;have p2:=List.pairwise_cons.mp h2;have e:a=b:=by
   rcases List.mem_cons.mp ((h a).mp juM)with q | q
   ·exact q
   ·rcases List.mem_cons.mp ((h b).mpr juM)with q' | q'
    ·exact q'.symm
    ·have:=lt_trans (p1.1 b q') (p2.1 a q);rw[jd7]at this;cases this
  subst e;congr 1;refine jhe p1.2 p2.2 fun x=>⟨fun q=>?_,fun q=>?_⟩
  ·rcases List.mem_cons.mp ((h x).mp (juL _ q))with rfl | z
   ·have:=p1.1 x q;rw[jd7]at this;cases this
   ·exact z
  ·rcases List.mem_cons.mp ((h x).mpr (juL _ q))with rfl | z
   ·have:=p2.1 x q;rw[jd7]at this;cases this
   ·exact z
noncomputable def Wk (l:List (List Int)):Prop:=l.Pairwise fun a b=>DJ.lexLt b a=false
theorem jhf {a b:List Int}(h:DJ.lexLt a b=true):DJ.lexLt b a=false:=by
 cases e:DJ.lexLt b a with
 |false=>rfl
 |true=>
  have:=lt_trans h e;rw[jd7]at this;cases this
theorem jk9 {a b c:List Int}(h1:DJ.lexLt b a=false)(h2:DJ.lexLt c b=false):DJ.lexLt c a=false:=by
 rcases jgc a b with q | q | q
 ·rcases jgc b c with r | r | r
  ·exact jhf (lt_trans q r)
  ·rw[<-r];exact h1
  ·rw[r]at h2;cases h2
 ·rw[q];exact h2
 ·rw[q]at h1;cases h1
theorem jn9 {x:List Int}:∀{l:List (List Int)},Wk l->Wk (jfy x l)
 |[],_=>by simp[jfy,Wk]
 |z::r,h=>by
  simp only[jfy];have h':=List.pairwise_cons.mp h;split
  ·rename_i hz;refine List.pairwise_cons.mpr ⟨fun y hy=>?_,jn9 h'.2⟩;rcases ins_mem'.mp hy with rfl | hy
   ·exact jhf hz
   ·exact h'.1 y hy
  ·rename_i hz;have hz:DJ.lexLt z x=false:=by simpa using hz
   refine List.pairwise_cons.mpr ⟨fun y hy=>?_,h⟩;rcases List.mem_cons.mp hy with rfl | hy
   ·exact hz
   ·exact jk9 hz (h'.1 y hy)
theorem jla:∀(l:List (List Int)),Wk (ja9 l)
 |[]=>by simp[ja9,Wk]
 |x::r=>jn9 (jla r)
noncomputable def keep (acc:List (List Int))(k:List Int):List (List Int):=if k∈acc then acc else if 0 < k.sum then acc++[k] else acc
theorem jlb:∀(ks acc:List (List Int)),Srt acc->(∀a∈acc,∀k∈ks,DJ.lexLt k a=false)->Wk ks->Srt (ks.foldl keep acc)/\∀x,x∈ks.foldl keep acc↔x∈acc\/(x∈ks/\0 < x.sum)
 |[],acc,h,_,_=>⟨h,fun x=>by simp⟩
 |k::ks,acc,h,hb,hw=>by
  have hw':=List.pairwise_cons.mp hw;rw[List.foldl_cons];have key:∀acc',acc'=keep acc k->Srt acc'/\(∀a∈acc',∀j∈ks,DJ.lexLt j a=false)/\∀x,x∈acc'↔x∈acc\/(x=k/\0 < x.sum):=by
   intro acc' e;unfold keep at e;split at e
   ·rename_i hm;subst e;refine⟨h,fun a ha j hj=>hb a ha j (juL _ hj),fun x=>⟨.inl,fun z=>?_⟩⟩;rcases z with z | ⟨rfl,_⟩
    ·exact z
    ·exact hm
   ·rename_i hm;split at e
    ·rename_i hs;subst e;refine⟨List.pairwise_append.mpr ⟨h,List.pairwise_singleton _ _,fun a ha b hb'=>?_⟩,fun a ha j hj=>?_,fun x=>?_⟩
     ·rw[List.mem_singleton.mp hb'];rcases jgc a k with q | q | q
      ·exact q
      ·exact absurd (by rw[<-q];exact ha) hm
      ·rw[hb a ha k juM]at q;cases q
     ·rcases List.mem_append.mp ha with ha | ha
      ·exact hb a ha j (juL _ hj)
      ·rw[List.mem_singleton.mp ha];exact hw'.1 j hj
     ·rw[List.mem_append,List.mem_singleton];exact⟨fun z=>z.imp id fun z=>⟨z,by rw[z];exact hs⟩,fun z=>z.imp id fun z=>z.1⟩
    ·rename_i hs;subst e;refine⟨h,fun a ha j hj=>hb a ha j (juL _ hj),fun x=>⟨.inl,fun z=>?_⟩⟩;rcases z with z | ⟨rfl,z⟩
     ·exact z
     ·exact absurd z hs
  obtain⟨k1,k2,k3⟩:=key _ rfl;obtain⟨r1,r2⟩:=jlb ks (keep acc k) k1 k2 hw'.2;refine⟨r1,fun x=>?_⟩;rw[r2 x,k3 x,juN];constructor
  ·rintro ((z | ⟨z,s⟩) | ⟨z,s⟩)
   ·exact .inl z
   ·exact .inr ⟨.inl z,s⟩
   ·exact .inr ⟨.inr z,s⟩
  ·rintro (z | ⟨z | z,s⟩)
   ·exact .inl (.inl z)
   ·exact .inl (.inr ⟨z,s⟩)
   ·exact .inr ⟨z,s⟩
theorem jlc:∀{k:List Int},(∀x∈k,0<=x)->0<=k.sum/\(0 < k.sum↔nz k=true)
 |[],_=>by simp[nz]
 |a::k,h=>by
  have ha:=h a juM;obtain⟨i1,i2⟩:=jlc (k:=k) fun x hx=>h x (juL _ hx);have e:nz (a::k)=(a != 0 || nz k):=by simp[nz]
  rw[e,List.sum_cons];refine⟨by omega,?_⟩
  rw[Bool.or_eq_true,<-i2];by_cases z:a=0
  ·subst z;simp
  ·have:(a != 0)=true:=by simpa using z
   rw[this];constructor
   ·intro _;exact .inl rfl
   ·intro _;omega
theorem je0 (ss:List (List Int)):Srt (stp ss):=jhT (jhd _)
theorem stp_mem {ss:List (List Int)}{x:List Int}:x∈stp ss↔x∈ss/\nz x=true:=by
 unfold stp;rw[sort_mem,onceK_mem,List.mem_filter]
theorem kept {ss:List (List Int)}(h:∀k∈ss,∀x∈k,0<=x):(ja9 ss).foldl keep []=stp ss:=by
 obtain⟨h1,h2⟩:=jlb (ja9 ss) [] List.Pairwise.nil (fun a ha=>by cases ha) (jla ss)
 refine jhe h1 (je0 ss) fun x=>?_;rw[h2 x,stp_mem,sort_mem];constructor
 ·rintro (z | ⟨z,s⟩)
  ·cases z
  ·exact⟨z,(jlc (h x z)).2.mp s⟩
 ·rintro⟨z,s⟩;exact .inr ⟨z,(jlc (h x z)).2.mpr s⟩
theorem jqh {a b:List (List Int)}(h:∀x,x∈a↔x∈b):stp a=stp b:=by
 refine jhe (je0 a) (je0 b) fun x=>?_;rw[stp_mem,stp_mem,h x]
theorem je1:∀(ks:List (List Int)),cmpDs (ks.map tu)=true
 |[]=>rfl
 |k::ks=>by
  simp only[juR,cmpDs,je1 ks,Bool.and_true];simp only[tu,jbF,jcl]
theorem je2:∀(ks:List (List Int)),deeps (ks.map tu)<=1
 |[]=>by simp[deeps]
 |k::ks=>by
  simp only[juR,deeps];have:=je2 ks;have h:jcP (tu k)=1:=by simp only[tu,jcP,jcm]
  rw[h];exact Nat.max_le.mpr ⟨jvq _,this⟩
theorem jld (a b:List Int):eqD (tu a) (tu b)=decide (a=b):=by simp only[tu,eqD,jeG]
theorem jtE (k:List Int)(ks:List (List Int)):inR (tu k) (.lst (ks.map tu))=.ok (decide (k∈ks)):=by
 have h1:jbF (tu k)=true:=by simp only[tu,jbF,jcl]
 have h2:jcP (tu k)=1:=by simp only[tu,jcP,jcm]
 unfold inR;rw[jcn,R.bind_ok',if_pos]
 ·congr 1
  rw[List.any_map,Bool.eq_iff_iff,List.any_eq_true,decide_eq_true_eq];constructor
  ·rintro⟨x,hx,e⟩;have e:eqD (tu x) (tu k)=true:=e;rw[jld]at e;rw[<-of_decide_eq_true e];exact hx
  ·intro hk;exact⟨k,hk,by show eqD (tu k) (tu k)=true;rw[jld];simp⟩
 ·have:=je2 ks;simp only[h1,je1,h2,jvv,decide_eq_true_eq];exact⟨⟨⟨trivial,trivial⟩,by omega⟩,by omega⟩
theorem jnq {B S:Sl}(k:List Int)(acc:List (List Int))(ha:acc.length<=100):evSs (jaa U W P n) U W jbh [B,S,.own (.l (acc.map tu)) false false,.dat (tu k)]=.ok (.nx [B,S,.own (.l ((keep acc k).map tu)) false false,.dat (tu k)]):=by
 have t1:evT (jaa U W P n) U (.cmp .notin (.var 3) (.var 2)) [B,S,.own (.l (acc.map tu)) false false,.dat (tu k)]=.ok (!decide (k∈acc),[B,S,.own (.l (acc.map tu)) false false,.dat (tu k)]):=by
  simp_arith[]
  show ((inR (tu k) (.lst (acc.map tu))).bind fun c=>(.ok (!c):R Bool)).bind _=_;rw[jtE];rfl
 have t2:evT (jaa U W P n) U (.cmp .gt (.blt .sum (.var 3)) (.lit (.int 0))) [B,S,.own (.l (acc.map tu)) false false,.dat (tu k)]=.ok (decide (0 < k.sum),[B,S,.own (.l (acc.map tu)) false false,.dat (tu k)]):=by
  simp_arith[tu,bfD,jbT]
 have ff:fits ((acc.map tu).length + 1)=true:=jaq (by rw[juT];omega)
 unfold jbh keep;by_cases hm:k∈acc
 ·rw[decide_eq_true hm]at t1;rw[if_pos hm,jah (jit (by simp only[evT]at t1 ⊢;rw[t1];rfl))]
  simp only[evSs]
 ·rw[decide_eq_false hm]at t1;rw[if_neg hm];have t:evT (jaa U W P n) U (.and (.cmp .notin (.var 3) (.var 2)) (.cmp .gt (.blt .sum (.var 3)) (.lit (.int 0)))) [B,S,.own (.l (acc.map tu)) false false,.dat (tu k)]=.ok (decide (0 < k.sum),[B,S,.own (.l (acc.map tu)) false false,.dat (tu k)]):=by
   rw[evT,t1,R.bind_ok'];exact t2
  by_cases hs:0 < k.sum
  ·rw[decide_eq_true hs]at t;rw[if_pos hs,jah (ρ':=[B,S,.own (.l ((acc++[k]).map tu)) false false,.dat (tu k)]) (by rw[jeS t];simp_arith[ff,List.map_append,juR,List.map_nil])]
   simp only[evSs]
  ·rw[decide_eq_false hs]at t;rw[if_neg hs,jah (jit t)];simp only[evSs]
theorem jnr (acc:List (List Int))(k:List Int):(keep acc k).length<=acc.length + 1:=by
 unfold keep;split
 ·omega
 ·split
  ·simp
  ·omega
theorem jhU {B S:Sl}:∀(ks acc:List (List Int)) (s:Sl),acc.length + ks.length<=100->∃t,ja2 (fun x r=>(putT [3] true x r).bind fun r'=>evSs (jaa U W P n) U W jbh r') (ks.map tu) [B,S,.own (.l (acc.map tu)) false false,s]=.ok (.nx [B,S,.own (.l ((ks.foldl keep acc).map tu)) false false,t])
 |[],acc,s,_=>⟨s,rfl⟩
 |k::ks,acc,s,h=>by
  rw[juU]at h;have hk:=jnr acc k;obtain⟨t,e⟩:=jhU (B:=B) (S:=S) ks (keep acc k) (.dat (tu k)) (by omega)
  refine⟨t,?_⟩;simp only[juR,ja2];have e2:(putT [3] true (tu k) [B,S,.own (.l (acc.map tu)) false false,s])=.ok [B,S,.own (.l (acc.map tu)) false false,.dat (tu k)]:=rfl;rw[e2,R.bind_ok',jnq k acc (by omega),R.bind_ok']
  exact e
theorem jle (x:List Int):∀(l:List (List Int)),(jfy x l).length=l.length + 1
 |[]=>rfl
 |y::r=>by
  simp only[jfy];split
  ·simp[jle x r]
  ·simp
theorem je3:∀(l:List (List Int)),(ja9 l).length=l.length
 |[]=>rfl
 |x::r=>by rw[ja9,jle,je3 r,juU]
theorem jsf (b:List Int)(ss:List (List Int))(h0:∀k∈ss,k≠[])(h:∀k∈ss,∀x∈k,0<=x)(hl:ss.length < 64):CD W (n + 1) 13 [.dat (tu b),.dat (.lst (ss.map tu))]=.ok (.dat (jar b (stp ss)),[.no,.no]):=by
 rw[CD,jai (d:=⟨2,4,jbt⟩) rfl rfl];obtain⟨t,e⟩:=jhU (W:=W) (n:=n) (B:=.dat (tu b)) (S:=.dat (.lst (ss.map tu))) (ja9 ss) [] .no (by rw[je3];simp;omega)
 rw[kept h]at e;have es:bfD .sorted (.lst (ss.map tu))=.ok (.tmp (.l ((ja9 ss).map tu))):=by
  simp only[bfD,jeU];exact jhK h0 hl
 show (evSs (jaa U W P n) U W jbt [.dat (tu b),.dat (.lst (ss.map tu)),.no,.no]).bind (jcy 2)=_;unfold jbt;rw[jah (ρ':=[.dat (tu b),.dat (.lst (ss.map tu)),.own (.l ([].map tu)) false false,.no]) (by simp_arith[];rfl)]
 rw[jah (ρ':=[.dat (tu b),.dat (.lst (ss.map tu)),.own (.l ((stp ss).map tu)) false false,t]) (by simp_arith[es,e,jeu,unlk])]
 simp_arith[]
 rfl
end Law
namespace Law
open PySem L2 DJ
variable {W n:Nat}
theorem jlf {ss:List (List Int)}{k:Nat}(h:k < ss.length):(ss.map tu)[k]?=some (tu ss[k]):=by
 rw[juQ,juK h];rfl
theorem jiY (b:List Int)(ss:List (List Int))(k:Nat)(hk:k < ss.length):evSs (jaa U W P (n + 2)) U W jaN [.dat (jar b ss),.dat (jar b ss),.dat (.int k)]=.ok (.nx [.dat (jar b ss),.dat (jar b ss),.dat (.int k)]):=by
 have g:=jqr (jlf hk);have e:∀j,j=0\/j=1->evE (jaa U W P (n + 2)) U (.idx (.idx (.var j) (.lit (.int 1))) (.var 2)) [.dat (jar b ss),.dat (jar b ss),.dat (.int k)]=.ok (.dat (tu ss[k]),[.dat (jar b ss),.dat (jar b ss),.dat (.int k)]):=fun j hj=>by
  rcases hj with rfl | rfl
  ·simp_arith[jar,g]
  ·simp_arith[jar,g]
 have t:=jbp (jck (G:=jaa U W P (n + 2)) (U:=U) (k:=9) (ρ:=[.dat (jar b ss),.dat (jar b ss),.dat (.int k)]) (es:=.cons (.idx (.idx (.var 0) (.lit (.int 1))) (.var 2)) (.cons (.idx (.idx (.var 1) (.lit (.int 1))) (.var 2)) .nil)) [tu ss[k],tu ss[k]] (as2 (e 0 (.inl rfl)) (e 1 (.inr rfl))) (jse (W:=W) (n:=n) ss[k]));unfold jaN;rw[jah (jit t)];simp only[evSs]
theorem jd8 (b:List Int)(ss:List (List Int)):∀(ks:List Nat) (s:Sl),(∀k∈ks,k < ss.length)->∃t,ja2 (fun x r=>(putT [2] true x r).bind fun r'=>evSs (jaa U W P (n + 2)) U W jaN r') (ks.map fun (j:Nat)=>D.int j) [.dat (jar b ss),.dat (jar b ss),s]=.ok (.nx [.dat (jar b ss),.dat (jar b ss),t])
 |[],s,_=>⟨s,rfl⟩
 |k::ks,s,h=>by
  obtain⟨t,e⟩:=jd8 b ss ks (.dat (.int k)) fun j hj=>h j (juL _ hj);refine⟨t,?_⟩;simp only[juR,ja2];have e2:(putT [2] true (.int k) [.dat (jar b ss),.dat (jar b ss),s])=.ok [.dat (jar b ss),.dat (jar b ss),.dat (.int k)]:=rfl;rw[e2,R.bind_ok',jiY b ss k (h k juM),R.bind_ok'];exact e
theorem jlg (b:List Int)(ss:List (List Int))(hl:ss.length<=1000):CD W (n + 3) 14 [.dat (jar b ss),.dat (jar b ss)]=.ok (.dat (.bl true),[.no,.no]):=by
 rw[CD,jai (d:=⟨2,3,jaU⟩) rfl rfl];obtain⟨t,e⟩:=jd8 (W:=W) (n:=n) b ss (List.range ss.length) .no fun k hk=>List.mem_range.mp hk;show (evSs (jaa U W P (n + 2)) U W jaU [.dat (jar b ss),.dat (jar b ss),.no]).bind (jcy 2)=_;unfold jaU;have t1:evT (jaa U W P (n + 2)) U (.or (.not (.isi (.var 0) [.tuple])) (.or (.cmp .ne (.blt .len (.var 0)) (.lit (.int 2))) (.not (.call 9 [] (.cons (.idx (.var 0) (.lit (.int 0))) (.cons (.idx (.var 1) (.lit (.int 0))) .nil)))))) [.dat (jar b ss),.dat (jar b ss),.no]=.ok (false,[.dat (jar b ss),.dat (jar b ss),.no]):=
  jpV rfl (jpV rfl (jbp (b:=true) (jck (ds:=[tu b,tu b]) rfl (jse (W:=W) (n:=n) b))))
 have t2:evT (jaa U W P (n + 2)) U (.or (.not (.isi (.idx (.var 0) (.lit (.int 1))) [.tuple])) (.cmp .ne (.blt .len (.idx (.var 0) (.lit (.int 1)))) (.blt .len (.idx (.var 1) (.lit (.int 1)))))) [.dat (jar b ss),.dat (jar b ss),.no]=.ok (false,[.dat (jar b ss),.dat (jar b ss),.no]):=by
  refine jpV rfl ?_;simp_arith[jar,beq_self_eq_true]
 rw[jah (jit t1),jah (jit t2)];rw[jah (ρ':=[.dat (jar b ss),.dat (jar b ss),t]) (by
  have hr:jdd (.int ((ss.map tu).length:Int))=.ok ((List.range ss.length).map fun (j:Nat)=>D.int j):=by rw[juT];exact jco _ (by omega)
  have hi:evI (jaa U W P (n + 2)) U (.rng1 (.blt .len (.idx (.var 1) (.lit (.int 1))))) [.dat (jar b ss),.dat (jar b ss),.no]=.ok ((List.range ss.length).map fun (j:Nat)=>D.int j,[],[.dat (jar b ss),.dat (jar b ss),.no]):=by
   simp_arith[jar,hr]
  rw[evS,hi,R.bind_ok'];simp only[];rw[e];rfl)]
 simp_arith[]
 rfl
theorem jgd (d sq:D)(he:CD W n 4 [.dat d,.dat sq]=.err 2):CD W (n + 1) 15 [.dat d,.dat sq]=.ok (.dat (.bl true),[.no,.no]):=by
 rw[CD,jai (d:=⟨2,4,jaz⟩) rfl rfl];have e:=jkJ (G:=jaa U W P n) (U:=U) (k:=4) (ρ:=[.dat d,.dat sq,.own (.l []) false false,.no]) (es:=.cons (.var 0) (.cons (.var 1) .nil)) [d,sq] rfl he;have h1:evS (jaa U W P n) U W (.expr (.call 4 [] (.cons (.var 0) (.cons (.var 1) .nil)))) [.dat d,.dat sq,.own (.l []) false false,.no]=.err 2:=by rw[evS,e];rfl
 have h2:evSs (jaa U W P n) U W jaW [.dat d,.dat sq,.no,.dat (.exc 2)]=.ok (.nx [.dat d,.dat sq,.own (.l [.bl true,.bl true,.bl false]) false false,.dat (.exc 2)]):=rfl;show (evSs (jaa U W P n) U W jaz [.dat d,.dat sq,.no,.no]).bind (jcy 2)=_;unfold jaz;rw[jah (ρ':=[.dat d,.dat sq,.own (.l []) false false,.no]) (by simp_arith[])]
 rw[jah (ρ':=[.dat d,.dat sq,.own (.l [.bl true,.bl true,.bl false]) false false,.no]) (by
  rw[evS,h1];dsimp only;rw[if_pos (show U 2 0=true from rfl)];show ((evSs (jaa U W P n) U W jaW [.dat d,.dat sq,.no,.dat (.exc 2)]).noErr).bind _=_;rw[h2];rfl)]
 rfl
theorem jtF {α:Type}(xs:List α):cut xs (some (1:Int)) none=xs.drop 1:=jbV xs 1
theorem jtG {α:Type}(xs:List α):cut xs none (some (-1:Int))=xs.dropLast:=by
 unfold cut sIx;simp only[Nat.sub_zero,List.drop_zero];rw[if_pos (by decide),List.dropLast_eq_take]
 congr 1
 omega
noncomputable def ji1 (one:List Int):List D:=[tu (one++[1]),tu (one.drop 1),.lst (one.map D.int),.non,.bl true,.int 3,.str "1",.tup [tu one],tu (one.dropLast++[-1]),.tup (one.dropLast.map D.int++[.non])]
theorem jtH (one:List Int)(c:Int)(hl:one.length<=4):∃d∈ji1 one,CD W (n + 1) 16 [.dat (tu one),.dat (.int c)]=.ok (.dat d,[.no,.no]):=by
 have f1:fits ((one.map D.int).length + 1)=true:=jaq (by simp;omega)
 have f2:fits ((one.dropLast.map D.int).length + 1)=true:=jaq (by simp;omega)
 have c1:cut (one.map D.int) (some (1:Int)) none=(one.drop 1).map D.int:=by rw[jaV,jtF]
 have c2:cut (one.map D.int) none (some (-1:Int))=one.dropLast.map D.int:=by rw[jaV,jtG]
 have hm:c % 10=(((c % 10).toNat:Nat):Int):=by omega
 have hlt:(c % 10).toNat < (ji1 one).length:=by simp[ji1];omega
 have g:=jqr (xs:=ji1 one) (juK hlt);rw[<-hm]at g;refine⟨(ji1 one)[(c % 10).toNat],List.getElem_mem hlt,?_⟩;rw[CD,jai (d:=⟨2,3,jbu⟩) rfl rfl];show (evSs (jaa U W P n) U W jbu [.dat (tu one),.dat (.int c),.no]).bind (jcy 2)=_;unfold jbu;rw[jah (ρ':=[.dat (tu one),.dat (.int c),.own (.l (ji1 one)) false false]) (by
  simp_arith[tu,f1,f2,c1,c2]
  simp only[ji1,tu,List.map_append,juR,List.map_nil])]
 simp_arith[g]
 rfl
theorem jhg {one:List Int}:∀d∈ji1 one,san d=true:=by
 intro d hd;simp only[ji1,juN,jvb,or_false]at hd;rcases hd with rfl | rfl | rfl | rfl | rfl | rfl | rfl | rfl | rfl | rfl
 ·exact jaI _
 ·exact jaI _
 ·simp only[san];exact jcM fun x hx=>by obtain⟨i,_,rfl⟩:=List.mem_map.mp hx;simp only[san]
 ·simp only[san]
 ·simp only[san]
 ·simp only[san]
 ·simp only[san]
 ·simp only[san,sans,jaI,Bool.and_self]
 ·exact jaI _
 ·simp only[san];refine jcM fun x hx=>?_;rcases List.mem_append.mp hx with hx | hx
  ·obtain⟨i,_,rfl⟩:=List.mem_map.mp hx;simp only[san]
  ·rw[List.mem_singleton.mp hx];simp only[san]
theorem je4 {xs:List D}{x:D}(hx:x∈xs)(h:nnI x=false):jdu (.tup xs)=false:=by
 simp only[jdu];rw[Bool.and_eq_false_iff];refine .inr ?_;rw[List.all_eq_false];exact⟨x,hx,by rw[h];exact jvx⟩
theorem jlh {l:Nat}{one:List Int}(h1:1<=l)(hl:one.length=l):∀d∈ji1 one,jbM d l=false:=by
 have len:∀{d:D},jca d≠l->jbM d l=false:=fun {d} h=>by
  unfold jbM;rw[show (jca d == l)=false from by simpa using h,Bool.and_false]
 have tal:∀{d:D},jdu d=false->jbM d l=false:=fun {d} h=>by
  unfold jbM;rw[h,Bool.false_and]
 intro d hd;simp only[ji1,juN,jvb,or_false]at hd;rcases hd with rfl | rfl | rfl | rfl | rfl | rfl | rfl | rfl | rfl | rfl
 ·exact len (by rw[jaX,juY,hl];simp)
 ·exact len (by rw[jaX,List.length_drop,hl];omega)
 ·exact tal rfl
 ·exact tal rfl
 ·exact tal rfl
 ·exact tal rfl
 ·exact tal rfl
 ·exact tal (je4 juM rfl)
 ·exact tal (je4 (x:=.int (-1)) (by simp) (by decide))
 ·exact tal (je4 (x:=.non) (by simp) rfl)
end Law
namespace Law
open PySem L2 DJ
variable {W n:Nat}
section
variable {G:Calls}{ρ ρ1 ρ2 ρ3:Rho}{k:Nat}{es:Es}{vs:List Vl}{sls fin:List Sl}{bk:List (Option (Nat×Bool×Bool))}{c c':E}{a:Ss}{b:Bool}
theorem jcw {v:Vl}(he:evAs G U es ρ=.ok (vs,ρ1))(hp:jaD [] vs ρ1=.ok (sls,bk,ρ2))(hG:G k sls=.ok (v,fin))(hb:ja1 bk fin ρ2=ρ3):evE G U (.call k [] es) ρ=.ok (v,ρ3):=by
 simp only[evE,he,R.bind_ok',hp,hG,hb]
theorem jav {b:Bool}(he:evAs G U es ρ=.ok (vs,ρ1))(hp:jaD [] vs ρ1=.ok (sls,bk,ρ2))(hG:G k sls=.ok (.dat (.bl b),fin))(hb:ja1 bk fin ρ2=ρ3):evT G U (.call k [] es) ρ=.ok (b,ρ3):=by
 simp only[evT,he,R.bind_ok',hp,hG,hb,ja5,jnc]
theorem jns (h:evT G U c ρ=.ok (false,ρ1))(h':evT G U c' ρ1=.ok (b,ρ2)):evT G U (.or c c') ρ=.ok (b,ρ2):=by simp only[evT,h,R.bind_ok',jvw,if_false,h']
theorem je5 (h:evT G U c ρ=.ok (false,ρ1)):evS G U W (.ife c a .nil) ρ=.ok (.nx ρ1):=by simp only[evS,h,R.bind_ok',jvw,if_false,evSs]
end
theorem jge:∀(ks:List (List Int)),eqDs (ks.map tu) (ks.map tu)=true
 |[]=>rfl
 |k::ks=>by simp only[juR,eqDs,jld,jge ks,decide_true,Bool.and_self]
theorem jsg (ks:List (List Int)):eqR (.lst (ks.map tu)) (.lst (ks.map tu))=.ok true:=by
 have:=je2 ks;have h4:decide (jcP (.lst (ks.map tu))<=12)=true:=decide_eq_true (by simp only[jcP];omega)
 unfold eqR;rw[h4];simp only[jbF,je1,eqD,jge];rfl
theorem jqi (ss:List (List Int)):stp ss.reverse=stp ss:=jqh fun x=>List.mem_reverse
theorem jt9 {α:Type}(xs:List α)(a:Nat):cut xs none (some (a:Int))=xs.take a:=jbU xs a
theorem jli (ss:List (List Int)):(stp ss).length<=ss.length:=by
 unfold stp;rw[je3];exact jvt (jeV _) (List.length_filter_le _ _)
theorem jsh (c:Int)(l:Nat)(h1:1<=l)(h4:l<=4):CD W (n + 6) 17 [.dat (.int c),.dat (.int l)]=.ok (.dat (jar (jeY (c / 5) l) (stp (jaJ c l))),[.no,.no]):=by
 rw[CD,jai (d:=⟨2,7,ja8⟩) rfl rfl];have hb:=jeZ (c / 5) l;obtain⟨⟨hs1,hs8⟩,hs⟩:=jhS c l;have L1:=jhQ (W:=W) (n:=n + 3) (c / 5) l h4;have L2:=jnp (W:=W) (n:=n + 2) c l h4;have oddc:∀x:Int,∃d∈ji1 (jeY (c / 5) l),CD W (n + 5) 16 [.dat (tu (jeY (c / 5) l)),.dat (.int x)]=.ok (.dat d,[.no,.no]):=fun x=>jtH (W:=W) (n:=n + 4) _ x (by rw[hb.1];exact h4)
 generalize hB:jeY (c / 5) l=b at *;generalize hS:jaJ c l=ss at *;have hne:∀k∈ss,k≠[]:=fun k hk z=>by have:=(hs k hk).1;rw[z]at this;simp at this;omega
 have hnn:∀k∈ss,∀x∈k,0<=x:=fun k hk=>(hs k hk).2;have fan:∀(sq:D) (ss':List (List Int)),jaA sq=.ok (ss'.map tu)->(∀k∈ss',Tal l k)->ss'.length < 64->CD W (n + 5) 4 [.dat (tu b),.dat sq]=.ok (.dat (jar b (stp ss')),[.no,.no]):=fun sq ss' e1 e2 e3=>jtA (W:=W) (n:=n + 1) b sq ss' h1 h4 hb e1 e2 e3;have alike:=jlg (W:=W) (n:=n + 2) b (stp ss) (by have:=jli ss;omega)
 show (evSs (jaa U W P (n + 5)) U W ja8 [.dat (.int c),.dat (.int l),.no,.no,.no,.no,.no]).bind (jcy 2)=_;unfold ja8;rw[jah (ρ':=[.dat (.int c),.dat (.int l),.dat (tu b),.no,.no,.no,.no]) (jfQ (jan [.int (c / 5),.int l] rfl L1) (by simp))]
 rw[jah (ρ':=[.dat (.int c),.dat (.int l),.dat (tu b),.own (.l (ss.map tu)) false false,.no,.no,.no]) (jr1 (jan [.int c,.int l] rfl L2) (by simp))]
 rw[jah (ρ':=[.dat (.int c),.dat (.int l),.dat (tu b),.dat (.lst (ss.map tu)),.dat (jar b (stp ss)),.no,.no]) (jfQ (ρ':=[.dat (.int c),.dat (.int l),.dat (tu b),.dat (.lst (ss.map tu)),.no,.no,.no]) (jcw (as2 rfl rfl) rfl (jsf (W:=W) (n:=n + 4) b ss hne hnn (by omega)) rfl) (by simp))]
 rw[jah (ρ':=[.dat (.int c),.dat (.int l),.dat (tu b),.dat (.lst (ss.map tu)),.dat (jar b (stp ss)),.own (.l (ss.map tu)) false false,.no]) (by simp_arith[])]
 rw[jah (ρ':=[.dat (.int c),.dat (.int l),.dat (tu b),.dat (.lst (ss.map tu)),.dat (jar b (stp ss)),.dat (.lst (ss.map tu)),.no]) (je5 (jns (ρ1:=[.dat (.int c),.dat (.int l),.dat (tu b),.dat (.lst (ss.map tu)),.dat (jar b (stp ss)),.dat (.lst (ss.map tu)),.no]) (jbp (b:=true) (jav (as2 (jcw (as2 rfl rfl) rfl (fan (.lst (ss.map tu)) ss rfl hs (by omega)) rfl) rfl) rfl alike rfl)) (by
  simp_arith[jsg])))]
 rw[jah (ρ':=[.dat (.int c),.dat (.int l),.dat (tu b),.dat (.lst (ss.map tu)),.dat (jar b (stp ss)),.dat (.lst (ss.map tu)),.no]) (je5 (jns (jbp (b:=true) (jav (as2 (jcw (as2 rfl rfl) rfl (by
   have:=fan (.tup (ss.map tu).reverse) ss.reverse (by rw[List.map_reverse];rfl) (fun k hk=>hs k (List.mem_reverse.mp hk)) (by rw[List.length_reverse];omega)
   rw[jqi]at this;exact this) rfl) rfl) rfl alike rfl)) (jbp (b:=true) (jav (as2 (jcw (as2 rfl rfl) rfl (fan (.tup []) [] rfl (fun k hk=>by cases hk) (by simp)) rfl) rfl) rfl (jlg (W:=W) (n:=n + 2) b [] (by simp)) rfl))))]
 have hp:(0:Int) < ((ss.map tu).length:Int) + 1:=by omega
 have hat:∃a:Nat,a<=ss.length/\c / 7 % (((ss.map tu).length:Int) + 1)=a:=by
  have q1:=Int.emod_nonneg (c / 7) (show ((ss.map tu).length:Int) + 1≠0 by omega)
  have q2:=Int.emod_lt_of_pos (c / 7) hp;rw[juT]at q1 q2 ⊢;exact⟨(c / 7 % ((ss.length:Int) + 1)).toNat,by omega,by omega⟩
 obtain⟨a,ha,ea⟩:=hat;rw[jah (ρ':=[.dat (.int c),.dat (.int l),.dat (tu b),.dat (.lst (ss.map tu)),.dat (jar b (stp ss)),.dat (.lst (ss.map tu)),.dat (.int a)]) (by simp_arith[if_pos hp,ea])]
 obtain⟨d,hd,ed⟩:=oddc (c / 50);have hl1:b.length=l:=hb.1;have e8:evE (jaa U W P (n + 5)) U (.bin .add (.bin .add (.slc (.var 3) .none (.some (.var 6))) (.lst (.cons (.call 16 [] (.cons (.var 2) (.cons (.bin .fdiv (.var 0) (.lit (.int 50))) .nil))) .nil))) (.slc (.var 3) (.some (.var 6)) .none)) [.dat (.int c),.dat (.int l),.dat (tu b),.dat (.lst (ss.map tu)),.dat (jar b (stp ss)),.dat (.lst (ss.map tu)),.dat (.int a)]=.ok (.tmp (.l ((ss.take a).map tu++[d]++(ss.drop a).map tu)),[.dat (.int c),.dat (.int l),.dat (tu b),.dat (.lst (ss.map tu)),.dat (jar b (stp ss)),.dat (.lst (ss.map tu)),.dat (.int a)]):=by
  have eo:=jan (G:=jaa U W P (n + 5)) (U:=U) (k:=16) (ρ:=[.dat (.int c),.dat (.int l),.dat (tu b),.dat (.lst (ss.map tu)),.dat (jar b (stp ss)),.dat (.lst (ss.map tu)),.dat (.int a)]) (es:=.cons (.var 2) (.cons (.bin .fdiv (.var 0) (.lit (.int 50))) .nil)) [tu b,.int (c / 50)] rfl ed;have c1:cut (ss.map tu) none (some (a:Int))=(ss.take a).map tu:=by rw[jaV,jbU]
  have c2:cut (ss.map tu) (some (a:Int)) none=(ss.drop a).map tu:=by rw[jaV,jbV]
  have f1:fits (((ss.take a).map tu).length + 1)=true:=jaq (by simp;omega)
  have f2:fits (((ss.take a).map tu++[d]).length + ((ss.drop a).map tu).length)=true:=jaq (by simp;omega)
  have eb:evE (jaa U W P (n + 5)) U (.lst (.cons (.call 16 [] (.cons (.var 2) (.cons (.bin .fdiv (.var 0) (.lit (.int 50))) .nil))) .nil)) [.dat (.int c),.dat (.int l),.dat (tu b),.dat (.lst (ss.map tu)),.dat (jar b (stp ss)),.dat (.lst (ss.map tu)),.dat (.int a)]=.ok (.tmp (.l [d]),[.dat (.int c),.dat (.int l),.dat (tu b),.dat (.lst (ss.map tu)),.dat (jar b (stp ss)),.dat (.lst (ss.map tu)),.dat (.int a)]):=by
   rw[evE,evEs,eo];rfl
  have ea1:evE (jaa U W P (n + 5)) U (.slc (.var 3) .none (.some (.var 6))) [.dat (.int c),.dat (.int l),.dat (tu b),.dat (.lst (ss.map tu)),.dat (jar b (stp ss)),.dat (.lst (ss.map tu)),.dat (.int a)]=.ok (.tmp (.l ((ss.take a).map tu)),[.dat (.int c),.dat (.int l),.dat (tu b),.dat (.lst (ss.map tu)),.dat (jar b (stp ss)),.dat (.lst (ss.map tu)),.dat (.int a)]):=by simp_arith[c1]
  have ea2:evE (jaa U W P (n + 5)) U (.slc (.var 3) (.some (.var 6)) .none) [.dat (.int c),.dat (.int l),.dat (tu b),.dat (.lst (ss.map tu)),.dat (jar b (stp ss)),.dat (.lst (ss.map tu)),.dat (.int a)]=.ok (.tmp (.l ((ss.drop a).map tu)),[.dat (.int c),.dat (.int l),.dat (tu b),.dat (.lst (ss.map tu)),.dat (jar b (stp ss)),.dat (.lst (ss.map tu)),.dat (.int a)]):=by simp_arith[c2]
  rw[evE,evE,ea1,R.bind_ok'];simp only[];rw[eb,R.bind_ok'];simp only[jbq,jgG,R.bind_ok',jc0,juU,ju6,Nat.reduceAdd,f1,if_true];rw[ea2,R.bind_ok'];simp only[jbq,jgG,R.bind_ok',jc0,f2,if_true]
 have tb:=jeW hb h1 h4;have r8:=jgd (W:=W) (n:=n + 4) (tu b) (.lst ((ss.take a).map tu++[d]++(ss.drop a).map tu)) (jga (W:=W) (n:=n) (tu b) _ ((ss.take a).map tu++[d]++(ss.drop a).map tu) (jaI b) tb rfl (fun x hx=>by
   rcases List.mem_append.mp hx with hx | hx
   ·rcases List.mem_append.mp hx with hx | hx
    ·obtain⟨k,_,rfl⟩:=List.mem_map.mp hx;exact jaI k
    ·rw[List.mem_singleton.mp hx];exact jhg d hd
   ·obtain⟨k,_,rfl⟩:=List.mem_map.mp hx;exact jaI k) (by
   rw[List.all_eq_false];refine⟨d,by simp,?_⟩
   rw[jaX,jlh (l:=b.length) (by omega) rfl d hd]
   exact jvx))
 rw[jah (ρ':=[.dat (.int c),.dat (.int l),.dat (tu b),.dat (.lst (ss.map tu)),.dat (jar b (stp ss)),.dat (.lst (ss.map tu)),.dat (.int a)]) (je5 (jbp (b:=true) (jav (as2 rfl e8) rfl r8 rfl)))];obtain⟨d,hd,ed⟩:=oddc (c / 11);have r9:CD W (n + 5) 15 [.dat d,.dat (.lst (ss.map tu))]=.ok (.dat (.bl true),[.no,.no]):=by
  refine jgd (W:=W) (n:=n + 4) d _ ?_;have bad:=jlh (l:=b.length) (by omega) rfl d hd
  cases ht:jdu d with
  |false=>exact jk3 (W:=W) (n:=n) d _ (jhg d hd) ht
  |true=>
   refine jga (W:=W) (n:=n) d _ (ss.map tu) (jhg d hd) ht rfl (fun x hx=>by obtain⟨k,_,rfl⟩:=List.mem_map.mp hx;exact jaI k) ?_
   cases ss with
   |nil=>simp at hs1
   |cons k r=>
    rw[List.all_eq_false];refine⟨tu k,by simp,fun z=>?_⟩
    unfold jbM at bad z;rw[ht,Bool.true_and]at bad;simp only[jvv,beq_iff_eq]at z;rw[jaX,(hs k juM).1]at z;rw[hl1,<-z.2]at bad;simp at bad
 rw[jah (ρ':=[.dat (.int c),.dat (.int l),.dat (tu b),.dat (.lst (ss.map tu)),.dat (jar b (stp ss)),.dat (.lst (ss.map tu)),.dat (.int a)]) (je5 (jbp (b:=true) (jav (as2 (jan [tu b,.int (c / 11)] rfl ed) rfl) rfl r9 rfl)))];rfl
end Law
namespace Law
open PySem L2 DJ
variable {W n:Nat}
theorem jlj:∀{ks:List (List Int)},jlt ks=true->Srt ks
 |[],_=>List.Pairwise.nil
 |[k],_=>List.pairwise_singleton _ _
 |a::b::r,h=>by
  have h':DJ.lexLt a b=true/\jlt (b::r)=true:=by
   simpa[jlt] using h
  have ih:=jlj h'.2;refine List.pairwise_cons.mpr ⟨fun y hy=>?_,ih⟩;rcases List.mem_cons.mp hy with rfl | hy
  ·exact h'.1
  ·exact lt_trans h'.1 ((List.pairwise_cons.mp ih).1 y hy)
theorem jlk:∀{ks:List (List Int)},Srt ks->jlt ks=true
 |[],_=>rfl
 |[k],_=>rfl
 |a::b::r,h=>by
  have h':=List.pairwise_cons.mp h;have ih:=jlk h'.2;have:jlt (a::b::r)=(DJ.lexLt a b && jlt (b::r)):=by simp[jlt]
  rw[this,ih,h'.1 b juM];rfl
theorem jsi {ks:List (List Int)}(h:Srt ks):ks.Nodup:=h.imp fun {a b} q z=>by
 rw[z,jd7]at q;cases q
noncomputable abbrev Fan:=List Int×List (List Int)
noncomputable def fD (f:Fan):D:=jar f.1 f.2
structure GF (l:Nat)(f:Fan):Prop where
 b:Tal l f.1
 s:∀k∈f.2,Tal l k/\nz k=true
 o:Srt f.2
 n:f.2.length<=8
theorem jam {xs:List D}(h:∀x∈xs,san x=true):san (.tup xs)=true:=by
 simp only[san];exact jcM h
theorem je6 {xs:List D}(h:∀x∈xs,san x=true):san (.lst xs)=true:=by
 simp only[san];exact jcM h
theorem jbN {ks:List (List Int)}:∀x∈ks.map tu,san x=true:=fun x hx=>by
 obtain⟨k,_,rfl⟩:=List.mem_map.mp hx;exact jaI k
theorem jnt {k:List Int}:∀x∈k.map D.int,san x=true:=fun x hx=>by
 obtain⟨i,_,rfl⟩:=List.mem_map.mp hx;simp only[san]
theorem jbl {a b:D}(ha:san a=true)(hb:san b=true):∀x∈[a,b],san x=true:=fun x hx=>by
 simp only[juN,jvb,or_false]at hx;rcases hx with rfl | rfl
 ·exact ha
 ·exact hb
theorem jll (b:List Int)(ss:List (List Int)):san (jar b ss)=true:=jam (jbl (jaI b) (jam jbN))
theorem jcx {l:Nat}{f:Fan}(h1:1<=l)(h4:l<=4)(g:GF l f):jeX (fD f)=true/\fl (fD f)=l:=by
 refine⟨?_,by show jca (tu f.1)=l;rw[jaX];exact g.b.1⟩
 show (jdu (tu f.1) && jbi (.tup (f.2.map tu)) (jca (tu f.1)))=true;rw[jeW g.b h1 h4,jaX,g.b.1,Bool.true_and];simp only[jbi,jhc,jlk g.o,Bool.and_true,ju3];intro x hx;obtain⟨k,hk,rfl⟩:=List.mem_map.mp hx;unfold jdv;rw[jhM (g.s k hk).1 h1 h4,jgb,(g.s k hk).2];rfl
theorem jhV {l:Nat}{fs:List Fan}(h1:1<=l)(h4:l<=4)(g:∀f∈fs,GF l f):jk6 (.tup (fs.map fD))=true:=by
 simp only[jk6,jvv,ju3];refine⟨fun x hx=>?_,fun x hx=>?_⟩
 ·obtain⟨f,hf,rfl⟩:=List.mem_map.mp hx;exact(jcx h1 h4 (g f hf)).1
 ·obtain⟨f,hf,rfl⟩:=List.mem_map.mp hx;cases fs with
  |nil=>cases hf
  |cons f0 r=>
   rw[(jcx h1 h4 (g f hf)).2];show (l == fl (fD f0))=true;rw[(jcx h1 h4 (g f0 juM)).2];simp
theorem jlm {xs:List D}{d:D}(hd:d∈xs)(h:jeX d=false):jk6 (.tup xs)=false:=by
 simp only[jk6];rw[show xs.all jeX=false from List.all_eq_false.mpr ⟨d,hd,by rw[h];exact jvx⟩]
 rfl
theorem joa (b:List Int):jeX (tu b)=false:=by
 unfold tu;match b with
 |[]=>rfl
 |[_]=>rfl
 |[_,_]=>rfl
 |_::_::_::_=>rfl
theorem jln {b:D}{xs:List D}{x:D}(hx:x∈xs)(h:jdv (jca b) x=false):jeX (.tup [b,.tup xs])=false:=by
 show (jdu b && jbi (.tup xs) (jca b))=false;simp only[jbi];rw[show xs.all (jdv (jca b))=false from List.all_eq_false.mpr ⟨x,hx,by rw[h];exact jvx⟩]
 simp
theorem jlo {b:D}{ks:List (List Int)}(h:¬ Srt ks):jeX (.tup [b,.tup (ks.map tu)])=false:=by
 show (jdu b && jbi (.tup (ks.map tu)) (jca b))=false;simp only[jbi,jhc];have:jlt ks=false:=by
  cases e:jlt ks with
  |false=>rfl
  |true=>exact absurd (jlj e) h
 rw[this];simp
theorem jqj:∀(l:Nat),nz (List.replicate l 0)=false:=fun l=>by simp[nz]
noncomputable def jhW (b:List Int)(ss:List (List Int))(a:Nat):List D:=
 [.tup [tu b,.lst (ss.map tu)],.lst [tu b,.tup (ss.map tu)],.tup [tu b],.tup [tu b,.tup (ss.map tu),.tup (ss.map tu)],.tup [.lst (b.map D.int),.tup (ss.map tu)],
  .tup [tu b,.tup ((ss.take a).map tu++[tu (List.replicate b.length 0)]++(ss.drop a).map tu)],.tup [tu (b++[0]),.tup (ss.map tu++[tu [1]])],tu b]
noncomputable def jiZ (ss:List (List Int))(a:Nat):List (List Int):=ss.take a++[ss.getD (a % ss.length) []]++ss.drop a
noncomputable def jhh (b:List Int)(ss:List (List Int))(a:Nat):List D:=if 0 < ss.length then (jhW b ss a).set 0 (.tup [tu b,.tup ((jiZ ss a).map tu)])else jhW b ss a
noncomputable def jnu (b:List Int)(ss:List (List Int))(a:Nat):List D:=if 1 < ss.length then (jhh b ss a).set 2 (.tup [tu b,.tup (ss.reverse.map tu)])else jhh b ss a
theorem jhX {b:List Int}{ss:List (List Int)}{a:Nat}(h1:1<=b.length):∀d∈jhW b ss a,san d=true/\jeX d=false:=by
 intro d hd;have sb:=jaI b;have s2:san (.tup (ss.map tu))=true:=jam jbN;simp only[jhW,juN,jvb,or_false]at hd;rcases hd with rfl | rfl | rfl | rfl | rfl | rfl | rfl | rfl
 ·refine⟨jam (jbl sb (je6 jbN)),?_⟩;show (jdu (tu b) && jbi (.lst (ss.map tu)) (jca (tu b)))=false;simp[jbi]
 ·exact⟨je6 (jbl sb s2),rfl⟩
 ·exact⟨jam fun x hx=>by rw[List.mem_singleton.mp hx];exact sb,rfl⟩
 ·refine⟨jam fun x hx=>?_,rfl⟩;rcases List.mem_cons.mp hx with rfl | hx
  ·exact sb
  ·exact jbl s2 s2 x hx
 ·exact⟨jam (jbl (je6 jnt) s2),rfl⟩
 ·refine⟨jam (jbl sb (jam fun x hx=>?_)),jln (x:=tu (List.replicate b.length 0)) (by simp) ?_⟩
  ·rcases List.mem_append.mp hx with hx | hx
   ·rcases List.mem_append.mp hx with hx | hx
    ·exact jbN x hx
    ·rw[List.mem_singleton.mp hx];exact jaI _
   ·exact jbN x hx
  ·unfold jdv;rw[jgb,jqj,Bool.and_false]
 ·refine⟨jam (jbl (jaI _) (jam fun x hx=>?_)),jln (x:=tu [1]) (by simp) ?_⟩
  ·rcases List.mem_append.mp hx with hx | hx
   ·exact jbN x hx
   ·rw[List.mem_singleton.mp hx];exact jaI _
  ·have:(jca (tu [1]) == jca (tu (b++[0])))=false:=by
    rw[jaX,jaX];simp;intro z;rw[z]at h1;simp at h1
   unfold jdv jbM;rw[this];simp
 ·exact⟨sb,joa b⟩
theorem jlp {ss:List (List Int)}{a:Nat}(h0:0 < ss.length)(ha:a<=ss.length):¬ Srt (jiZ ss a):=fun h=>by
 have hnd:=jsi h;unfold jiZ at hnd;have hm:a % ss.length < ss.length:=Nat.mod_lt _ h0;have e:ss.getD (a % ss.length) []∈ss:=by
  rw[juS,juK hm];exact List.getElem_mem hm
 generalize ss.getD (a % ss.length) []=x at hnd e;have e':x∈ss.take a\/x∈ss.drop a:=by
  rw[<-List.take_append_drop a ss]at e;exact List.mem_append.mp e
 obtain⟨p1,p2,p3⟩:=List.nodup_append.mp hnd;rcases e' with e' | e'
 ·exact(List.nodup_append.mp p1).2.2 x e' x juM rfl
 ·exact p3 x (by simp) x e' rfl
theorem jqk {ss:List (List Int)}(h1:1 < ss.length)(h:Srt ss):¬ Srt ss.reverse:=fun z=>by
 have z:=List.pairwise_reverse.mp z;match ss,h1,h,z with
 |a::b::r,_,h,z=>
  have q1:=(List.pairwise_cons.mp h).1 b juM;have q2:=(List.pairwise_cons.mp z).1 b juM;rw[jhf q1]at q2;cases q2
theorem jnv {b:List Int}{ss:List (List Int)}{a:Nat}(h1:1<=b.length)(ha:a<=ss.length)(ho:Srt ss):∀d∈jnu b ss a,san d=true/\jeX d=false:=by
 have k1:∀d∈jhh b ss a,san d=true/\jeX d=false:=by
  intro d hd;unfold jhh at hd;split at hd
  ·rename_i h0;rcases List.mem_or_eq_of_mem_set hd with hd | rfl
   ·exact jhX h1 d hd
   ·exact⟨jam (jbl (jaI b) (jam jbN)),jlo (jlp h0 ha)⟩
  ·exact jhX h1 d hd
 intro d hd;unfold jnu at hd;split at hd
 ·rename_i h0;rcases List.mem_or_eq_of_mem_set hd with hd | rfl
  ·exact k1 d hd
  ·exact⟨jam (jbl (jaI b) (jam jbN)),jlo (jqk h0 ho)⟩
 ·exact k1 d hd
theorem jql (b:List Int)(ss:List (List Int))(a:Nat):(jhW b ss a).length=8/\(jhh b ss a).length=8/\(jnu b ss a).length=8:=by
 have h0:(jhW b ss a).length=8:=rfl;have h1:(jhh b ss a).length=8:=by
  unfold jhh;split
  ·rw[ju8];exact h0
  ·exact h0
 refine⟨h0,h1,?_⟩;unfold jnu;split
 ·rw[ju8];exact h1
 ·exact h1
theorem jnw {l:Nat}(b:List Int)(ss:List (List Int))(c:Int)(h1:1<=l)(h4:l<=4)(g:GF l (b,ss)):∃d,CD W (n + 1) 19 [.dat (jar b ss),.dat (.int c)]=.ok (.dat d,[.no,.no])/\san d=true/\jeX d=false:=by
 have hbl:b.length=l:=g.b.1;have hn:ss.length<=8:=g.n;have hp:(0:Int) < ((ss.map tu).length:Int) + 1:=by omega
 have hat:∃a:Nat,a<=ss.length/\c / 9 % (((ss.map tu).length:Int) + 1)=a:=by
  have q1:=Int.emod_nonneg (c / 9) (show ((ss.map tu).length:Int) + 1≠0 by omega)
  have q2:=Int.emod_lt_of_pos (c / 9) hp;rw[juT]at q1 q2 ⊢;exact⟨(c / 9 % ((ss.length:Int) + 1)).toNat,by omega,by omega⟩
 obtain⟨a,ha,ea⟩:=hat;obtain⟨l0,l1,l2⟩:=jql b ss a;have hm:c % 8=(((c % 8).toNat:Nat):Int):=by omega
 have hlt:(c % 8).toNat < (jnu b ss a).length:=by omega
 have gk:=jqr (xs:=jnu b ss a) (juK hlt);rw[<-hm]at gk;refine⟨(jnu b ss a)[(c % 8).toNat],?_,jnv (by omega) ha g.o _ (List.getElem_mem hlt)⟩
 rw[CD,jai (d:=⟨2,6,jaH⟩) rfl rfl];show (evSs (jaa U W P n) U W jaH [.dat (jar b ss),.dat (.int c),.no,.no,.no,.no]).bind (jcy 2)=_;unfold jaH;rw[jah (ρ':=[.dat (jar b ss),.dat (.int c),.dat (tu b),.dat (.tup (ss.map tu)),.no,.no]) rfl];rw[jah (ρ':=[.dat (jar b ss),.dat (.int c),.dat (tu b),.dat (.tup (ss.map tu)),.dat (.int a),.no]) (by simp_arith[if_pos hp,ea])]
 have c1:cut (ss.map tu) none (some (a:Int))=(ss.take a).map tu:=by rw[jaV,jbU]
 have c2:cut (ss.map tu) (some (a:Int)) none=(ss.drop a).map tu:=by rw[jaV,jbV]
 have f1:fits (((ss.take a).map tu).length + 1)=true:=jaq (by simp;omega)
 have f2:∀d:D,fits (((ss.take a).map tu++[d]).length + ((ss.drop a).map tu).length)=true:=fun d=>jaq (by simp;omega)
 have mz:opD .mul (.tup [.int 0]) (.int ((b.map D.int).length:Int))=.ok (.dat (tu (List.replicate b.length 0))):=by
  rw[jeI,juT,if_pos ⟨by omega,by omega,jaq (by rw[Int.toNat_natCast];simp;omega)⟩,Int.toNat_natCast,jqg]
  rfl
 have f3:fits ((b.map D.int).length + 1)=true:=jaq (by simp;omega)
 have f4:fits ((ss.map tu).length + 1)=true:=jaq (by simp;omega)
 rw[jah (ρ':=[.dat (jar b ss),.dat (.int c),.dat (tu b),.dat (.tup (ss.map tu)),.dat (.int a),.own (.l ((jhW b ss a).take 5)) false false]) (by
  simp_arith[tu]
  rfl)]
 rw[jah (ρ':=[.dat (jar b ss),.dat (.int c),.dat (tu b),.dat (.tup (ss.map tu)),.dat (.int a),.own (.l (jhW b ss a)) false false]) (by
  have l5:((jhW b ss a).take 5).length=5:=rfl;simp_arith[tu,c1,c2,f1,f2,f3,f4,mz,l5];simp only[jhW,tu,List.take,List.map_append,juR,List.map_nil,List.cons_append,List.nil_append])]
 have t5:∀(L:List D) (z:Int),evT (jaa U W P n) U (.cmp .gt (.blt .len (.var 3)) (.lit (.int z))) [.dat (jar b ss),.dat (.int c),.dat (tu b),.dat (.tup (ss.map tu)),.dat (.int a),.own (.l L) false false]=.ok (decide (z < (ss.length:Int)),[.dat (jar b ss),.dat (.int c),.dat (tu b),.dat (.tup (ss.map tu)),.dat (.int a),.own (.l L) false false]):=fun L z=>by
  simp_arith[juT]
 rw[jah (ρ':=[.dat (jar b ss),.dat (.int c),.dat (tu b),.dat (.tup (ss.map tu)),.dat (.int a),.own (.l (jhh b ss a)) false false]) (by
  have tt:=t5 (jhW b ss a) 0;unfold jhh;by_cases h0:0 < ss.length
  ·rw[decide_eq_true (show (0:Int) < (ss.length:Int)by omega)]at tt
   rw[if_pos h0,jeS tt];have hml:a % ss.length < ss.length:=Nat.mod_lt _ h0;have md:(a:Int) % ((ss.map tu).length:Int)=((a % ss.length:Nat):Int):=by rw[juT];rfl
   have am:DJ.atI (ss.map tu) ((a % ss.length:Nat):Int)=.ok (tu (ss.getD (a % ss.length) [])):=by
    rw[juS,juK hml];exact jqr (jlf hml)
   have hpl:(0:Int) < ((ss.map tu).length:Int):=by rw[juT];omega
   have e:evE (jaa U W P n) U (.tup (.cons (.var 2) (.cons (.bin .add (.bin .add (.slc (.var 3) .none (.some (.var 4))) (.tup (.cons (.idx (.var 3) (.bin .mod (.var 4) (.blt .len (.var 3)))) .nil))) (.slc (.var 3) (.some (.var 4)) .none)) .nil))) [.dat (jar b ss),.dat (.int c),.dat (tu b),.dat (.tup (ss.map tu)),.dat (.int a),.own (.l (jhW b ss a)) false false]=.ok (.dat (.tup [tu b,.tup ((jiZ ss a).map tu)]),[.dat (jar b ss),.dat (.int c),.dat (tu b),.dat (.tup (ss.map tu)),.dat (.int a),.own (.l (jhW b ss a)) false false]):=by
    simp_arith[c1,c2,f1,f2,if_pos hpl,md,am]
    simp only[jiZ,List.map_append,juR,List.map_nil]
   simp only[if_true];rw[jah (ρ':=[.dat (jar b ss),.dat (.int c),.dat (tu b),.dat (.tup (ss.map tu)),.dat (.int a),.own (.l ((jhW b ss a).set 0 (.tup [tu b,.tup ((jiZ ss a).map tu)]))) false false]) (by
    rw[evS,e];rfl)]
   simp only[evSs]
  ·rw[decide_eq_false (show ¬ (0:Int) < (ss.length:Int)by omega)]at tt
   rw[if_neg h0];exact jit tt)]
 rw[jah (ρ':=[.dat (jar b ss),.dat (.int c),.dat (tu b),.dat (.tup (ss.map tu)),.dat (.int a),.own (.l (jnu b ss a)) false false]) (by
  have tt:=t5 (jhh b ss a) 1;unfold jnu;by_cases h0:1 < ss.length
  ·rw[decide_eq_true (show (1:Int) < (ss.length:Int)by omega)]at tt
   rw[if_pos h0,jeS tt];have e:evE (jaa U W P n) U (.tup (.cons (.var 2) (.cons (.blt .revt (.var 3)) .nil))) [.dat (jar b ss),.dat (.int c),.dat (tu b),.dat (.tup (ss.map tu)),.dat (.int a),.own (.l (jhh b ss a)) false false]=.ok (.dat (.tup [tu b,.tup (ss.reverse.map tu)]),[.dat (jar b ss),.dat (.int c),.dat (tu b),.dat (.tup (ss.map tu)),.dat (.int a),.own (.l (jhh b ss a)) false false]):=by
    simp_arith[jkS,List.map_reverse]
   simp only[if_true];rw[jah (ρ':=[.dat (jar b ss),.dat (.int c),.dat (tu b),.dat (.tup (ss.map tu)),.dat (.int a),.own (.l ((jhh b ss a).set 2 (.tup [tu b,.tup (ss.reverse.map tu)]))) false false]) (by
    have hj:(0:Int)<=2/\(2:Int) < ((jhh b ss a).length:Int):=by rw[l1];decide
    rw[evS,e];show (if (0:Int)<=2/\(2:Int) < ((jhh b ss a).length:Int)then _ else _)=_;rw[if_pos hj];rfl)]
   simp only[evSs]
  ·rw[decide_eq_false (show ¬ (1:Int) < (ss.length:Int)by omega)]at tt
   rw[if_neg h0];exact jit tt)]
 simp_arith[gk]
 rfl
end Law
namespace Law
open PySem L2 DJ
variable {W n:Nat}
theorem jlq (c:Int)(l:Nat):GF l (jeY (c / 5) l,stp (jaJ c l)):=by
 obtain⟨⟨_,h8⟩,hs⟩:=jhS c l;refine⟨jeZ _ _,fun k hk=>?_,je0 _,?_⟩
 ·obtain⟨h1,h2⟩:=stp_mem.mp hk;exact⟨hs k h1,h2⟩
 ·have:=jli (jaJ c l);show (stp (jaJ c l)).length<=8;omega
theorem job {G:Calls}{ρ:Rho}{xs:List D}{f b:Bool}{x y:Int}(h1:ρ[1]?=some (.own (.l xs) f b))(h4:ρ[4]?=some (.dat (.int y)))(ha:DJ.atI xs y=.ok (.int x)):evE G U (.idx (.var 1) (.var 4)) ρ=.ok (.dat (.int x),ρ):=by
 simp_arith[h1,h4,ha]
theorem juG {G:Calls}{ρ:Rho}{xs:List D}{f b:Bool}{x y:Int}(h1:ρ[1]?=some (.own (.l xs) f b))(h4:ρ[4]?=some (.dat (.int y)))(ha:DJ.atI xs y=.ok (.int x)):evE G U (.bin .add (.bin .mul (.idx (.var 1) (.var 4)) (.lit (.int 3))) (.var 4)) ρ=.ok (.dat (.int (x * 3 + y)),ρ):=by
 have e:=job (G:=G) h1 h4 ha;have e3:evE G U (.bin .mul (.idx (.var 1) (.var 4)) (.lit (.int 3))) ρ=.ok (.dat (.int (x * 3)),ρ):=by
  rw[evE,e];simp_arith[]
 rw[evE,e3];simp_arith[h4]
theorem je7 {cs:List Int}{k:Nat}(h:k < cs.length):∃x,DJ.atI (cs.map D.int) (k:Int)=.ok (.int x):=by
 refine⟨cs[k],jqr ?_⟩;rw[juQ,juK h];rfl
theorem jgf {S0 s6 s7 s8 s9:Sl}(cs:List Int)(l:Nat)(h1:1<=l)(h4:l<=4):∀(ks:List Nat) (gs:List Fan) (s4 s5:Sl),(∀k∈ks,k < cs.length)->(∀f∈gs,GF l f)->gs.length + ks.length<=100 ->
  ∃(gs':List Fan) (t4 t5:Sl),ja2 (fun x r=>(putT [4] true x r).bind fun r'=>evSs (jaa U W P (n + 6)) U W jeJ r') (ks.map fun (j:Nat)=>D.int j) [S0,.own (.l (cs.map D.int)) false false,.dat (.int l),.own (.l (gs.map fD)) false false,s4,s5,s6,s7,s8,s9]=.ok (.nx [S0,.own (.l (cs.map D.int)) false false,.dat (.int l),.own (.l (gs'.map fD)) false false,t4,t5,s6,s7,s8,s9])/\(∀f∈gs',GF l f)/\gs'.length=gs.length + ks.length
 |[],gs,s4,s5,_,hg,_=>⟨gs,s4,s5,rfl,hg,rfl⟩
 |k::ks,gs,s4,s5,hk,hg,hl=>by
  rw[juU]at hl;obtain⟨x,hx⟩:=je7 (hk k juM);have em:=juG (G:=jaa U W P (n + 6)) (ρ:=[S0,.own (.l (cs.map D.int)) false false,.dat (.int l),.own (.l (gs.map fD)) false false,.dat (.int k),s5,s6,s7,s8,s9]) rfl rfl hx;generalize x * 3 + (k:Int)=c at em;have gm:=jlq c l;obtain⟨gs',t4,t5,e,hg',hlen⟩:=jgf (S0:=S0) (s6:=s6) (s7:=s7) (s8:=s8) (s9:=s9) cs l h1 h4 ks (gs++[(jeY (c / 5) l,stp (jaJ c l))]) (.dat (.int k)) (.dat (fD (jeY (c / 5) l,stp (jaJ c l)))) (fun j hj=>hk j (juL _ hj)) (fun f hf=>by
   rcases List.mem_append.mp hf with hf | hf
   ·exact hg f hf
   ·rw[List.mem_singleton.mp hf];exact gm) (by simp;omega)
  refine⟨gs',t4,t5,?_,hg',by rw[hlen];simp;omega⟩
  simp only[juR,ja2];have e2:(putT [4] true (.int k) [S0,.own (.l (cs.map D.int)) false false,.dat (.int l),.own (.l (gs.map fD)) false false,s4,s5,s6,s7,s8,s9])=.ok [S0,.own (.l (cs.map D.int)) false false,.dat (.int l),.own (.l (gs.map fD)) false false,.dat (.int k),s5,s6,s7,s8,s9]:=rfl;have ff:fits ((gs.map fD).length + 1)=true:=jaq (by simp;omega)
  have e3:evSs (jaa U W P (n + 6)) U W jeJ [S0,.own (.l (cs.map D.int)) false false,.dat (.int l),.own (.l (gs.map fD)) false false,.dat (.int k),s5,s6,s7,s8,s9]=.ok (.nx [S0,.own (.l (cs.map D.int)) false false,.dat (.int l),.own (.l ((gs++[(jeY (c / 5) l,stp (jaJ c l))]).map fD)) false false,.dat (.int k),.dat (fD (jeY (c / 5) l,stp (jaJ c l))),s6,s7,s8,s9]):=by
   unfold jeJ;rw[jah (ρ':=[S0,.own (.l (cs.map D.int)) false false,.dat (.int l),.own (.l (gs.map fD)) false false,.dat (.int k),.dat (fD (jeY (c / 5) l,stp (jaJ c l))),s6,s7,s8,s9]) (jfQ (jan [.int c,.int l] (as2 em rfl) (jsh (W:=W) (n:=n) c l h1 h4)) (by simp))]
   rw[jah (ρ':=[S0,.own (.l (cs.map D.int)) false false,.dat (.int l),.own (.l (gs.map fD)) false false,.dat (.int k),.dat (fD (jeY (c / 5) l,stp (jaJ c l))),s6,s7,s8,s9]) (jit rfl)];simp_arith[ff,List.map_append,juR,List.map_nil]
  rw[e2,R.bind_ok',e3,R.bind_ok'];exact e
theorem jlr {gs:List Fan}{p:Nat}(h:p < gs.length):DJ.atI (gs.map fD) (p:Int)=.ok (fD gs[p]):=jqr (by rw[juQ,juK h];rfl)
theorem jbB {gs:List Fan}:∀x∈gs.map fD,san x=true:=fun x hx=>by
 obtain⟨f,_,rfl⟩:=List.mem_map.mp hx;exact jll f.1 f.2
theorem jnx {l:Nat}{gs:List Fan}{p:Nat}{d:D}(h1:1<=l)(h4:l<=4)(hg:∀f∈gs,GF l f)(hp:p < gs.length)(hd:fl d≠l):jk6 (.tup ((gs.take p).map fD++[d]++(gs.drop p).map fD))=false:=by
 have key:((gs.take p).map fD++[d]++(gs.drop p).map fD).all (fun x=>fl x == fl (((gs.take p).map fD++[d]++(gs.drop p).map fD).headD .non))=false:=by
  rw[List.all_eq_false];cases p with
  |zero=>
   refine⟨fD gs[0],by
    rw[List.drop_zero];exact juV _ (List.mem_map.mpr ⟨gs[0],List.getElem_mem hp,rfl⟩),fun z=>?_⟩
   have z:fl (fD gs[0])=fl d:=by simpa using z
   rw[(jcx h1 h4 (hg _ (List.getElem_mem hp))).2]at z;exact hd z.symm
  |succ p=>
   cases gs with
   |nil=>simp at hp
   |cons g r=>
    refine⟨d,by simp,fun z=>?_⟩
    have z:fl d=fl (fD g):=by simpa using z
    rw[(jcx h1 h4 (hg g juM)).2]at z;exact hd z
 show (_ && _)=false;rw[key,Bool.and_false]
theorem jhi {d:D}{b:Bool}(h:san d=true)(hb:jk6 d=b):CD W (n + 7) 18 [.dat d,.dat (.bl b)]=.ok (.dat (.bl true),[.no,.no]):=by
 rw[juE d b h,hb];simp
theorem jtI {S0 s5 s6 s7 s8 s9:Sl}(cs:List Int)(l k:Nat)(gs:List Fan)(h1:1<=l)(h4:l<=4)(hk:k < cs.length)(hg:∀f∈gs,GF l f)(h0:0 < gs.length)(h100:gs.length<=100) :
  ∃t6 t7 t8,evSs (jaa U W P (n + 7)) U W jeK [S0,.own (.l (cs.map D.int)) false false,.dat (.int l),.own (.l (gs.map fD)) false false,.dat (.int k),s5,s6,s7,s8,s9]=.ok (.nx [S0,.own (.l (cs.map D.int)) false false,.dat (.int l),.own (.l (gs.map fD)) false false,.dat (.int k),s5,t6,t7,t8,s9]):=by
 obtain⟨x,hx⟩:=je7 hk;have ex:=job (G:=jaa U W P (n + 7)) (ρ:=[S0,.own (.l (cs.map D.int)) false false,.dat (.int l),.own (.l (gs.map fD)) false false,.dat (.int k),s5,s6,s7,s8,s9]) rfl rfl hx;have e6:evE (jaa U W P (n + 7)) U (.bin .fdiv (.idx (.var 1) (.var 4)) (.lit (.int 3))) [S0,.own (.l (cs.map D.int)) false false,.dat (.int l),.own (.l (gs.map fD)) false false,.dat (.int k),s5,s6,s7,s8,s9]=.ok (.dat (.int (x / 3)),[S0,.own (.l (cs.map D.int)) false false,.dat (.int l),.own (.l (gs.map fD)) false false,.dat (.int k),s5,s6,s7,s8,s9]):=by
  rw[evE,ex];simp_arith[]
 generalize x / 3=y at e6;have hpl:(0:Int) < ((gs.map fD).length:Int):=by rw[juT];omega
 obtain⟨p,hp,ep⟩:∃p:Nat,p < gs.length/\y % ((gs.map fD).length:Int)=p:=by
  have q1:=Int.emod_nonneg y (show ((gs.map fD).length:Int)≠0 by omega)
  have q2:=Int.emod_lt_of_pos y hpl;rw[juT]at q1 q2 ⊢;exact⟨(y % (gs.length:Int)).toNat,by omega,by omega⟩
 have gp:=hg _ (List.getElem_mem hp);have af:=jlr hp;obtain⟨⟨b,ss⟩,hf⟩:∃f,gs[p]=f:=⟨_,rfl⟩;rw[hf]at gp af;have hbl:b.length=l:=gp.b.1;obtain⟨d,ed,sd,fd⟩:=jnw (W:=W) (n:=n + 6) b ss (y / 70) h1 h4 gp;have c1:cut (gs.map fD) none (some (p:Int))=(gs.take p).map fD:=by rw[jaV,jbU]
 have c2:cut (gs.map fD) (some (p:Int)) none=(gs.drop p).map fD:=by rw[jaV,jbV]
 have c3:cut (gs.map fD) (some ((p:Int) + 1)) none=(gs.drop (p + 1)).map fD:=by
  rw[jaV,show (p:Int) + 1=((p + 1:Nat):Int)by omega,jbV]
 have f1:fits (((gs.take p).map fD).length + 1)=true:=jaq (by simp;omega)
 have f2:∀d:D,fits (((gs.take p).map fD++[d]).length + ((gs.drop p).map fD).length)=true:=fun d=>jaq (by simp;omega)
 have f3:∀d:D,fits (((gs.take p).map fD++[d]).length + ((gs.drop (p + 1)).map fD).length)=true:=fun d=>jaq (by simp;omega)
 refine⟨.dat (.int y),.dat (.int p),.dat (.tup [tu (b.take 3++[0]),.tup []]),?_⟩;unfold jeK;rw[jah (ρ':=[S0,.own (.l (cs.map D.int)) false false,.dat (.int l),.own (.l (gs.map fD)) false false,.dat (.int k),s5,.dat (.int y),s7,s8,s9]) (jfQ e6 (by simp))]
 rw[jah (ρ':=[S0,.own (.l (cs.map D.int)) false false,.dat (.int l),.own (.l (gs.map fD)) false false,.dat (.int k),s5,.dat (.int y),.dat (.int p),s8,s9]) (by simp_arith[if_pos hpl,ep])]
 have eo:∀s8,evE (jaa U W P (n + 7)) U (.lst (.cons (.call 19 [] (.cons (.idx (.var 3) (.var 7)) (.cons (.bin .fdiv (.var 6) (.lit (.int 70))) .nil))) .nil)) [S0,.own (.l (cs.map D.int)) false false,.dat (.int l),.own (.l (gs.map fD)) false false,.dat (.int k),s5,.dat (.int y),.dat (.int p),s8,s9]=.ok (.tmp (.l [d]),[S0,.own (.l (cs.map D.int)) false false,.dat (.int l),.own (.l (gs.map fD)) false false,.dat (.int k),s5,.dat (.int y),.dat (.int p),s8,s9]):=fun s8=>by
  have q:=jan (G:=jaa U W P (n + 7)) (U:=U) (k:=19) (ρ:=[S0,.own (.l (cs.map D.int)) false false,.dat (.int l),.own (.l (gs.map fD)) false false,.dat (.int k),s5,.dat (.int y),.dat (.int p),s8,s9]) (es:=.cons (.idx (.var 3) (.var 7)) (.cons (.bin .fdiv (.var 6) (.lit (.int 70))) .nil)) [jar b ss,.int (y / 70)] (as2 (by simp_arith[af];rfl) (by simp_arith[])) ed
  rw[evE,evEs,q];rfl
 have es1:∀s8,evE (jaa U W P (n + 7)) U (.slc (.var 3) .none (.some (.var 7))) [S0,.own (.l (cs.map D.int)) false false,.dat (.int l),.own (.l (gs.map fD)) false false,.dat (.int k),s5,.dat (.int y),.dat (.int p),s8,s9]=.ok (.tmp (.l ((gs.take p).map fD)),[S0,.own (.l (cs.map D.int)) false false,.dat (.int l),.own (.l (gs.map fD)) false false,.dat (.int k),s5,.dat (.int y),.dat (.int p),s8,s9]):=fun s8=>by simp_arith[c1]
 have es2:∀s8,evE (jaa U W P (n + 7)) U (.slc (.var 3) (.some (.var 7)) .none) [S0,.own (.l (cs.map D.int)) false false,.dat (.int l),.own (.l (gs.map fD)) false false,.dat (.int k),s5,.dat (.int y),.dat (.int p),s8,s9]=.ok (.tmp (.l ((gs.drop p).map fD)),[S0,.own (.l (cs.map D.int)) false false,.dat (.int l),.own (.l (gs.map fD)) false false,.dat (.int k),s5,.dat (.int y),.dat (.int p),s8,s9]):=fun s8=>by simp_arith[c2]
 have es3:∀s8,evE (jaa U W P (n + 7)) U (.slc (.var 3) (.some (.bin .add (.var 7) (.lit (.int 1)))) .none) [S0,.own (.l (cs.map D.int)) false false,.dat (.int l),.own (.l (gs.map fD)) false false,.dat (.int k),s5,.dat (.int y),.dat (.int p),s8,s9]=.ok (.tmp (.l ((gs.drop (p + 1)).map fD)),[S0,.own (.l (cs.map D.int)) false false,.dat (.int l),.own (.l (gs.map fD)) false false,.dat (.int k),s5,.dat (.int y),.dat (.int p),s8,s9]):=fun s8=>by simp_arith[c3]
 have join:∀{ρ:Rho}{u v w:E}{as bs:List D}{z:D},evE (jaa U W P (n + 7)) U u ρ=.ok (.tmp (.l as),ρ)->evE (jaa U W P (n + 7)) U v ρ=.ok (.tmp (.l [z]),ρ)->evE (jaa U W P (n + 7)) U w ρ=.ok (.tmp (.l bs),ρ)->fits (as.length + 1)=true->fits ((as++[z]).length + bs.length)=true->evE (jaa U W P (n + 7)) U (.blt .tuple (.bin .add (.bin .add u v) w)) ρ=.ok (.dat (.tup (as++[z]++bs)),ρ):=fun {ρ u v w as bs z} hu hv hw g1 g2=>by
  simp only[evE,hu,hv,hw,R.bind_ok',jbq,jgG,jc0,juU,ju6,Nat.reduceAdd,g1,g2,if_true,jd3]
 have i1:CD W (n + 7) 18 [.dat (.tup ((gs.take p).map fD++[d]++(gs.drop (p + 1)).map fD)),.dat (.bl false)]=.ok (.dat (.bl true),[.no,.no]):=jhi (jam fun x hx=>by
   rcases List.mem_append.mp hx with hx | hx
   ·rcases List.mem_append.mp hx with hx | hx
    ·exact jbB x hx
    ·rw[List.mem_singleton.mp hx];exact sd
   ·exact jbB x hx) (jlm (d:=d) (by simp) fd)
 rw[jah (ρ':=[S0,.own (.l (cs.map D.int)) false false,.dat (.int l),.own (.l (gs.map fD)) false false,.dat (.int k),s5,.dat (.int y),.dat (.int p),s8,s9]) (je5 (jbp (b:=true) (jav (as2 (join (es1 s8) (eo s8) (es3 s8) f1 (f3 d)) rfl) rfl i1 rfl)))];have cb:cut (b.map D.int) none (some (3:Int))=(b.take 3).map D.int:=by rw[jaV];exact congrArg _ (jbU b 3)
 have fb:fits (((b.take 3).map D.int).length + 1)=true:=jaq (by simp;omega)
 rw[jah (ρ':=[S0,.own (.l (cs.map D.int)) false false,.dat (.int l),.own (.l (gs.map fD)) false false,.dat (.int k),s5,.dat (.int y),.dat (.int p),.dat (.tup [tu (b.take 3++[0]),.tup []]),s9]) (by
  simp_arith[af,fD,jar,tu,cb,fb]
  simp only[List.map_append,juR,List.map_nil])]
 have e8:evE (jaa U W P (n + 7)) U (.lst (.cons (.var 8) .nil)) [S0,.own (.l (cs.map D.int)) false false,.dat (.int l),.own (.l (gs.map fD)) false false,.dat (.int k),s5,.dat (.int y),.dat (.int p),.dat (.tup [tu (b.take 3++[0]),.tup []]),s9]=.ok (.tmp (.l [.tup [tu (b.take 3++[0]),.tup []]]),[S0,.own (.l (cs.map D.int)) false false,.dat (.int l),.own (.l (gs.map fD)) false false,.dat (.int k),s5,.dat (.int y),.dat (.int p),.dat (.tup [tu (b.take 3++[0]),.tup []]),s9]):=by simp_arith[]
 have tl:evT (jaa U W P (n + 7)) U (.cmp .lt (.var 2) (.lit (.int 4))) [S0,.own (.l (cs.map D.int)) false false,.dat (.int l),.own (.l (gs.map fD)) false false,.dat (.int k),s5,.dat (.int y),.dat (.int p),.dat (.tup [tu (b.take 3++[0]),.tup []]),s9]=.ok (decide ((l:Int) < 4),[S0,.own (.l (cs.map D.int)) false false,.dat (.int l),.own (.l (gs.map fD)) false false,.dat (.int k),s5,.dat (.int y),.dat (.int p),.dat (.tup [tu (b.take 3++[0]),.tup []]),s9]):=by simp_arith[]
 rw[jah (ρ':=[S0,.own (.l (cs.map D.int)) false false,.dat (.int l),.own (.l (gs.map fD)) false false,.dat (.int k),s5,.dat (.int y),.dat (.int p),.dat (.tup [tu (b.take 3++[0]),.tup []]),s9]) (je5 (by
  by_cases hl:(l:Int) < 4
  ·rw[decide_eq_true hl]at tl;have hlt:l < 4:=by omega
   have i2:CD W (n + 7) 18 [.dat (.tup ((gs.take p).map fD++[.tup [tu (b.take 3++[0]),.tup []]]++(gs.drop p).map fD)),.dat (.bl false)]=.ok (.dat (.bl true),[.no,.no]):=jhi (jam fun x hx=>by
     rcases List.mem_append.mp hx with hx | hx
     ·rcases List.mem_append.mp hx with hx | hx
      ·exact jbB x hx
      ·rw[List.mem_singleton.mp hx];exact jam (jbl (jaI _) (jam fun x hx=>by cases hx))
     ·exact jbB x hx) (jnx h1 h4 hg hp (by
     show jca (tu (b.take 3++[0]))≠l;rw[jaX,juY,List.length_take,hbl];simp only[juU,ju6];omega))
   have tn:evT (jaa U W P (n + 7)) U (.not (.call 18 [] (.cons (.blt .tuple (.bin .add (.bin .add (.slc (.var 3) .none (.some (.var 7))) (.lst (.cons (.var 8) .nil))) (.slc (.var 3) (.some (.var 7)) .none))) (.cons (.lit (.bl false)) .nil)))) [S0,.own (.l (cs.map D.int)) false false,.dat (.int l),.own (.l (gs.map fD)) false false,.dat (.int k),s5,.dat (.int y),.dat (.int p),.dat (.tup [tu (b.take 3++[0]),.tup []]),s9]=.ok (false,[S0,.own (.l (cs.map D.int)) false false,.dat (.int l),.own (.l (gs.map fD)) false false,.dat (.int k),s5,.dat (.int y),.dat (.int p),.dat (.tup [tu (b.take 3++[0]),.tup []]),s9]):=jbp (b:=true) (jav (as2 (join (es1 _) e8 (es2 _) f1 (f2 _)) rfl) rfl i2 rfl);rw[evT,tl,R.bind_ok'];exact tn
  ·rw[decide_eq_false hl]at tl;rw[evT,tl];rfl))]
 have i3:CD W (n + 7) 18 [.dat (.tup ((gs.drop p).map fD)),.dat (.bl true)]=.ok (.dat (.bl true),[.no,.no]):=jhi (jam jbB) (jhV h1 h4 fun f hf=>hg f (List.mem_of_mem_drop hf));rw[jah (ρ':=[S0,.own (.l (cs.map D.int)) false false,.dat (.int l),.own (.l (gs.map fD)) false false,.dat (.int k),s5,.dat (.int y),.dat (.int p),.dat (.tup [tu (b.take 3++[0]),.tup []]),s9]) (je5 (jbp (b:=true) (jav (as2 (by
  rw[evE,es2];rfl) rfl) rfl i3 rfl)))]
 simp only[evSs]
theorem jsj {S0 s9:Sl}(cs:List Int)(l:Nat)(gs:List Fan)(h1:1<=l)(h4:l<=4)(hg:∀f∈gs,GF l f)(h0:0 < gs.length)(h100:gs.length<=100):∀(ks:List Nat) (s4 s5 s6 s7 s8:Sl),(∀k∈ks,k < cs.length) ->
  ∃t4 t6 t7 t8:Sl,ja2 (fun x r=>(putT [4] true x r).bind fun r'=>evSs (jaa U W P (n + 7)) U W jeK r') (ks.map fun (j:Nat)=>D.int j) [S0,.own (.l (cs.map D.int)) false false,.dat (.int l),.own (.l (gs.map fD)) false false,s4,s5,s6,s7,s8,s9]=.ok (.nx [S0,.own (.l (cs.map D.int)) false false,.dat (.int l),.own (.l (gs.map fD)) false false,t4,s5,t6,t7,t8,s9])
 |[],s4,s5,s6,s7,s8,_=>⟨s4,s6,s7,s8,rfl⟩
 |k::ks,s4,s5,s6,s7,s8,hk=>by
  obtain⟨t6,t7,t8,e⟩:=jtI (W:=W) (n:=n) (S0:=S0) (s5:=s5) (s6:=s6) (s7:=s7) (s8:=s8) (s9:=s9) cs l k gs h1 h4 (hk k juM) hg h0 h100;obtain⟨u4,u6,u7,u8,e'⟩:=jsj (S0:=S0) (s9:=s9) cs l gs h1 h4 hg h0 h100 ks (.dat (.int k)) s5 t6 t7 t8 fun j hj=>hk j (juL _ hj);refine⟨u4,u6,u7,u8,?_⟩;simp only[juR,ja2];have e2:(putT [4] true (.int k) [S0,.own (.l (cs.map D.int)) false false,.dat (.int l),.own (.l (gs.map fD)) false false,s4,s5,s6,s7,s8,s9])=.ok [S0,.own (.l (cs.map D.int)) false false,.dat (.int l),.own (.l (gs.map fD)) false false,.dat (.int k),s5,s6,s7,s8,s9]:=rfl;rw[e2,R.bind_ok',e,R.bind_ok'];exact e'
theorem jsk {S0 s1 s2 s3 s4 s5 s6 s7 s8:Sl}:∀(xs:List D) (s9:Sl),(∀x∈xs,san x=true/\jk6 x=false) ->
  ∃t:Sl,ja2 (fun x r=>(putT [9] true x r).bind fun r'=>evSs (jaa U W P (n + 7)) U W jeL r') xs [S0,s1,s2,s3,s4,s5,s6,s7,s8,s9]=.ok (.nx [S0,s1,s2,s3,s4,s5,s6,s7,s8,t])
 |[],s9,_=>⟨s9,rfl⟩
 |x::xs,s9,h=>by
  obtain⟨t,e⟩:=jsk (S0:=S0) (s1:=s1) (s2:=s2) (s3:=s3) (s4:=s4) (s5:=s5) (s6:=s6) (s7:=s7) (s8:=s8) xs (.dat x) fun y hy=>h y (juL _ hy);refine⟨t,?_⟩;simp only[ja2];have e2:(putT [9] true x [S0,s1,s2,s3,s4,s5,s6,s7,s8,s9])=.ok [S0,s1,s2,s3,s4,s5,s6,s7,s8,.dat x]:=rfl;obtain⟨h1,h2⟩:=h x juM;have e3:evSs (jaa U W P (n + 7)) U W jeL [S0,s1,s2,s3,s4,s5,s6,s7,s8,.dat x]=.ok (.nx [S0,s1,s2,s3,s4,s5,s6,s7,s8,.dat x]):=by
   unfold jeL;rw[jah (je5 (ρ1:=[S0,s1,s2,s3,s4,s5,s6,s7,s8,.dat x]) (jbp (b:=true) (jck (ds:=[x,.bl false]) rfl (jhi (W:=W) (n:=n) h1 h2))))];simp only[evSs]
  rw[e2,R.bind_ok',e3,R.bind_ok'];exact e
theorem jtJ (ns:List Int)(hW:64<=W):∃fin,CD W (n + 8) 20 [.dat (.lst (ns.map .int))]=.ok (.dat (.bl true),fin):=by
 rw[CD,jai (d:=⟨1,10,jkX⟩) rfl rfl];have ec:cut (ns.map D.int) none (some (63:Int))=(ns.take 63).map D.int:=by rw[jaV];exact congrArg _ (jbU ns 63)
 have ee:evE (jaa U W P (n + 7)) U jkW [.dat (.lst (ns.map .int)),.no,.no,.no,.no,.no,.no,.no,.no,.no]=.ok (.tmp (.l ((ns.take 63).map fun x=>.int (x % 10 ^ 30))),[.dat (.lst (ns.map .int)),.no,.no,.no,.no,.no,.no,.no,.no,.no]):=by
  refine jbf (h:=D.int) (g:=fun x=>.int (x % 10 ^ 30)) (xs:=ns.take 63) (by simp_arith[ec]) (fun x _=>?_) fun s=>rfl
  show evE (jaa U W P (n + 7)) U (.bin .mod (.var 0) (.bin .pow (.lit (.int 10)) (.lit (.int 30)))) [.dat (.int x)]=_;simp_arith[jsb];rfl
 have hlen:(ns.take 63).length<=63:=by rw[List.length_take];omega
 obtain⟨cs,hcs,hc0⟩:∃cs:List Int,cs.map D.int=((ns.take 63).map fun x=>D.int (x % 10 ^ 30))++[.int 41]/\(1<=cs.length/\cs.length<=64):=⟨(ns.take 63).map (· % 10 ^ 30)++[41],by simp only[List.map_append,List.map_map,juR,List.map_nil];rfl,by simp;omega⟩
 have f1:fits (((ns.take 63).map fun x=>D.int (x % 10 ^ 30)).length + 1)=true:=jaq (by rw[juT];omega)
 generalize ((ns.take 63).map fun x=>D.int (x % 10 ^ 30))=ms at ee hcs f1;obtain⟨c0,ha0⟩:=je7 (cs:=cs) (k:=0) (by omega)
 obtain⟨l,hl⟩:∃l:Nat,(l:Int)=1 + c0 % 4:=⟨(1 + c0 % 4).toNat,by omega⟩
 have hl1:1<=l:=by omega
 have hl4:l<=4:=by omega
 obtain⟨gs,t4,t5,e4,hg,hgl⟩:=jgf (W:=W) (n:=n + 1) (S0:=.dat (.lst (ns.map .int))) (s6:=.no) (s7:=.no) (s8:=.no) (s9:=.no) cs l hl1 hl4 (List.range cs.length) [] .no .no (fun k hk=>List.mem_range.mp hk) (fun f hf=>by cases hf) (by simp;omega)
 have hgl:gs.length=cs.length:=by simpa using hgl
 obtain⟨u4,u6,u7,u8,e6⟩:=jsj (W:=W) (n:=n) (S0:=.dat (.lst (ns.map .int))) (s9:=.no) cs l gs hl1 hl4 hg (by omega) (by omega) (List.range (min 12 gs.length)) t4 t5 .no .no .no (fun k hk=>by have:=List.mem_range.mp hk;omega)
 have hg0:0 < gs.length:=by omega
 obtain⟨g0,hg0'⟩:∃f,gs[0]=f:=⟨_,rfl⟩;have ag:=jlr hg0;rw[hg0']at ag;obtain⟨t9,e7⟩:=jsk (W:=W) (n:=n) (S0:=.dat (.lst (ns.map .int))) (s1:=.own (.l (cs.map D.int)) false false) (s2:=.dat (.int l)) (s3:=.own (.l (gs.map fD)) false false) (s4:=u4) (s5:=t5) (s6:=u6) (s7:=u7) (s8:=u8) [.non,.bl true,.int 5,.str "-",.dct [] [],.tup [.tup []],.tup [.non],fD g0] .no (fun x hx=>by
  simp only[juN,jvb,or_false]at hx;rcases hx with rfl | rfl | rfl | rfl | rfl | rfl | rfl | rfl
  ·exact⟨by simp only[san],rfl⟩
  ·exact⟨by simp only[san],rfl⟩
  ·exact⟨by simp only[san],rfl⟩
  ·exact⟨by simp only[san],rfl⟩
  ·exact⟨by simp only[san],rfl⟩
  ·exact⟨by simp only[san,sans,Bool.and_self],rfl⟩
  ·exact⟨by simp only[san,sans,Bool.and_self],rfl⟩
  ·exact⟨jll g0.1 g0.2,jlm (d:=tu g0.1) juM (joa g0.1)⟩)
 refine⟨[.no],?_⟩;show (evSs (jaa U W P (n + 7)) U W jkX [.dat (.lst (ns.map .int)),.no,.no,.no,.no,.no,.no,.no,.no,.no]).bind (jcy 1)=_;unfold jkX;rw[jah (ρ':=[.dat (.lst (ns.map .int)),.own (.l (cs.map D.int)) false false,.no,.no,.no,.no,.no,.no,.no,.no]) (by
  rw[hcs];simp_arith[ee,f1])]
 rw[jah (ρ':=[.dat (.lst (ns.map .int)),.own (.l (cs.map D.int)) false false,.dat (.int l),.no,.no,.no,.no,.no,.no,.no]) (by
  have ha0:DJ.atI (cs.map D.int) 0=.ok (.int c0):=ha0;rw[hl];simp_arith[ha0])]
 rw[jah (ρ':=[.dat (.lst (ns.map .int)),.own (.l (cs.map D.int)) false false,.dat (.int l),.own (.l (([]:List Fan).map fD)) false false,.no,.no,.no,.no,.no,.no]) (by simp_arith[];rfl)]
 rw[jah (ρ':=[.dat (.lst (ns.map .int)),.own (.l (cs.map D.int)) false false,.dat (.int l),.own (.l (gs.map fD)) false false,t4,t5,.no,.no,.no,.no]) (by
  have hr:jdd (.int ((cs.map D.int).length:Int))=.ok ((List.range cs.length).map fun (j:Nat)=>D.int j):=by rw[juT];exact jco _ (by omega)
  have hi:evI (jaa U W P (n + 7)) U (.rng1 (.blt .len (.var 1))) [.dat (.lst (ns.map .int)),.own (.l (cs.map D.int)) false false,.dat (.int l),.own (.l (([]:List Fan).map fD)) false false,.no,.no,.no,.no,.no,.no]=.ok ((List.range cs.length).map fun (j:Nat)=>D.int j,[],[.dat (.lst (ns.map .int)),.own (.l (cs.map D.int)) false false,.dat (.int l),.own (.l (([]:List Fan).map fD)) false false,.no,.no,.no,.no,.no,.no]):=by simp_arith[hr]
  rw[evS,hi,R.bind_ok'];simp only[];rw[e4];rfl)]
 have i1:CD W (n + 7) 18 [.dat (.tup (gs.map fD)),.dat (.bl true)]=.ok (.dat (.bl true),[.no,.no]):=jhi (jam jbB) (jhV hl1 hl4 hg);have i2:CD W (n + 7) 18 [.dat (.tup []),.dat (.bl true)]=.ok (.dat (.bl true),[.no,.no]):=jhi (jam fun x hx=>by cases hx) rfl
 have i3:CD W (n + 7) 18 [.dat (.lst (gs.map fD)),.dat (.bl false)]=.ok (.dat (.bl true),[.no,.no]):=jhi (je6 jbB) rfl;rw[jah (ρ':=[.dat (.lst (ns.map .int)),.own (.l (cs.map D.int)) false false,.dat (.int l),.own (.l (gs.map fD)) false false,t4,t5,.no,.no,.no,.no]) (je5 (jns (jbp (b:=true) (jav (as2 (v1:=.dat (.tup (gs.map fD))) rfl rfl) rfl i1 rfl)) (jns (jbp (b:=true) (jav (as2 (v1:=.dat (.tup [])) rfl rfl) rfl i2 rfl)) (jbp (b:=true) (jav (as2 (v1:=.tmp (.l (gs.map fD))) rfl rfl) rfl i3 rfl)))))];rw[jah (ρ':=[.dat (.lst (ns.map .int)),.own (.l (cs.map D.int)) false false,.dat (.int l),.own (.l (gs.map fD)) false false,u4,t5,u6,u7,u8,.no]) (by
  have hmn:(if ((gs.map fD).length:Int) < 12 then ((gs.map fD).length:Int)else 12)=((min 12 gs.length:Nat):Int):=by
   rw[juT];split <;> omega
  have hr:jdd (.int ((min 12 gs.length:Nat):Int))=.ok ((List.range (min 12 gs.length)).map fun (j:Nat)=>D.int j):=jco _ (by omega)
  have hi:evI (jaa U W P (n + 7)) U (.rng1 (.min2 (.lit (.int 12)) (.blt .len (.var 3)))) [.dat (.lst (ns.map .int)),.own (.l (cs.map D.int)) false false,.dat (.int l),.own (.l (gs.map fD)) false false,t4,t5,.no,.no,.no,.no]=.ok ((List.range (min 12 gs.length)).map fun (j:Nat)=>D.int j,[],[.dat (.lst (ns.map .int)),.own (.l (cs.map D.int)) false false,.dat (.int l),.own (.l (gs.map fD)) false false,t4,t5,.no,.no,.no,.no]):=by
   simp_arith[jsW,jsp,hmn,hr]
  rw[evS,hi,R.bind_ok'];simp only[];rw[e6];rfl)]
 rw[jah (ρ':=[.dat (.lst (ns.map .int)),.own (.l (cs.map D.int)) false false,.dat (.int l),.own (.l (gs.map fD)) false false,u4,t5,u6,u7,u8,t9]) (by
  have hi:evI (jaa U W P (n + 7)) U (.seq (.lst (.cons (.lit .non) (.cons (.lit (.bl true)) (.cons (.lit (.int 5)) (.cons (.lit (.str "-")) (.cons (.emp) (.cons (.tup (.cons (.tup (.nil)) .nil)) (.cons (.tup (.cons (.lit .non) .nil)) (.cons (.idx (.var 3) (.lit (.int 0))) .nil)))))))))) [.dat (.lst (ns.map .int)),.own (.l (cs.map D.int)) false false,.dat (.int l),.own (.l (gs.map fD)) false false,u4,t5,u6,u7,u8,.no]=.ok ([.non,.bl true,.int 5,.str "-",.dct [] [],.tup [.tup []],.tup [.non],fD g0],[],[.dat (.lst (ns.map .int)),.own (.l (cs.map D.int)) false false,.dat (.int l),.own (.l (gs.map fD)) false false,u4,t5,u6,u7,u8,.no]):=by
   have ag:DJ.atI (gs.map fD) 0=.ok (fD g0):=ag;simp_arith[ag,O.toD]
  rw[evS,hi,R.bind_ok'];simp only[];rw[e7];rfl)]
 rfl
end Law
namespace Law
open PySem L2 DJ
theorem jbm {K:Frag}{mg:Str->Option Value}{d:DefS}{b:Ss}{i f:Nat}{oc:Value}{od an:Option Addr}{sl:Array (Option Value)}{kV doc pm cd ct:Value}(hm:mg d.name=some (.ref f))(l:K.lookup f=some ⟨oc,od,.func (PySem.W.fnOf d.name d.name (defArgs d.st) (defBody d.st) (defScope d.st) .none kV doc pm an cd ct),sl⟩)
  (c:jvD K cd d.name=true) (k:jvB K (.ref f)=true) (hb:BindP d) (hs:FnScope d.N d.ps (defScope d.st)) (ht:(mapO (trS T 60 false (defScope d.st).names d.N) (defBody d.st)).map toSs=some b) (hP:P[i]?=some ⟨d.ps.length,d.N.length,b⟩) :
  ∃f fd,mg d.name=some (.ref f)/\Fun K d.name d.name d.st f fd/\BindP d/\FnScope d.N d.ps (defScope d.st)/\∃ss,mapO (trS T 60 false (defScope d.st).names d.N) (defBody d.st)=some ss/\P[i]?=some ⟨d.ps.length,d.N.length,toSs ss⟩:=by
 obtain⟨ss,e1,e2⟩:=Option.map_eq_some_iff.mp ht;exact⟨f,_,hm,jq3 l c k,hb,hs,ss,e1,by rw[e2];exact hP⟩
theorem jsl {K:Frag}{h:Heap}{mg:Str->Option Value}{f0 f1 f2 f3 f4 f5 f6 f7 f8 f9 f10 f11 f12 f13 f14 f15 f16 f17 f18 f19 f20:Addr}(X:K.In h)(G:h.Ns mainGlobals mg)
  {od0 an0 od1 an1 od2 an2 od3 an3 od4 an4 od5 an5 od6 an6 od7 an7 od8 an8 od9 an9 od10 an10 od11 an11 od12 an12 od13 an13 od14 an14 od15 an15 od16 an16 od17 an17 od18 an18 od19 an19 od20 an20:Option Addr}{sl0 sl1 sl2 sl3 sl4 sl5 sl6 sl7 sl8 sl9 sl10 sl11 sl12 sl13 sl14 sl15 sl16 sl17 sl18 sl19 sl20:Array (Option Value)}{oc0 kV0 dc0 pm0 cd0 ct0 oc1 kV1 dc1 pm1 cd1 ct1 oc2 kV2 dc2 pm2 cd2 ct2 oc3 kV3 dc3 pm3 cd3 ct3 oc4 kV4 dc4 pm4 cd4 ct4 oc5 kV5 dc5 pm5 cd5 ct5 oc6 kV6 dc6 pm6 cd6 ct6 oc7 kV7 dc7 pm7 cd7 ct7 oc8 kV8 dc8 pm8 cd8 ct8 oc9 kV9 dc9 pm9 cd9 ct9 oc10 kV10 dc10 pm10 cd10 ct10 oc11 kV11 dc11 pm11 cd11 ct11 oc12 kV12 dc12 pm12 cd12 ct12 oc13 kV13 dc13 pm13 cd13 ct13 oc14 kV14 dc14 pm14 cd14 ct14 oc15 kV15 dc15 pm15 cd15 ct15 oc16 kV16 dc16 pm16 cd16 ct16 oc17 kV17 dc17 pm17 cd17 ct17 oc18 kV18 dc18 pm18 cd18 ct18 oc19 kV19 dc19 pm19 cd19 ct19 oc20 kV20 dc20 pm20 cd20 ct20:Value}
  (a0:jvz K mainGlobals "is_number"=some (some (.ref f0))) (l0:K.lookup f0=some ⟨oc0,od0,.func (PySem.W.fnOf "is_number" "is_number" (defArgs (top 9)) (defBody (top 9)) (defScope (top 9)) .none kV0 dc0 pm0 an0 cd0 ct0),sl0⟩) (c0:jvD K cd0 "is_number"=true) (k0:jvB K (.ref f0)=true)
  (a1:jvz K mainGlobals "is_tally"=some (some (.ref f1))) (l1:K.lookup f1=some ⟨oc1,od1,.func (PySem.W.fnOf "is_tally" "is_tally" (defArgs (top 10)) (defBody (top 10)) (defScope (top 10)) .none kV1 dc1 pm1 an1 cd1 ct1),sl1⟩) (c1:jvD K cd1 "is_tally"=true) (k1:jvB K (.ref f1)=true)
  (a2:jvz K mainGlobals "is_tally_as_long"=some (some (.ref f2))) (l2:K.lookup f2=some ⟨oc2,od2,.func (PySem.W.fnOf "is_tally_as_long" "is_tally_as_long" (defArgs (top 12)) (defBody (top 12)) (defScope (top 12)) .none kV2 dc2 pm2 an2 cd2 ct2),sl2⟩) (c2:jvD K cd2 "is_tally_as_long"=true) (k2:jvB K (.ref f2)=true)
  (a3:jvz K mainGlobals "plain_fan"=some (some (.ref f3))) (l3:K.lookup f3=some ⟨oc3,od3,.func (PySem.W.fnOf "plain_fan" "plain_fan" (defArgs (top 13)) (defBody (top 13)) (defScope (top 13)) .none kV3 dc3 pm3 an3 cd3 ct3),sl3⟩) (c3:jvD K cd3 "plain_fan"=true) (k3:jvB K (.ref f3)=true)
  (a4:jvz K mainGlobals "fan_of"=some (some (.ref f4))) (l4:K.lookup f4=some ⟨oc4,od4,.func (PySem.W.fnOf "fan_of" "fan_of" (defArgs (top 14)) (defBody (top 14)) (defScope (top 14)) .none kV4 dc4 pm4 an4 cd4 ct4),sl4⟩) (c4:jvD K cd4 "fan_of"=true) (k4:jvB K (.ref f4)=true)
  (a5:jvz K mainGlobals "are_steps"=some (some (.ref f5))) (l5:K.lookup f5=some ⟨oc5,od5,.func (PySem.W.fnOf "are_steps" "are_steps" (defArgs (top 15)) (defBody (top 15)) (defScope (top 15)) .none kV5 dc5 pm5 an5 cd5 ct5),sl5⟩) (c5:jvD K cd5 "are_steps"=true) (k5:jvB K (.ref f5)=true)
  (a6:jvz K mainGlobals "is_fan"=some (some (.ref f6))) (l6:K.lookup f6=some ⟨oc6,od6,.func (PySem.W.fnOf "is_fan" "is_fan" (defArgs (top 16)) (defBody (top 16)) (defScope (top 16)) .none kV6 dc6 pm6 an6 cd6 ct6),sl6⟩) (c6:jvD K cd6 "is_fan"=true) (k6:jvB K (.ref f6)=true)
  (a7:jvz K mainGlobals "is_set"=some (some (.ref f7))) (l7:K.lookup f7=some ⟨oc7,od7,.func (PySem.W.fnOf "is_set" "is_set" (defArgs (top 17)) (defBody (top 17)) (defScope (top 17)) .none kV7 dc7 pm7 an7 cd7 ct7),sl7⟩) (c7:jvD K cd7 "is_set"=true) (k7:jvB K (.ref f7)=true)
  (a8:jvz K mainGlobals "_law_whole"=some (some (.ref f8))) (l8:K.lookup f8=some ⟨oc8,od8,.func (PySem.W.fnOf "_law_whole" "_law_whole" (defArgs (top 19)) (defBody (top 19)) (defScope (top 19)) .none kV8 dc8 pm8 an8 cd8 ct8),sl8⟩) (c8:jvD K cd8 "_law_whole"=true) (k8:jvB K (.ref f8)=true)
  (a9:jvz K mainGlobals "_law_row"=some (some (.ref f9))) (l9:K.lookup f9=some ⟨oc9,od9,.func (PySem.W.fnOf "_law_row" "_law_row" (defArgs (top 20)) (defBody (top 20)) (defScope (top 20)) .none kV9 dc9 pm9 an9 cd9 ct9),sl9⟩) (c9:jvD K cd9 "_law_row"=true) (k9:jvB K (.ref f9)=true)
  (a10:jvz K mainGlobals "_law_number"=some (some (.ref f10))) (l10:K.lookup f10=some ⟨oc10,od10,.func (PySem.W.fnOf "_law_number" "_law_number" (defArgs (top 21)) (defBody (top 21)) (defScope (top 21)) .none kV10 dc10 pm10 an10 cd10 ct10),sl10⟩) (c10:jvD K cd10 "_law_number"=true) (k10:jvB K (.ref f10)=true)
  (a11:jvz K mainGlobals "_law_tally"=some (some (.ref f11))) (l11:K.lookup f11=some ⟨oc11,od11,.func (PySem.W.fnOf "_law_tally" "_law_tally" (defArgs (top 22)) (defBody (top 22)) (defScope (top 22)) .none kV11 dc11 pm11 an11 cd11 ct11),sl11⟩) (c11:jvD K cd11 "_law_tally"=true) (k11:jvB K (.ref f11)=true)
  (a12:jvz K mainGlobals "_law_steps"=some (some (.ref f12))) (l12:K.lookup f12=some ⟨oc12,od12,.func (PySem.W.fnOf "_law_steps" "_law_steps" (defArgs (top 23)) (defBody (top 23)) (defScope (top 23)) .none kV12 dc12 pm12 an12 cd12 ct12),sl12⟩) (c12:jvD K cd12 "_law_steps"=true) (k12:jvB K (.ref f12)=true)
  (a13:jvz K mainGlobals "_law_fan"=some (some (.ref f13))) (l13:K.lookup f13=some ⟨oc13,od13,.func (PySem.W.fnOf "_law_fan" "_law_fan" (defArgs (top 24)) (defBody (top 24)) (defScope (top 24)) .none kV13 dc13 pm13 an13 cd13 ct13),sl13⟩) (c13:jvD K cd13 "_law_fan"=true) (k13:jvB K (.ref f13)=true)
  (a14:jvz K mainGlobals "_law_alike"=some (some (.ref f14))) (l14:K.lookup f14=some ⟨oc14,od14,.func (PySem.W.fnOf "_law_alike" "_law_alike" (defArgs (top 25)) (defBody (top 25)) (defScope (top 25)) .none kV14 dc14 pm14 an14 cd14 ct14),sl14⟩) (c14:jvD K cd14 "_law_alike"=true) (k14:jvB K (.ref f14)=true)
  (a15:jvz K mainGlobals "_law_refused"=some (some (.ref f15))) (l15:K.lookup f15=some ⟨oc15,od15,.func (PySem.W.fnOf "_law_refused" "_law_refused" (defArgs (top 26)) (defBody (top 26)) (defScope (top 26)) .none kV15 dc15 pm15 an15 cd15 ct15),sl15⟩) (c15:jvD K cd15 "_law_refused"=true) (k15:jvB K (.ref f15)=true)
  (a16:jvz K mainGlobals "_law_odd"=some (some (.ref f16))) (l16:K.lookup f16=some ⟨oc16,od16,.func (PySem.W.fnOf "_law_odd" "_law_odd" (defArgs (top 27)) (defBody (top 27)) (defScope (top 27)) .none kV16 dc16 pm16 an16 cd16 ct16),sl16⟩) (c16:jvD K cd16 "_law_odd"=true) (k16:jvB K (.ref f16)=true)
  (a17:jvz K mainGlobals "_law_made"=some (some (.ref f17))) (l17:K.lookup f17=some ⟨oc17,od17,.func (PySem.W.fnOf "_law_made" "_law_made" (defArgs (top 28)) (defBody (top 28)) (defScope (top 28)) .none kV17 dc17 pm17 an17 cd17 ct17),sl17⟩) (c17:jvD K cd17 "_law_made"=true) (k17:jvB K (.ref f17)=true)
  (a18:jvz K mainGlobals "_law_is"=some (some (.ref f18))) (l18:K.lookup f18=some ⟨oc18,od18,.func (PySem.W.fnOf "_law_is" "_law_is" (defArgs (top 29)) (defBody (top 29)) (defScope (top 29)) .none kV18 dc18 pm18 an18 cd18 ct18),sl18⟩) (c18:jvD K cd18 "_law_is"=true) (k18:jvB K (.ref f18)=true)
  (a19:jvz K mainGlobals "_law_spoilt"=some (some (.ref f19))) (l19:K.lookup f19=some ⟨oc19,od19,.func (PySem.W.fnOf "_law_spoilt" "_law_spoilt" (defArgs (top 30)) (defBody (top 30)) (defScope (top 30)) .none kV19 dc19 pm19 an19 cd19 ct19),sl19⟩) (c19:jvD K cd19 "_law_spoilt"=true) (k19:jvB K (.ref f19)=true)
  (a20:jvz K mainGlobals "law"=some (some (.ref f20))) (l20:K.lookup f20=some ⟨oc20,od20,.func (PySem.W.fnOf "law" "law" (defArgs (top 31)) (defBody (top 31)) (defScope (top 31)) .none kV20 dc20 pm20 an20 cd20 ct20),sl20⟩) (c20:jvD K cd20 "law"=true) (k20:jvB K (.ref f20)=true)
  {tk0:Tok} (cst0:jvz K mainGlobals "MOST_NUMBERS"=some (some (.int 4 tk0)))
  (z0:jvz K mainGlobals "isinstance"=some none)
  (z1:jvz K mainGlobals "len"=some none)
  (z2:jvz K mainGlobals "tuple"=some none)
  (z3:jvz K mainGlobals "list"=some none)
  (z4:jvz K mainGlobals "all"=some none)
  (z5:jvz K mainGlobals "any"=some none)
  (z6:jvz K mainGlobals "range"=some none)
  (z7:jvz K mainGlobals "int"=some none)
  (z8:jvz K mainGlobals "bool"=some none)
  (z9:jvz K mainGlobals "str"=some none)
  (z10:jvz K mainGlobals "dict"=some none)
  (z11:jvz K mainGlobals "sum"=some none)
  (z12:jvz K mainGlobals "min"=some none)
  (z13:jvz K mainGlobals "max"=some none)
  (z14:jvz K mainGlobals "sorted"=some none)
  (z15:jvz K mainGlobals "set"=some none)
  (z16:jvz K mainGlobals "abs"=some none)
  (z17:jvz K mainGlobals "reversed"=some none)
  (z18:jvz K mainGlobals "zip"=some none)
  (z19:jvz K mainGlobals "ValueError"=some none)
  {C0 C1 C2 C3 C4 C5:Addr}{cdv0 cdv1 cdv2 cdv3 cdv4 cdv5:ClassData}
  (y0:PySem.W.specialIn K (.builtin "object.__class__") "__get__"=some (some (.builtin "getset_descriptor.__get__"))) (y1:PySem.W.takesIn K (.builtin "object.__class__")=some true)
  (e0:jvz K mainGlobals "TallyError"=some (some (.ref C0))) (ga0:jvE K (.ref C0) "__getattribute__"=some (some (.builtin "BaseException.__getattribute__"))) (hk0:jvE K (.ref C0) "__getattr__"=some none) (ca0:jvE K (.ref C0) "__class__"=some (some (.builtin "object.__class__"))) (mo0:jvy K C0 (.type "object")=some true) (mb0:jvy K C0 (.type "BaseException")=some true) (mv0:jvy K C0 (.type "ValueError")=some true) (cd_0:PySem.W.clsIn K C0=some cdv0) (ty0:PySem.W.typeIn K (.ref C0)=some (.type "type")) (xx0:PySem.W.excIn K C0 [.type "ValueError",.type "Exception",.type "BaseException",.type "object"] "ValueError.__new__"=true)
  (e1:jvz K mainGlobals "NoTally"=some (some (.ref C1))) (ga1:jvE K (.ref C1) "__getattribute__"=some (some (.builtin "BaseException.__getattribute__"))) (hk1:jvE K (.ref C1) "__getattr__"=some none) (ca1:jvE K (.ref C1) "__class__"=some (some (.builtin "object.__class__"))) (mo1:jvy K C1 (.type "object")=some true) (mb1:jvy K C1 (.type "BaseException")=some true) (mv1:jvy K C1 (.type "ValueError")=some true) (cd_1:PySem.W.clsIn K C1=some cdv1) (ty1:PySem.W.typeIn K (.ref C1)=some (.type "type")) (xx1:PySem.W.excIn K C1 [.type "ValueError",.type "Exception",.type "BaseException",.type "object"] "ValueError.__new__"=true)
  (e2:jvz K mainGlobals "NoFan"=some (some (.ref C2))) (ga2:jvE K (.ref C2) "__getattribute__"=some (some (.builtin "BaseException.__getattribute__"))) (hk2:jvE K (.ref C2) "__getattr__"=some none) (ca2:jvE K (.ref C2) "__class__"=some (some (.builtin "object.__class__"))) (mo2:jvy K C2 (.type "object")=some true) (mb2:jvy K C2 (.type "BaseException")=some true) (mv2:jvy K C2 (.type "ValueError")=some true) (cd_2:PySem.W.clsIn K C2=some cdv2) (ty2:PySem.W.typeIn K (.ref C2)=some (.type "type")) (xx2:PySem.W.excIn K C2 [.type "ValueError",.type "Exception",.type "BaseException",.type "object"] "ValueError.__new__"=true)
  (e3:jvz K mainGlobals "NoText"=some (some (.ref C3))) (ga3:jvE K (.ref C3) "__getattribute__"=some (some (.builtin "BaseException.__getattribute__"))) (hk3:jvE K (.ref C3) "__getattr__"=some none) (ca3:jvE K (.ref C3) "__class__"=some (some (.builtin "object.__class__"))) (mo3:jvy K C3 (.type "object")=some true) (mb3:jvy K C3 (.type "BaseException")=some true) (mv3:jvy K C3 (.type "ValueError")=some true) (cd_3:PySem.W.clsIn K C3=some cdv3) (ty3:PySem.W.typeIn K (.ref C3)=some (.type "type")) (xx3:PySem.W.excIn K C3 [.type "ValueError",.type "Exception",.type "BaseException",.type "object"] "ValueError.__new__"=true)
  (e4:jvz K mainGlobals "NoTree"=some (some (.ref C4))) (ga4:jvE K (.ref C4) "__getattribute__"=some (some (.builtin "BaseException.__getattribute__"))) (hk4:jvE K (.ref C4) "__getattr__"=some none) (ca4:jvE K (.ref C4) "__class__"=some (some (.builtin "object.__class__"))) (mo4:jvy K C4 (.type "object")=some true) (mb4:jvy K C4 (.type "BaseException")=some true) (mv4:jvy K C4 (.type "ValueError")=some true) (cd_4:PySem.W.clsIn K C4=some cdv4) (ty4:PySem.W.typeIn K (.ref C4)=some (.type "type")) (xx4:PySem.W.excIn K C4 [.type "ValueError",.type "Exception",.type "BaseException",.type "object"] "ValueError.__new__"=true)
  (e5:jvz K mainGlobals "TooGreat"=some (some (.ref C5))) (ga5:jvE K (.ref C5) "__getattribute__"=some (some (.builtin "BaseException.__getattribute__"))) (hk5:jvE K (.ref C5) "__getattr__"=some none) (ca5:jvE K (.ref C5) "__class__"=some (some (.builtin "object.__class__"))) (mo5:jvy K C5 (.type "object")=some true) (mb5:jvy K C5 (.type "BaseException")=some true) (mv5:jvy K C5 (.type "ValueError")=some true) (cd_5:PySem.W.clsIn K C5=some cdv5) (ty5:PySem.W.typeIn K (.ref C5)=some (.type "type")) (xx5:PySem.W.excIn K C5 [.type "ValueError",.type "Exception",.type "BaseException",.type "object"] "ValueError.__new__"=true)
  (m0_0:jvy K C0 (.ref C0)=some true)
  (m0_1:jvy K C0 (.ref C1)=some false)
  (m0_2:jvy K C0 (.ref C2)=some false)
  (m0_3:jvy K C0 (.ref C3)=some false)
  (m0_4:jvy K C0 (.ref C4)=some false)
  (m0_5:jvy K C0 (.ref C5)=some false)
  (m1_0:jvy K C1 (.ref C0)=some true)
  (m1_1:jvy K C1 (.ref C1)=some true)
  (m1_2:jvy K C1 (.ref C2)=some false)
  (m1_3:jvy K C1 (.ref C3)=some false)
  (m1_4:jvy K C1 (.ref C4)=some false)
  (m1_5:jvy K C1 (.ref C5)=some false)
  (m2_0:jvy K C2 (.ref C0)=some true)
  (m2_1:jvy K C2 (.ref C1)=some false)
  (m2_2:jvy K C2 (.ref C2)=some true)
  (m2_3:jvy K C2 (.ref C3)=some false)
  (m2_4:jvy K C2 (.ref C4)=some false)
  (m2_5:jvy K C2 (.ref C5)=some false)
  (m3_0:jvy K C3 (.ref C0)=some true)
  (m3_1:jvy K C3 (.ref C1)=some false)
  (m3_2:jvy K C3 (.ref C2)=some false)
  (m3_3:jvy K C3 (.ref C3)=some true)
  (m3_4:jvy K C3 (.ref C4)=some false)
  (m3_5:jvy K C3 (.ref C5)=some false)
  (m4_0:jvy K C4 (.ref C0)=some true)
  (m4_1:jvy K C4 (.ref C1)=some false)
  (m4_2:jvy K C4 (.ref C2)=some false)
  (m4_3:jvy K C4 (.ref C3)=some false)
  (m4_4:jvy K C4 (.ref C4)=some true)
  (m4_5:jvy K C4 (.ref C5)=some false)
  (m5_0:jvy K C5 (.ref C0)=some true)
  (m5_1:jvy K C5 (.ref C1)=some false)
  (m5_2:jvy K C5 (.ref C2)=some false)
  (m5_3:jvy K C5 (.ref C3)=some false)
  (m5_4:jvy K C5 (.ref C4)=some false)
  (m5_5:jvy K C5 (.ref C5)=some true)
  : Prog K mg ⟨K,[C0,C1,C2,C3,C4,C5]⟩ U T DS P 60:=by
 refine⟨rfl,rfl,rfl,(jb1 (jvA X G z0) (jb1 (jvA X G z1) (jb1 (jvA X G z2) (jb1 (jvA X G z3) (jb1 (jvA X G z4) (jb1 (jvA X G z5) (jb1 (jvA X G z6) (jb1 (jvA X G z7) (jb1 (jvA X G z8) (jb1 (jvA X G z9) (jb1 (jvA X G z10) (jb1 (jvA X G z11) (jb1 (jvA X G z12) (jb1 (jvA X G z13) (jb1 (jvA X G z14) (jb1 (jvA X G z15) (jb1 (jvA X G z16) (jb1 (jvA X G z17) (jb1 (jvA X G z18) (jb1 (jvA X G z19) jtg)))))))))))))))))))),fun x d hx=>?_,From.at (jag ⟨C0,rfl,jvC X G e0⟩ (jag ⟨C1,rfl,jvC X G e1⟩ (jag ⟨C2,rfl,jvC X G e2⟩ (jag ⟨C3,rfl,jvC X G e3⟩ (jag ⟨C4,rfl,jvC X G e4⟩ (jag ⟨C5,rfl,jvC X G e5⟩ jeD)))))),⟨(jb1 ⟨ga0,hk0,ca0,y0,y1,mo0,mb0,m0_0,mv0,by rw[cd_0];rfl,ty0⟩ (jb1 ⟨ga1,hk1,ca1,y0,y1,mo1,mb1,m1_1,mv1,by rw[cd_1];rfl,ty1⟩ (jb1 ⟨ga2,hk2,ca2,y0,y1,mo2,mb2,m2_2,mv2,by rw[cd_2];rfl,ty2⟩ (jb1 ⟨ga3,hk3,ca3,y0,y1,mo3,mb3,m3_3,mv3,by rw[cd_3];rfl,ty3⟩ (jb1 ⟨ga4,hk4,ca4,y0,y1,mo4,mb4,m4_4,mv4,by rw[cd_4];rfl,ty4⟩ (jb1 ⟨ga5,hk5,ca5,y0,y1,mo5,mb5,m5_5,mv5,by rw[cd_5];rfl,ty5⟩ jtg)))))),?_⟩,(jb1 ⟨⟨_,_,_,_,xx0,PySem.F.excBase_ValueError⟩,_,e0⟩ (jb1 ⟨⟨_,_,_,_,xx1,PySem.F.excBase_ValueError⟩,_,e1⟩ (jb1 ⟨⟨_,_,_,_,xx2,PySem.F.excBase_ValueError⟩,_,e2⟩ (jb1 ⟨⟨_,_,_,_,xx3,PySem.F.excBase_ValueError⟩,_,e3⟩ (jb1 ⟨⟨_,_,_,_,xx4,PySem.F.excBase_ValueError⟩,_,e4⟩ (jb1 ⟨⟨_,_,_,_,xx5,PySem.F.excBase_ValueError⟩,_,e5⟩ jtg)))))),?_⟩
 ·simp only[T,List.lookup_cons]at hx;split at hx
  ·rename_i e;cases hx;have e:x="MOST_NUMBERS":=by simpa using e
   subst e;exact⟨_,.int 4,jvC X G cst0,⟨_,rfl⟩,fun _ _=>by simp only[Rep]⟩
  ·cases hx
 ·exact fun i j C D hi hj=>From.at (Q:=fun i C=>∀(j:Nat) (D:Addr),([C0,C1,C2,C3,C4,C5]:List Addr)[j]?=some D->jvy K C (.ref D)=some (U i j)) (jag (From.at (jag m0_0 (jag m0_1 (jag m0_2 (jag m0_3 (jag m0_4 (jag m0_5 jeD))))))) (jag (From.at (jag m1_0 (jag m1_1 (jag m1_2 (jag m1_3 (jag m1_4 (jag m1_5 jeD))))))) (jag (From.at (jag m2_0 (jag m2_1 (jag m2_2 (jag m2_3 (jag m2_4 (jag m2_5 jeD))))))) (jag (From.at (jag m3_0 (jag m3_1 (jag m3_2 (jag m3_3 (jag m3_4 (jag m3_5 jeD))))))) (jag (From.at (jag m4_0 (jag m4_1 (jag m4_2 (jag m4_3 (jag m4_4 (jag m4_5 jeD))))))) (jag (From.at (jag m5_0 (jag m5_1 (jag m5_2 (jag m5_3 (jag m5_4 (jag m5_5 jeD))))))) jeD)))))) i C hi j D hj
 ·exact From.at (jag (jbm (i:=0) (jvC X G a0) l0 c0 k0 jg0 jgY jgZ rfl) (jag (jbm (i:=1) (jvC X G a1) l1 c1 k1 jiN jiL jiM rfl) (jag (jbm (i:=2) (jvC X G a2) l2 c2 k2 jcu jcs jct rfl) (jag (jbm (i:=3) (jvC X G a3) l3 c3 k3 jg3 jg1 jg2 rfl) (jag (jbm (i:=4) (jvC X G a4) l4 c4 k4 jnf jnd jne rfl) (jag (jbm (i:=5) (jvC X G a5) l5 c5 k5 jg6 jg4 jg5 rfl) (jag (jbm (i:=6) (jvC X G a6) l6 c6 k6 jni jng jnh rfl) (jag (jbm (i:=7) (jvC X G a7) l7 c7 k7 jnl jnj jnk rfl) (jag (jbm (i:=8) (jvC X G a8) l8 c8 k8 jfY jfW jfX rfl) (jag (jbm (i:=9) (jvC X G a9) l9 c9 k9 jiQ jiO jiP rfl) (jag (jbm (i:=10) (jvC X G a10) l10 c10 k10 jeO jeM jeN rfl) (jag (jbm (i:=11) (jvC X G a11) l11 c11 k11 jf1 jfZ jf0 rfl) (jag (jbm (i:=12) (jvC X G a12) l12 c12 k12 jf4 jf2 jf3 rfl) (jag (jbm (i:=13) (jvC X G a13) l13 c13 k13 jiT jiR jiS rfl) (jag (jbm (i:=14) (jvC X G a14) l14 c14 k14 jf7 jf5 jf6 rfl) (jag (jbm (i:=15) (jvC X G a15) l15 c15 k15 jdG jdE jdF rfl) (jag (jbm (i:=16) (jvC X G a16) l16 c16 k16 jiW jiU jiV rfl) (jag (jbm (i:=17) (jvC X G a17) l17 c17 k17 jg9 jg7 jg8 rfl) (jag (jbm (i:=18) (jvC X G a18) l18 c18 k18 jk0 jkY jkZ rfl) (jag (jbm (i:=19) (jvC X G a19) l19 c19 k19 jeR jeP jeQ rfl) (jag (jbm (i:=20) (jvC X G a20) l20 c20 k20 jtw jtu jtv rfl) jeD)))))))))))))))))))))
end Law
open PySem PySem.W PyProof.Rows
set_option maxRecDepth 100000 in
set_option maxHeartbeats 0 in
theorem PySem.Challenge.cw_tallysets_k03_fans_made_holds : PySem.Challenge.rw_tallysets_k03_fans_made.Holds := by
 w_on;o_law;k_head;(case hw=>w_witness2)
 k_fill
 refine' DJ.jkH (l:=PySem.Challenge.rw_tallysets_k03_fans_made) (cl:=[?C0,?C1,?C2,?C3,?C4,?C5]) (U:=Law.U) (T:=Law.T) (DS:=Law.DS) (P:=Law.P) (fuel:=60) (W:=64) (n:=8) (i:=20) (x:="_law_script") (dl:=Law.d_law) rfl rfl ⟨rfl,by decide,by decide⟩ (fun w h Y=>PySem.W.kIn_of Y) rfl rfl rfl ?F (fun ns hl=>Law.jtJ (W:=64) (n:=0) ns (jvq _))
 case F=>
  intro w mg h KX G;refine' Law.jsl KX G ?a0 ?l0 ?c0 ?k0 ?a1 ?l1 ?c1 ?k1 ?a2 ?l2 ?c2 ?k2 ?a3 ?l3 ?c3 ?k3 ?a4 ?l4 ?c4 ?k4 ?a5 ?l5 ?c5 ?k5 ?a6 ?l6 ?c6 ?k6 ?a7 ?l7 ?c7 ?k7 ?a8 ?l8 ?c8 ?k8 ?a9 ?l9 ?c9 ?k9 ?a10 ?l10 ?c10 ?k10 ?a11 ?l11 ?c11 ?k11 ?a12 ?l12 ?c12 ?k12 ?a13 ?l13 ?c13 ?k13 ?a14 ?l14 ?c14 ?k14 ?a15 ?l15 ?c15 ?k15 ?a16 ?l16 ?c16 ?k16 ?a17 ?l17 ?c17 ?k17 ?a18 ?l18 ?c18 ?k18 ?a19 ?l19 ?c19 ?k19 ?a20 ?l20 ?c20 ?k20 ?cst0 ?z0 ?z1 ?z2 ?z3 ?z4 ?z5 ?z6 ?z7 ?z8 ?z9 ?z10 ?z11 ?z12 ?z13 ?z14 ?z15 ?z16 ?z17 ?z18 ?z19 ?y0 ?y1 ?e0 ?ga0 ?hk0 ?ca0 ?mo0 ?mb0 ?mv0 ?cd_0 ?ty0 ?xx0 ?e1 ?ga1 ?hk1 ?ca1 ?mo1 ?mb1 ?mv1 ?cd_1 ?ty1 ?xx1 ?e2 ?ga2 ?hk2 ?ca2 ?mo2 ?mb2 ?mv2 ?cd_2 ?ty2 ?xx2 ?e3 ?ga3 ?hk3 ?ca3 ?mo3 ?mb3 ?mv3 ?cd_3 ?ty3 ?xx3 ?e4 ?ga4 ?hk4 ?ca4 ?mo4 ?mb4 ?mv4 ?cd_4 ?ty4 ?xx4 ?e5 ?ga5 ?hk5 ?ca5 ?mo5 ?mb5 ?mv5 ?cd_5 ?ty5 ?xx5 ?m0_0 ?m0_1 ?m0_2 ?m0_3 ?m0_4 ?m0_5 ?m1_0 ?m1_1 ?m1_2 ?m1_3 ?m1_4 ?m1_5 ?m2_0 ?m2_1 ?m2_2 ?m2_3 ?m2_4 ?m2_5 ?m3_0 ?m3_1 ?m3_2 ?m3_3 ?m3_4 ?m3_5 ?m4_0 ?m4_1 ?m4_2 ?m4_3 ?m4_4 ?m4_5 ?m5_0 ?m5_1 ?m5_2 ?m5_3 ?m5_4 ?m5_5
  (case a0=>k_is)
  (case l0=>k_is)
  (case c0=>k_is)
  (case k0=>k_is)
  (case a1=>k_is)
  (case l1=>k_is)
  (case c1=>k_is)
  (case k1=>k_is)
  (case a2=>k_is)
  (case l2=>k_is)
  (case c2=>k_is)
  (case k2=>k_is)
  (case a3=>k_is)
  (case l3=>k_is)
  (case c3=>k_is)
  (case k3=>k_is)
  (case a4=>k_is)
  (case l4=>k_is)
  (case c4=>k_is)
  (case k4=>k_is)
  (case a5=>k_is)
  (case l5=>k_is)
  (case c5=>k_is)
  (case k5=>k_is)
  (case a6=>k_is)
  (case l6=>k_is)
  (case c6=>k_is)
  (case k6=>k_is)
  (case a7=>k_is)
  (case l7=>k_is)
  (case c7=>k_is)
  (case k7=>k_is)
  (case a8=>k_is)
  (case l8=>k_is)
  (case c8=>k_is)
  (case k8=>k_is)
  (case a9=>k_is)
  (case l9=>k_is)
  (case c9=>k_is)
  (case k9=>k_is)
  (case a10=>k_is)
  (case l10=>k_is)
  (case c10=>k_is)
  (case k10=>k_is)
  (case a11=>k_is)
  (case l11=>k_is)
  (case c11=>k_is)
  (case k11=>k_is)
  (case a12=>k_is)
  (case l12=>k_is)
  (case c12=>k_is)
  (case k12=>k_is)
  (case a13=>k_is)
  (case l13=>k_is)
  (case c13=>k_is)
  (case k13=>k_is)
  (case a14=>k_is)
  (case l14=>k_is)
  (case c14=>k_is)
  (case k14=>k_is)
  (case a15=>k_is)
  (case l15=>k_is)
  (case c15=>k_is)
  (case k15=>k_is)
  (case a16=>k_is)
  (case l16=>k_is)
  (case c16=>k_is)
  (case k16=>k_is)
  (case a17=>k_is)
  (case l17=>k_is)
  (case c17=>k_is)
  (case k17=>k_is)
  (case a18=>k_is)
  (case l18=>k_is)
  (case c18=>k_is)
  (case k18=>k_is)
  (case a19=>k_is)
  (case l19=>k_is)
  (case c19=>k_is)
  (case k19=>k_is)
  (case a20=>k_is)
  (case l20=>k_is)
  (case c20=>k_is)
  (case k20=>k_is)
  (case cst0=>k_is)
  (case z0=>k_is)
  (case z1=>k_is)
  (case z2=>k_is)
  (case z3=>k_is)
  (case z4=>k_is)
  (case z5=>k_is)
  (case z6=>k_is)
  (case z7=>k_is)
  (case z8=>k_is)
  (case z9=>k_is)
  (case z10=>k_is)
  (case z11=>k_is)
  (case z12=>k_is)
  (case z13=>k_is)
  (case z14=>k_is)
  (case z15=>k_is)
  (case z16=>k_is)
  (case z17=>k_is)
  (case z18=>k_is)
  (case z19=>k_is)
  (case y0=>k_is)
  (case y1=>k_is)
  (case e0=>k_is)
  (case ga0=>k_is)
  (case hk0=>k_is)
  (case ca0=>k_is)
  (case mo0=>k_is)
  (case mb0=>k_is)
  (case mv0=>k_is)
  (case cd_0=>k_is)
  (case ty0=>k_is)
  (case xx0=>k_exc)
  (case e1=>k_is)
  (case ga1=>k_is)
  (case hk1=>k_is)
  (case ca1=>k_is)
  (case mo1=>k_is)
  (case mb1=>k_is)
  (case mv1=>k_is)
  (case cd_1=>k_is)
  (case ty1=>k_is)
  (case xx1=>k_exc)
  (case e2=>k_is)
  (case ga2=>k_is)
  (case hk2=>k_is)
  (case ca2=>k_is)
  (case mo2=>k_is)
  (case mb2=>k_is)
  (case mv2=>k_is)
  (case cd_2=>k_is)
  (case ty2=>k_is)
  (case xx2=>k_exc)
  (case e3=>k_is)
  (case ga3=>k_is)
  (case hk3=>k_is)
  (case ca3=>k_is)
  (case mo3=>k_is)
  (case mb3=>k_is)
  (case mv3=>k_is)
  (case cd_3=>k_is)
  (case ty3=>k_is)
  (case xx3=>k_exc)
  (case e4=>k_is)
  (case ga4=>k_is)
  (case hk4=>k_is)
  (case ca4=>k_is)
  (case mo4=>k_is)
  (case mb4=>k_is)
  (case mv4=>k_is)
  (case cd_4=>k_is)
  (case ty4=>k_is)
  (case xx4=>k_exc)
  (case e5=>k_is)
  (case ga5=>k_is)
  (case hk5=>k_is)
  (case ca5=>k_is)
  (case mo5=>k_is)
  (case mb5=>k_is)
  (case mv5=>k_is)
  (case cd_5=>k_is)
  (case ty5=>k_is)
  (case xx5=>k_exc)
  (case m0_0=>k_is)
  (case m0_1=>k_is)
  (case m0_2=>k_is)
  (case m0_3=>k_is)
  (case m0_4=>k_is)
  (case m0_5=>k_is)
  (case m1_0=>k_is)
  (case m1_1=>k_is)
  (case m1_2=>k_is)
  (case m1_3=>k_is)
  (case m1_4=>k_is)
  (case m1_5=>k_is)
  (case m2_0=>k_is)
  (case m2_1=>k_is)
  (case m2_2=>k_is)
  (case m2_3=>k_is)
  (case m2_4=>k_is)
  (case m2_5=>k_is)
  (case m3_0=>k_is)
  (case m3_1=>k_is)
  (case m3_2=>k_is)
  (case m3_3=>k_is)
  (case m3_4=>k_is)
  (case m3_5=>k_is)
  (case m4_0=>k_is)
  (case m4_1=>k_is)
  (case m4_2=>k_is)
  (case m4_3=>k_is)
  (case m4_4=>k_is)
  (case m4_5=>k_is)
  (case m5_0=>k_is)
  (case m5_1=>k_is)
  (case m5_2=>k_is)
  (case m5_3=>k_is)
  (case m5_4=>k_is)
  (case m5_5=>k_is)
